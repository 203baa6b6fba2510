/- Contracts of the specification's l5Put and l5Join, through a pointer; lists of at most 2^20 parts. -/
import Derived.Test.YtinngechdnglpaaTakD
import Derived.Test.YtinngechdnglpaaMg1
import Derived.Test.YtinngechdnglpaaRowH
namespace Go.Proofs.Ytinngechdnglpaa.Tak
open Go.RowKit RowG
set_option linter.unusedVariables false
set_option linter.unusedSimpArgs false

/-- How many of a list's first elements f holds of. -/
def cnt {α : Type} (f : α → Bool) : List α → Nat
  | [] => 0
  | x :: l => if f x = true then cnt f l + 1 else 0
theorem cnt_le {α : Type} (f : α → Bool) : ∀ l : List α, cnt f l ≤ l.length
  | [] => Nat.le_refl _
  | x :: l => by
    have := cnt_le f l
    simp only [cnt, List.length_cons]
    split <;> omega
theorem cnt_is {α : Type} {f : α → Bool} : ∀ {l : List α} {k : Nat}, k ≤ l.length → (∀ j x, j < k → l[j]? = some x → f x = true) → (∀ x, l[k]? = some x → f x = false) → cnt f l = k
  | [], k, h, _, _ => by simp at h; simp [cnt, h]
  | x :: l, 0, _, _, h => by
    have h0 : f x = false := h x rfl
    simp [cnt, h0]
  | x :: l, k + 1, h, ha, hb => by
    have h0 : f x = true := ha 0 x (by omega) rfl
    have h1 := cnt_is (f := f) (l := l) (k := k) (by simpa using h) (fun j y hj hy => ha (j + 1) y (by omega) (by simpa using hy)) (fun y hy => hb y (by simpa using hy))
    simp [cnt, h0, h1]
def ahead (p : Pt) (x : Pt) : Bool := decide (x.1 < p.1)
theorem triple {α : Type} {E : El α} {w w' : World} {r : Option Nat} {p q s : Addr} {x y z : Value} (g : w.grownBy w' r) (h : w.cell? p = some x ∧ w.cell? q = some y ∧ w.cell? s = some z) (hp : some p.block ≠ r) (hq : some q.block ≠ r) (hs : some s.block ≠ r) : w'.cell? p = some x ∧ w'.cell? q = some y ∧ w'.cell? s = some z :=
  ⟨grown_cell g h.1 hp, grown_cell g h.2.1 hq, grown_cell g h.2.2 hs⟩
theorem _root_.Go.Proofs.Ytinngechdnglpaa.RowG.El.Own.blk_ne {α : Type} {E : El α} {T : TypeId} {w : World} {B : Nat} {a : Option Addr} {c : Nat} {l : List α} (h : E.Own T w B a c l) {k : Nat} (hk : k < B) : some k ≠ blk a := by
  intro e
  cases a with
  | none => simp [blk] at e
  | some x =>
    have := (h.lt x rfl).1
    simp [blk] at e
    omega
theorem _root_.Go.Proofs.Ytinngechdnglpaa.RowG.El.Own.blk_le {α : Type} {E : El α} {T : TypeId} {w : World} {B : Nat} {a : Option Addr} {c : Nat} {l : List α} (h : E.Own T w B a c l) {k : Nat} (hk : blk a = some k) : B ≤ k := by
  cases a with
  | none => simp [blk] at hk
  | some x =>
    have := (h.lt x rfl).1
    simp [blk] at hk
    omega
/-- A part more, where it belongs. -/
def putP (l : List Pt) (p : Pt) : List Pt := l.take (cnt (ahead p) l) ++ [p] ++ l.drop (cnt (ahead p) l)
theorem putP_len (l : List Pt) (p : Pt) : (putP l p).length = l.length + 1 := by
  have := cnt_le (ahead p) l
  simp [putP]
  omega

set_option maxHeartbeats 4000000 in
theorem l5Put (k : Nat) (nx : Int) (bs : ByteArray) (a : Option Addr) (c : Nat) (cp fi : Int) (en : Bool) (l : List Pt) (pa : Int) (pb : ByteArray) (w : World)
    (hv : Var 26 w k [.int .i64 nx, .string bs, .slice a l.length c, .int .i64 cp, .int .i64 fi, .bool en]) (h : partE.Lies w a l) (hk : ∀ x, a = some x → x.block ≠ k) (hl : l.length ≤ 1048576) (hc : l.length ≤ c) (ha : a = none → c = 0) :
    Calls Try.prog 63 #[.pointer (some ⟨k, 0, none⟩), .agg #[.int .i64 pa, .string pb]] w fun x w' => ∃ a' c', x = .returned (.tuple #[]) ∧ Var 26 w' k [.int .i64 nx, .string bs, .slice a' (putP l (pa, pb)).length c', .int .i64 cp, .int .i64 fi, .bool en] ∧ partE.Own 53 w' w.heap.size a' c' (putP l (pa, pb)) ∧ Draw.Kept k w w' := by
  have hmix := mix
  have v0 := hv.alloc (.cells #[.int .i64 pa, .string pb] 53)
  have bA : Below w.heap.size w (w.alloc (.cells #[.int .i64 pa, .string pb] 53)) := (Below.refl _ _).alloc (Nat.le_refl _) _
  have hb2 := box2 w (.int .i64 pa) (.string pb) 53
  have hVs : Hid (w.heap.size < (w.alloc (.cells #[.int .i64 pa, .string pb] 53)).heap.size) := by show _ < _; simp
  have h1 := h.later bA
  go_enter Try.func63, Try.ntmps63
  go_wp2_with fail
  generalize hV : w.alloc (.cells #[.int .i64 pa, .string pb] 53) = V at *
  clear hV
  have e2 := v0.cell (i := 2) rfl
  have HB2 : Hid _ := hb2
  have HV0 : Hid (Var 26 V k [.int .i64 nx, .string bs, .slice a l.length c, .int .i64 cp, .int .i64 fi, .bool en]) := v0
  have HKa : Hid (∀ x, a = some x → x.block ≠ k) := hk
  have HNa : Hid (a = none → c = 0) := ha
  have bV : Hid (Below w.heap.size w V) := bA
  clear v0 hv h hk ha bA
  have hV1 := hVs.out
  go_loopw [4] (fun iv wr => ∃ j : Nat, j ≤ l.length ∧ iv = .int .i64 j ∧ Hid (∀ i x, i < j → l[i]? = some x → ahead (pa, pb) x = true) ∧ Below V.heap.size V wr) (fun iv _ => l.length - (intOf iv).toNat)
  case atStart => exact ⟨0, Nat.zero_le _, rfl, fun i x hi => absurd hi (Nat.not_lt_zero _), Below.refl _ _⟩
  case round =>
    clear e2
    obtain ⟨j, hj, rfl, hall, hB⟩ := hrel
    have vr := Var.later (T := 26) HV0.out hB
    have b0 := (hB.cell (p := ⟨w.heap.size, 0, none⟩) hV1).trans HB2.out.1
    have d2 := Draw.Later.cell (vr.cell (i := 2) rfl)
    have p0 := Draw.Later.cell b0
    have hL1 := h1.later hB
    have hex : (∃ xa xb, l[j]? = some (xa, xb) ∧ xa < pa) ∨ (∃ xa xb, l[j]? = some (xa, xb) ∧ ¬ xa < pa) ∨ j = l.length := by
      by_cases q : j < l.length
      · obtain ⟨⟨xa, xb⟩, hx⟩ : ∃ x, l[j]? = some x := ⟨l[j], List.getElem?_eq_getElem q⟩
        by_cases q2 : xa < pa
        · exact .inl ⟨xa, xb, hx, q2⟩
        · exact .inr (.inl ⟨xa, xb, hx, q2⟩)
      · exact .inr (.inr (by omega))
    rcases hex with ⟨xa, xb, hx, hlt⟩ | ⟨xa, xb, hx, hlt⟩ | hlt
    focus
      have hjl : j < l.length := (List.getElem?_eq_some_iff.1 hx).1
      have HN : Hid (∀ i x, i < j + 1 → l[i]? = some x → ahead (pa, pb) x = true) := fun i x hi hx' => by
        by_cases q : i = j
        · subst q; rw [hx] at hx'; cases hx'; exact decide_eq_true hlt
        · exact hall.out i x (by omega) hx'
      rcases hL1 with hL1 | ⟨b, off, ha', hL1⟩
      · simp [hL1] at hjl
      · have c0 := Draw.Later.cell (show wr.cell? ⟨b, off + j * 2, none⟩ = some (.int .i64 xa) from El.Lies.cell hL1 hx (j := 0) rfl)
        have i0 : (0 : Int) ≤ (j : Int) := by omega
        have i1 : (j : Int) < (l.length : Int) := by omega
        clear hL1 hx hall
        subst ha'
        go_wp2_with fail
        refine Draw.wp_region_later hmix (by kernel_rfl) ?_
        repeat (go_big_quiet_step (fail))
        refine wpQuiet_nil ?_
        intro wq hw'
        obtain ⟨q, hq⟩ := hw'
        have hBq := q.h
        rw [← hq] at hBq
        clear hq q d2 p0 c0 b0 vr
        have B3 := hB.trans (hBq.mono hB.size)
        clear hBq hB
        go_wp2_with fail
        go_roundw
        case rel => exact ⟨j + 1, by omega, by go_num, HN, B3⟩
        case measure => simp [intOf]; omega
    focus
      have hjl : j < l.length := (List.getElem?_eq_some_iff.1 hx).1
      have HC : Hid (cnt (ahead (pa, pb)) l = j) := cnt_is hj hall.out (fun y hy => by rw [hx] at hy; cases hy; exact decide_eq_false hlt)
      rcases hL1 with hL1 | ⟨b, off, ha', hL1⟩
      · simp [hL1] at hjl
      have c0 := Draw.Later.cell (show wr.cell? ⟨b, off + j * 2, none⟩ = some (.int .i64 xa) from El.Lies.cell hL1 hx (j := 0) rfl)
      have i0 : (0 : Int) ≤ (j : Int) := by omega
      have i1 : (j : Int) < (l.length : Int) := by omega
      clear hL1 hx hall
      subst ha'
      go_wp2_with fail
      refine Draw.wp_region_later hmix (by kernel_rfl) ?_
      repeat (go_big_quiet_step (fail))
      refine wpQuiet_nil ?_
      intro wq hw'
      obtain ⟨q, hq⟩ := hw'
      have hBq := q.h
      rw [← hq] at hBq
      clear hq q d2 p0 c0 b0 vr
      have B3 := hB.trans (hBq.mono hB.size)
      clear hBq hB i0 i1 hjl
      generalize (some ⟨b, off, none⟩ : Option Addr) = a at *
    rotate_left
    focus
      have HC : Hid (cnt (ahead (pa, pb)) l = j) := cnt_is hj hall.out (fun y hy => by rw [hlt] at hy; simp at hy)
      have i1 : ¬ (j : Int) < (l.length : Int) := by omega
      have i1d : decide ((j : Int) < (l.length : Int)) = false := decide_eq_false i1
      have i1e : decide (j < l.length) = false := decide_eq_false (by omega)
      clear hL1 hall hlt
      go_wp2_with fail
      refine Draw.wp_region_later hmix (by kernel_rfl) ?_
      repeat (go_big_quiet_step (fail))
      refine wpQuiet_nil ?_
      intro wq hw'
      obtain ⟨q, hq⟩ := hw'
      have hBq := q.h
      rw [← hq] at hBq
      clear hq q d2 p0 b0 vr
      have B3 := hB.trans (hBq.mono hB.size)
      clear hBq hB i1 i1d i1e
    all_goals
      have vr := Var.later (T := 26) HV0.out B3
      have hL1 := h1.later B3
      have c0 := (B3.cell (p := ⟨w.heap.size, 0, none⟩) hV1).trans HB2.out.1
      have c1 := (B3.cell (p := ⟨w.heap.size, 1, none⟩) hV1).trans HB2.out.2
      have hws : w.heap.size < wq.heap.size := Nat.lt_of_lt_of_le hV1 B3.size
      have i0 : (0 : Int) ≤ (j : Int) := by omega
      have i1 : (j : Int) ≤ (l.length : Int) := by omega
      have i2 : (l.length : Int) ≤ (c : Int) := by omega
      have vA := vr.alloc (.cells #[] 53)
      have c2 := vA.cell (i := 2) rfl
      have bA : Below wq.heap.size wq (wq.alloc (.cells #[] 53)) := (Below.refl _ _).alloc (Nat.le_refl _) _
      have lA := hL1.later bA
      have o0 := El.Own.made (E := partE) (T := 53) wq
      have hz : ([] : List Pt).length + (l.drop j).length ≤ 4194304 := by simp; omega
      have hdl : l.length - j = (l.drop j).length := by simp
      have HDL : Hid (l.length - j = (l.drop j).length) := hdl
      clear hdl
      have hBs : wq.heap.size ≤ (wq.alloc (.cells #[] 53)).heap.size := by simp
      go_wp2_with (first | (refine wpList_from typ (by rfl) _ _ (by rfl) a l.length c l rfl (by rfl) .i64 j (by rfl) hj hc lA HNa.out ?_; intro sp hsp1 hsp2 hsp3) | (at_builtin; refine wpList_app typ (by decide) (by rfl) _ _ (by rfl) wq.heap.size (some ⟨wq.heap.size, 0, none⟩) 0 0 [] (l.drop j) rfl (by rfl) o0 hBs sp _ _ HDL.out (by rfl) hsp1 hsp2 hz ?_; intro a1 q1 w1 o1 g1; refine stand ?_))
      have hx1 := fun x e => (o1.lt x e)
      rw [List.nil_append] at o1
      have v1 := vA.grown g1 (by intro g hg; simp [blk] at hg; have := vr.lt; omega)
      have bw1 : Below wq.heap.size wq w1 := grown_below bA (Nat.le_refl _) (by intro g hg; simp [blk] at hg; omega) g1
      have r0 := (bw1.cell (p := ⟨w.heap.size, 0, none⟩) hws).trans c0
      have r1 := (bw1.cell (p := ⟨w.heap.size, 1, none⟩) hws).trans c1
      have l1 := hL1.later bw1
      have K1 : Draw.Kept k w w1 := Draw.Kept.ofBelow (bV.out.trans ((B3.trans (bw1.mono B3.size)).mono bV.out.size)) (Nat.le_refl _)
      clear g1 hsp1 hsp2 hsp3 vA lA o0 hz hBs c0 c1 c2 bA
      show wpList _ _ _ _ _ _
      have e2 := v1.cell (i := 2) rfl
      go_wp2_with fail
      have hkl : k < w1.heap.size := v1.lt
      have i3 : (j : Int) ≤ (c : Int) := by omega
      have i3n : j ≤ c := by omega
      have hwl : w.heap.size < w1.heap.size := Nat.lt_of_lt_of_le hws bw1.size
      have HTJ : Hid (j = (l.take j).length) := by show _ = _; simp; omega
      have HN11 : Hid (j + 1 = (l.take j ++ [(pa, pb)]).length) := by show _ = _; simp; omega
      have HPU : Hid (putP l (pa, pb) = l.take j ++ [(pa, pb)] ++ l.drop j) := by show _ = _; rw [putP, HC.out]
      have HPL : Hid ((putP l (pa, pb)).length = j + 1 + (l.length - j)) := by show _ = _; rw [putP_len]; omega
      have hzA : ([] : List Pt).length + (l.take j).length ≤ 4194304 := by simp; omega
      have hzB : (l.take j).length + [(pa, pb)].length ≤ 4194304 := by simp; omega
      have hzC : (l.take j ++ [(pa, pb)]).length + (l.drop j).length ≤ 4194304 := by simp; omega
      have oA := El.Own.made (E := partE) (T := 53) w1.drew
      have oC : partE.Own 53 ((w1.drew.alloc (.cells #[.int .i64 pa, .string pb] 53)).alloc (.cells #[] 53)) w1.heap.size (some ⟨w1.heap.size + 1, 0, none⟩) 0 [] := (by have := El.Own.made (E := partE) (T := 53) (w1.drew.alloc (.cells #[.int .i64 pa, .string pb] 53)); simpa using this : partE.Own 53 ((w1.drew.alloc (.cells #[.int .i64 pa, .string pb] 53)).alloc (.cells #[] 53)) (w1.heap.size + 1) (some ⟨w1.heap.size + 1, 0, none⟩) 0 []).mono (Nat.le_succ _)
      have lB : partE.Lies ((w1.drew.alloc (.cells #[] 53)).alloc (.cells #[.int .i64 pa, .string pb] 53)) (some ⟨w1.heap.size + 1, 0, none⟩) [(pa, pb)] := by have := El.lies_new (E := partE) (T := 53) (w := w1.drew.alloc (.cells #[] 53)) (x := (pa, pb)) (cs := #[.int .i64 pa, .string pb]) rfl; simpa using this
      have lC : partE.Lies ((w1.drew.alloc (.cells #[.int .i64 pa, .string pb] 53)).alloc (.cells #[] 53)) (some ⟨w1.heap.size, 0, none⟩) [(pa, pb)] := (El.lies_new (E := partE) (T := 53) (w := w1.drew) (x := (pa, pb)) (cs := #[.int .i64 pa, .string pb]) rfl).alloc _
      have hBA : w1.heap.size ≤ (w1.drew.alloc (.cells #[] 53)).heap.size := by simp
      have hBB : w1.heap.size ≤ ((w1.drew.alloc (.cells #[] 53)).alloc (.cells #[.int .i64 pa, .string pb] 53)).heap.size := by simp; omega
      have hBC : w1.heap.size ≤ ((w1.drew.alloc (.cells #[.int .i64 pa, .string pb] 53)).alloc (.cells #[] 53)).heap.size := by simp; omega
      refine Draw.wp_region_Z (S := (fun w' => w'.cell? ⟨k, 2, none⟩ = some (.slice a l.length c) ∧ w'.cell? ⟨w.heap.size, 0, none⟩ = some (.int .i64 pa) ∧ w'.cell? ⟨w.heap.size, 1, none⟩ = some (.string pb))) 16 (by kernel_rfl) ?_ (fun hHeld => ?_)
      focus ((try dsimp only) <;> (first | exact ⟨e2, r0, r1⟩ | exact hHeld | exact hT | exact ⟨alloc_cell hHeld.1 _, alloc_cell hHeld.2.1 _, alloc_cell hHeld.2.2 _⟩))
      refine Draw.wpAnyZ_take (i := 0) (v := ?_) rfl (by kernel_rfl) (by kernel_rfl) (by kernel_rfl) (by kernel_rfl) (fun _ _ _ h => h) (Or.inl ⟨by rfl, ?_⟩) (by assumption) ?_
      rotate_left 1
      focus (intro wS hSw; (try dsimp only at hSw); go_simp; first | done | (constructor <;> with_reducible rfl) | with_reducible rfl)
      (try simp only [Act.put, List.getElem_toArray, List.getElem_cons_zero, List.getElem_cons_succ, List.setIfInBounds_toArray, List.set_cons_zero, List.set_cons_succ])
      refine Draw.wpAnyZ_take (i := 2) (v := ?_) rfl (by kernel_rfl) (by kernel_rfl) (by kernel_rfl) (by kernel_rfl) (fun _ _ _ h => h) (Or.inl ⟨by rfl, ?_⟩) (by assumption) ?_
      rotate_left 1
      focus (intro wS hSw; (try dsimp only at hSw); go_simp; first | done | (constructor <;> with_reducible rfl) | with_reducible rfl)
      (try simp only [Act.put, List.getElem_toArray, List.getElem_cons_zero, List.getElem_cons_succ, List.setIfInBounds_toArray, List.set_cons_zero, List.set_cons_succ])
      refine Draw.wpAnyZ_take (i := 3) (v := ?_) rfl (by kernel_rfl) (by kernel_rfl) (by kernel_rfl) (by kernel_rfl) (fun _ _ _ h => h) (Or.inl ⟨by rfl, ?_⟩) (by assumption) ?_
      rotate_left 1
      focus (intro wS hSw; (try dsimp only at hSw); go_simp; first | done | (constructor <;> with_reducible rfl) | with_reducible rfl)
      (try simp only [Act.put, List.getElem_toArray, List.getElem_cons_zero, List.getElem_cons_succ, List.setIfInBounds_toArray, List.set_cons_zero, List.set_cons_succ])
      refine Draw.wpAnyZ_take (i := 4) (v := ?_) rfl (by kernel_rfl) (by kernel_rfl) (by kernel_rfl) (by kernel_rfl) (fun _ _ _ h => h) (Or.inl ⟨by rfl, ?_⟩) (by assumption) ?_
      rotate_left 1
      focus (intro wS hSw; (try dsimp only at hSw); go_simp; first | done | (constructor <;> with_reducible rfl) | with_reducible rfl)
      (try simp only [Act.put, List.getElem_toArray, List.getElem_cons_zero, List.getElem_cons_succ, List.setIfInBounds_toArray, List.set_cons_zero, List.set_cons_succ])
      refine Draw.wpAnyZ_take (i := 5) (v := ?_) rfl (by kernel_rfl) (by kernel_rfl) (by kernel_rfl) (by kernel_rfl) (fun _ _ _ h => h) (Or.inl ⟨by rfl, ?_⟩) (by assumption) ?_
      rotate_left 1
      focus (intro wS hSw; (try dsimp only at hSw); go_simp; first | done | (constructor <;> with_reducible rfl) | with_reducible rfl)
      (try simp only [Act.put, List.getElem_toArray, List.getElem_cons_zero, List.getElem_cons_succ, List.setIfInBounds_toArray, List.set_cons_zero, List.set_cons_succ])
      refine Draw.wpAnyZ_take (i := 6) (v := ?_) rfl (by kernel_rfl) (by kernel_rfl) (by kernel_rfl) (by kernel_rfl) (fun _ _ _ h => h) (Or.inl ⟨by rfl, ?_⟩) (by assumption) ?_
      rotate_left 1
      focus (intro wS hSw; (try dsimp only at hSw); go_simp; first | done | (constructor <;> with_reducible rfl) | with_reducible rfl)
      (try simp only [Act.put, List.getElem_toArray, List.getElem_cons_zero, List.getElem_cons_succ, List.setIfInBounds_toArray, List.set_cons_zero, List.set_cons_succ])
      refine Draw.wpAnyZ_take (i := 7) (v := ?_) rfl (by kernel_rfl) (by kernel_rfl) (by kernel_rfl) (by kernel_rfl) (fun _ _ _ h => h) (Or.inl ⟨by rfl, ?_⟩) (by assumption) ?_
      rotate_left 1
      focus (intro wS hSw; (try dsimp only at hSw); go_simp; first | done | (constructor <;> with_reducible rfl) | with_reducible rfl)
      (try simp only [Act.put, List.getElem_toArray, List.getElem_cons_zero, List.getElem_cons_succ, List.setIfInBounds_toArray, List.set_cons_zero, List.set_cons_succ])
      refine Draw.wpAnyZ_take (i := 9) (v := ?_) rfl (by kernel_rfl) (by kernel_rfl) (by kernel_rfl) (by kernel_rfl) (fun _ _ _ h => h) (Or.inl ⟨by rfl, ?_⟩) (by assumption) ?_
      rotate_left 1
      focus (intro wS hSw; (try dsimp only at hSw); go_simp; first | done | (constructor <;> with_reducible rfl) | with_reducible rfl)
      (try simp only [Act.put, List.getElem_toArray, List.getElem_cons_zero, List.getElem_cons_succ, List.setIfInBounds_toArray, List.set_cons_zero, List.set_cons_succ])
      refine Draw.wpAnyZ_take (i := 12) (v := ?_) rfl (by kernel_rfl) (by kernel_rfl) (by kernel_rfl) (by kernel_rfl) (fun _ _ _ h => h) (Or.inl ⟨by rfl, ?_⟩) (by assumption) ?_
      rotate_left 1
      focus (intro wS hSw; (try dsimp only at hSw); go_simp; first | done | (constructor <;> with_reducible rfl) | with_reducible rfl)
      (try simp only [Act.put, List.getElem_toArray, List.getElem_cons_zero, List.getElem_cons_succ, List.setIfInBounds_toArray, List.set_cons_zero, List.set_cons_succ])
      refine Draw.wpAnyZ_ready (rs := [1, 10]) (by kernel_rfl) (by simp) ?_
      refine Draw.AllReadyZ.cons rfl (fun K hK => ?_) (Draw.AllReadyZ.cons rfl (fun K hK => ?_) (Draw.AllReadyZ.nil))
      focus
        go_simp
        refine hK.out _ _ ?_ (fun hHeld => ?_)
        focus (intro _; (try dsimp only) <;> (first | exact ⟨e2, r0, r1⟩ | exact hHeld | exact hT | exact ⟨alloc_cell hHeld.1 _, alloc_cell hHeld.2.1 _, alloc_cell hHeld.2.2 _⟩))
        clear hK K
        replace hHeld := hHeld (by decide)
        (try simp only [Act.put, List.getElem_toArray, List.getElem_cons_zero, List.getElem_cons_succ, List.setIfInBounds_toArray, List.set_cons_zero, List.set_cons_succ])
        refine Draw.wpAnyZ_ready (rs := [8, 10]) (by kernel_rfl) (by simp) ?_
        refine Draw.AllReadyZ.cons rfl (fun K hK => ?_) (Draw.AllReadyZ.cons rfl (fun K hK => ?_) (Draw.AllReadyZ.nil))
        focus
          (refine step_app typ (by decide) (by rfl) _ _ (by rfl) w1.heap.size (some ⟨w1.heap.size, 0, none⟩) 0 0 [] (l.take j) rfl (by rfl) oA hBA _ _ _ HTJ.out (by rfl) ((l1.drew.alloc (.cells #[] 53)).take j) HNa.out hzA ?_; intro a2 q2 w2 o2 g2; rw [List.nil_append] at o2; rw [Nat.zero_add]; have hT := triple (E := partE) g2 hHeld (by simp [blk]; omega) (by simp [blk]; omega) (by simp [blk]; omega); have v2 := (v1.drew.alloc (.cells #[] 53)).grown g2 (by intro g hg; simp [blk] at hg; omega); have r2 := (o1.drew.alloc (.cells #[] 53)).grown g2 (by intro x hx; have := hx1 x hx; simp [blk]; omega); have k2 := kept_grown (K1.drew.alloc (.cells #[] 53)) g2 (by intro g hg; simp [blk] at hg; have := K1.size; omega); have z2 : w1.heap.size ≤ w2.heap.size := Nat.le_trans hBA g2.size)
          refine hK.out _ _ ?_ (fun hHeld => ?_)
          focus (intro _; (try dsimp only) <;> (first | exact ⟨e2, r0, r1⟩ | exact hHeld | exact hT | exact ⟨alloc_cell hHeld.1 _, alloc_cell hHeld.2.1 _, alloc_cell hHeld.2.2 _⟩))
          clear hK K
          replace hHeld := hHeld (by decide)
          (try simp only [Act.put, List.getElem_toArray, List.getElem_cons_zero, List.getElem_cons_succ, List.setIfInBounds_toArray, List.set_cons_zero, List.set_cons_succ])
          refine Draw.wpAnyZ_ready (rs := [10]) (by kernel_rfl) (by simp) ?_
          refine Draw.AllReadyZ.cons rfl (fun K hK => ?_) Draw.AllReadyZ.nil
          go_simp
          refine hK.out _ _ ?_ (fun hHeld => ?_)
          focus (intro _; (try dsimp only) <;> (first | exact ⟨e2, r0, r1⟩ | exact hHeld | exact hT | exact ⟨alloc_cell hHeld.1 _, alloc_cell hHeld.2.1 _, alloc_cell hHeld.2.2 _⟩))
          clear hK K
          replace hHeld := hHeld (by decide)
          (try simp only [Act.put, List.getElem_toArray, List.getElem_cons_zero, List.getElem_cons_succ, List.setIfInBounds_toArray, List.set_cons_zero, List.set_cons_succ])
          refine Draw.wpAnyZ_ready (rs := [11]) (by kernel_rfl) (by simp) ?_
          refine Draw.AllReadyZ.cons rfl (fun K hK => ?_) Draw.AllReadyZ.nil
          (refine step_app typ (by decide) (by rfl) _ _ (by rfl) w1.heap.size a2 q2 j (l.take j) [(pa, pb)] HTJ.out (by rfl) (o2.alloc _) (Nat.le_trans z2 (by simp)) (some ⟨w2.heap.size, 0, none⟩) 1 1 rfl (by rfl) (El.lies_new rfl) (by simp) hzB ?_; intro a3 q3 w3 o3 g3; have hT := triple (E := partE) g3 hHeld (o2.blk_ne hkl) (o2.blk_ne hwl) (o2.blk_ne hwl); have v3 := (v2.alloc (.cells #[.int .i64 pa, .string pb] 53)).grown g3 (by intro g hg e; exact o2.blk_ne hkl (by rw [e, hg])); have r3 := (r2.alloc (.cells #[.int .i64 pa, .string pb] 53)).grown g3 (by intro x hx; exact o2.blk_ne (hx1 x hx).2); have k3 := kept_grown (k2.alloc (.cells #[.int .i64 pa, .string pb] 53)) g3 (by intro g hg; exact .inl (Nat.le_trans K1.size (o2.blk_le hg))); have z3 : w1.heap.size ≤ w3.heap.size := Nat.le_trans z2 (Nat.le_trans (by simp) g3.size))
          refine hK.out _ _ ?_ (fun hHeld => ?_)
          focus (intro _; (try dsimp only) <;> (first | exact ⟨e2, r0, r1⟩ | exact hHeld | exact hT | exact ⟨alloc_cell hHeld.1 _, alloc_cell hHeld.2.1 _, alloc_cell hHeld.2.2 _⟩))
          clear hK K
          replace hHeld := hHeld (by decide)
          (try simp only [Act.put, List.getElem_toArray, List.getElem_cons_zero, List.getElem_cons_succ, List.setIfInBounds_toArray, List.set_cons_zero, List.set_cons_succ])
          refine Draw.wpAnyZ_ready (rs := [13]) (by kernel_rfl) (by simp) ?_
          refine Draw.AllReadyZ.cons rfl (fun K hK => ?_) Draw.AllReadyZ.nil
          (refine step_app typ (by decide) (by rfl) _ _ (by rfl) w1.heap.size a3 q3 (j + 1) (l.take j ++ [(pa, pb)]) (l.drop j) HN11.out (by rfl) o3 z3 a1 _ q1 HDL.out (by rfl) r3.lies r3.none_cap hzC ?_; intro a4 q4 w4 o4 g4; have hT := triple (E := partE) g4 hHeld (o3.blk_ne hkl) (o3.blk_ne hwl) (o3.blk_ne hwl); have v4 := v3.grown g4 (by intro g hg e; exact o3.blk_ne hkl (by rw [e, hg])); have k4 := kept_grown k3 g4 (by intro g hg; exact .inl (Nat.le_trans K1.size (o3.blk_le hg))); have cc2 := v4.cell (i := 2) rfl; have ff2 := v4.free 2)
          refine hK.out _ _ ?_ (fun hHeld => ?_)
          focus (intro _; (try dsimp only) <;> (first | exact ⟨e2, r0, r1⟩ | exact hHeld | exact hT | exact ⟨alloc_cell hHeld.1 _, alloc_cell hHeld.2.1 _, alloc_cell hHeld.2.2 _⟩))
          clear hK K
          replace hHeld := hHeld (by decide)
          (try simp only [Act.put, List.getElem_toArray, List.getElem_cons_zero, List.getElem_cons_succ, List.setIfInBounds_toArray, List.set_cons_zero, List.set_cons_succ])
          refine Draw.wpAnyZ_ready (rs := [14]) (by kernel_rfl) (by simp) ?_
          refine Draw.AllReadyZ.cons rfl (fun K hK => ?_) Draw.AllReadyZ.nil
          go_simp
          refine hK.out _ _ ?_ (fun hHeld => ?_)
          focus (intro _; (try dsimp only) <;> (first | exact ⟨e2, r0, r1⟩ | exact hHeld | exact hT | exact ⟨alloc_cell hHeld.1 _, alloc_cell hHeld.2.1 _, alloc_cell hHeld.2.2 _⟩))
          clear hK K
          replace hHeld := hHeld (by decide)
          (try simp only [Act.put, List.getElem_toArray, List.getElem_cons_zero, List.getElem_cons_succ, List.setIfInBounds_toArray, List.set_cons_zero, List.set_cons_succ])
          refine Draw.wpAnyZ_ready (rs := [15]) (by kernel_rfl) (by simp) ?_
          refine Draw.AllReadyZ.cons rfl (fun K hK => ?_) Draw.AllReadyZ.nil
          go_simp
          refine hK.out _ _ ?_ (fun hHeld => ?_)
          focus (intro _; (try dsimp only) <;> (first | exact ⟨e2, r0, r1⟩ | exact hHeld | exact hT | exact ⟨alloc_cell hHeld.1 _, alloc_cell hHeld.2.1 _, alloc_cell hHeld.2.2 _⟩))
          clear hK K
          replace hHeld := hHeld (by decide)
          (try simp only [Act.put, List.getElem_toArray, List.getElem_cons_zero, List.getElem_cons_succ, List.setIfInBounds_toArray, List.set_cons_zero, List.set_cons_succ])
          refine Draw.wpAnyZ_ready (rs := [16]) (by kernel_rfl) (by simp) ?_
          refine Draw.AllReadyZ.cons rfl (fun K hK => ?_) Draw.AllReadyZ.nil
          go_simp
          refine hK.out _ _ (fun h => absurd rfl h) (fun hHeld => ?_)
          clear hK K hHeld
          (try simp only [Act.put, List.getElem_toArray, List.getElem_cons_zero, List.getElem_cons_succ, List.setIfInBounds_toArray, List.set_cons_zero, List.set_cons_succ])
          refine Draw.wpAnyZ_done (by kernel_rfl) ?_ _
        rotate_left 1
        focus
          go_simp
          refine hK.out _ _ ?_ (fun hHeld => ?_)
          focus (intro _; (try dsimp only) <;> (first | exact ⟨e2, r0, r1⟩ | exact hHeld | exact hT | exact ⟨alloc_cell hHeld.1 _, alloc_cell hHeld.2.1 _, alloc_cell hHeld.2.2 _⟩))
          clear hK K
          replace hHeld := hHeld (by decide)
          (try simp only [Act.put, List.getElem_toArray, List.getElem_cons_zero, List.getElem_cons_succ, List.setIfInBounds_toArray, List.set_cons_zero, List.set_cons_succ])
          refine Draw.wpAnyZ_ready (rs := [8]) (by kernel_rfl) (by simp) ?_
          refine Draw.AllReadyZ.cons rfl (fun K hK => ?_) Draw.AllReadyZ.nil
          (refine step_app typ (by decide) (by rfl) _ _ (by rfl) w1.heap.size (some ⟨w1.heap.size, 0, none⟩) 0 0 [] (l.take j) rfl (by rfl) (oA.alloc (.cells #[.int .i64 pa, .string pb] 53)) hBB _ _ _ HTJ.out (by rfl) (((l1.drew.alloc (.cells #[] 53)).alloc (.cells #[.int .i64 pa, .string pb] 53)).take j) HNa.out hzA ?_; intro a2 q2 w2 o2 g2; rw [List.nil_append] at o2; rw [Nat.zero_add]; have hT := triple (E := partE) g2 hHeld (by simp [blk]; omega) (by simp [blk]; omega) (by simp [blk]; omega); have v2 := ((v1.drew.alloc (.cells #[] 53)).alloc (.cells #[.int .i64 pa, .string pb] 53)).grown g2 (by intro g hg; simp [blk] at hg; omega); have r2 := ((o1.drew.alloc (.cells #[] 53)).alloc (.cells #[.int .i64 pa, .string pb] 53)).grown g2 (by intro x hx; have := hx1 x hx; simp [blk]; omega); have k2 := kept_grown ((K1.drew.alloc (.cells #[] 53)).alloc (.cells #[.int .i64 pa, .string pb] 53)) g2 (by intro g hg; simp [blk] at hg; have := K1.size; omega); have z2 : w1.heap.size ≤ w2.heap.size := Nat.le_trans hBB g2.size; have s2 := lB.grown g2 (by intro x hx; simp [blk]; cases hx; simp))
          refine hK.out _ _ ?_ (fun hHeld => ?_)
          focus (intro _; (try dsimp only) <;> (first | exact ⟨e2, r0, r1⟩ | exact hHeld | exact hT | exact ⟨alloc_cell hHeld.1 _, alloc_cell hHeld.2.1 _, alloc_cell hHeld.2.2 _⟩))
          clear hK K
          replace hHeld := hHeld (by decide)
          (try simp only [Act.put, List.getElem_toArray, List.getElem_cons_zero, List.getElem_cons_succ, List.setIfInBounds_toArray, List.set_cons_zero, List.set_cons_succ])
          refine Draw.wpAnyZ_ready (rs := [11]) (by kernel_rfl) (by simp) ?_
          refine Draw.AllReadyZ.cons rfl (fun K hK => ?_) Draw.AllReadyZ.nil
          (refine step_app typ (by decide) (by rfl) _ _ (by rfl) w1.heap.size a2 q2 j (l.take j) [(pa, pb)] HTJ.out (by rfl) o2 z2 (some ⟨w1.heap.size + 1, 0, none⟩) 1 1 rfl (by rfl) s2 (by simp) hzB ?_; intro a3 q3 w3 o3 g3; have hT := triple (E := partE) g3 hHeld (o2.blk_ne hkl) (o2.blk_ne hwl) (o2.blk_ne hwl); have v3 := v2.grown g3 (by intro g hg e; exact o2.blk_ne hkl (by rw [e, hg])); have r3 := r2.grown g3 (by intro x hx; exact o2.blk_ne (hx1 x hx).2); have k3 := kept_grown k2 g3 (by intro g hg; exact .inl (Nat.le_trans K1.size (o2.blk_le hg))); have z3 : w1.heap.size ≤ w3.heap.size := Nat.le_trans z2 g3.size)
          refine hK.out _ _ ?_ (fun hHeld => ?_)
          focus (intro _; (try dsimp only) <;> (first | exact ⟨e2, r0, r1⟩ | exact hHeld | exact hT | exact ⟨alloc_cell hHeld.1 _, alloc_cell hHeld.2.1 _, alloc_cell hHeld.2.2 _⟩))
          clear hK K
          replace hHeld := hHeld (by decide)
          (try simp only [Act.put, List.getElem_toArray, List.getElem_cons_zero, List.getElem_cons_succ, List.setIfInBounds_toArray, List.set_cons_zero, List.set_cons_succ])
          refine Draw.wpAnyZ_ready (rs := [13]) (by kernel_rfl) (by simp) ?_
          refine Draw.AllReadyZ.cons rfl (fun K hK => ?_) Draw.AllReadyZ.nil
          (refine step_app typ (by decide) (by rfl) _ _ (by rfl) w1.heap.size a3 q3 (j + 1) (l.take j ++ [(pa, pb)]) (l.drop j) HN11.out (by rfl) o3 z3 a1 _ q1 HDL.out (by rfl) r3.lies r3.none_cap hzC ?_; intro a4 q4 w4 o4 g4; have hT := triple (E := partE) g4 hHeld (o3.blk_ne hkl) (o3.blk_ne hwl) (o3.blk_ne hwl); have v4 := v3.grown g4 (by intro g hg e; exact o3.blk_ne hkl (by rw [e, hg])); have k4 := kept_grown k3 g4 (by intro g hg; exact .inl (Nat.le_trans K1.size (o3.blk_le hg))); have cc2 := v4.cell (i := 2) rfl; have ff2 := v4.free 2)
          refine hK.out _ _ ?_ (fun hHeld => ?_)
          focus (intro _; (try dsimp only) <;> (first | exact ⟨e2, r0, r1⟩ | exact hHeld | exact hT | exact ⟨alloc_cell hHeld.1 _, alloc_cell hHeld.2.1 _, alloc_cell hHeld.2.2 _⟩))
          clear hK K
          replace hHeld := hHeld (by decide)
          (try simp only [Act.put, List.getElem_toArray, List.getElem_cons_zero, List.getElem_cons_succ, List.setIfInBounds_toArray, List.set_cons_zero, List.set_cons_succ])
          refine Draw.wpAnyZ_ready (rs := [14]) (by kernel_rfl) (by simp) ?_
          refine Draw.AllReadyZ.cons rfl (fun K hK => ?_) Draw.AllReadyZ.nil
          go_simp
          refine hK.out _ _ ?_ (fun hHeld => ?_)
          focus (intro _; (try dsimp only) <;> (first | exact ⟨e2, r0, r1⟩ | exact hHeld | exact hT | exact ⟨alloc_cell hHeld.1 _, alloc_cell hHeld.2.1 _, alloc_cell hHeld.2.2 _⟩))
          clear hK K
          replace hHeld := hHeld (by decide)
          (try simp only [Act.put, List.getElem_toArray, List.getElem_cons_zero, List.getElem_cons_succ, List.setIfInBounds_toArray, List.set_cons_zero, List.set_cons_succ])
          refine Draw.wpAnyZ_ready (rs := [15]) (by kernel_rfl) (by simp) ?_
          refine Draw.AllReadyZ.cons rfl (fun K hK => ?_) Draw.AllReadyZ.nil
          go_simp
          refine hK.out _ _ ?_ (fun hHeld => ?_)
          focus (intro _; (try dsimp only) <;> (first | exact ⟨e2, r0, r1⟩ | exact hHeld | exact hT | exact ⟨alloc_cell hHeld.1 _, alloc_cell hHeld.2.1 _, alloc_cell hHeld.2.2 _⟩))
          clear hK K
          replace hHeld := hHeld (by decide)
          (try simp only [Act.put, List.getElem_toArray, List.getElem_cons_zero, List.getElem_cons_succ, List.setIfInBounds_toArray, List.set_cons_zero, List.set_cons_succ])
          refine Draw.wpAnyZ_ready (rs := [16]) (by kernel_rfl) (by simp) ?_
          refine Draw.AllReadyZ.cons rfl (fun K hK => ?_) Draw.AllReadyZ.nil
          go_simp
          refine hK.out _ _ (fun h => absurd rfl h) (fun hHeld => ?_)
          clear hK K hHeld
          (try simp only [Act.put, List.getElem_toArray, List.getElem_cons_zero, List.getElem_cons_succ, List.setIfInBounds_toArray, List.set_cons_zero, List.set_cons_succ])
          refine Draw.wpAnyZ_done (by kernel_rfl) ?_ _
        rotate_left 1
      rotate_left 2
      focus
        go_simp
        refine hK.out _ _ ?_ (fun hHeld => ?_)
        focus (intro _; (try dsimp only) <;> (first | exact ⟨e2, r0, r1⟩ | exact hHeld | exact hT | exact ⟨alloc_cell hHeld.1 _, alloc_cell hHeld.2.1 _, alloc_cell hHeld.2.2 _⟩))
        clear hK K
        replace hHeld := hHeld (by decide)
        (try simp only [Act.put, List.getElem_toArray, List.getElem_cons_zero, List.getElem_cons_succ, List.setIfInBounds_toArray, List.set_cons_zero, List.set_cons_succ])
        refine Draw.wpAnyZ_ready (rs := [1]) (by kernel_rfl) (by simp) ?_
        refine Draw.AllReadyZ.cons rfl (fun K hK => ?_) Draw.AllReadyZ.nil
        go_simp
        refine hK.out _ _ ?_ (fun hHeld => ?_)
        focus (intro _; (try dsimp only) <;> (first | exact ⟨e2, r0, r1⟩ | exact hHeld | exact hT | exact ⟨alloc_cell hHeld.1 _, alloc_cell hHeld.2.1 _, alloc_cell hHeld.2.2 _⟩))
        clear hK K
        replace hHeld := hHeld (by decide)
        (try simp only [Act.put, List.getElem_toArray, List.getElem_cons_zero, List.getElem_cons_succ, List.setIfInBounds_toArray, List.set_cons_zero, List.set_cons_succ])
        refine Draw.wpAnyZ_ready (rs := [8]) (by kernel_rfl) (by simp) ?_
        refine Draw.AllReadyZ.cons rfl (fun K hK => ?_) Draw.AllReadyZ.nil
        (refine step_app typ (by decide) (by rfl) _ _ (by rfl) w1.heap.size (some ⟨w1.heap.size + 1, 0, none⟩) 0 0 [] (l.take j) rfl (by rfl) oC hBC _ _ _ HTJ.out (by rfl) (((l1.drew.alloc (.cells #[.int .i64 pa, .string pb] 53)).alloc (.cells #[] 53)).take j) HNa.out hzA ?_; intro a2 q2 w2 o2 g2; rw [List.nil_append] at o2; rw [Nat.zero_add]; have hT := triple (E := partE) g2 hHeld (by simp [blk]; omega) (by simp [blk]; omega) (by simp [blk]; omega); have v2 := ((v1.drew.alloc (.cells #[.int .i64 pa, .string pb] 53)).alloc (.cells #[] 53)).grown g2 (by intro g hg; simp [blk] at hg; omega); have r2 := ((o1.drew.alloc (.cells #[.int .i64 pa, .string pb] 53)).alloc (.cells #[] 53)).grown g2 (by intro x hx; have := hx1 x hx; simp [blk]; omega); have k2 := kept_grown ((K1.drew.alloc (.cells #[.int .i64 pa, .string pb] 53)).alloc (.cells #[] 53)) g2 (by intro g hg; simp [blk] at hg; have := K1.size; omega); have z2 : w1.heap.size ≤ w2.heap.size := Nat.le_trans hBC g2.size; have s2 := lC.grown g2 (by intro x hx; simp [blk]; cases hx; simp))
        refine hK.out _ _ ?_ (fun hHeld => ?_)
        focus (intro _; (try dsimp only) <;> (first | exact ⟨e2, r0, r1⟩ | exact hHeld | exact hT | exact ⟨alloc_cell hHeld.1 _, alloc_cell hHeld.2.1 _, alloc_cell hHeld.2.2 _⟩))
        clear hK K
        replace hHeld := hHeld (by decide)
        (try simp only [Act.put, List.getElem_toArray, List.getElem_cons_zero, List.getElem_cons_succ, List.setIfInBounds_toArray, List.set_cons_zero, List.set_cons_succ])
        refine Draw.wpAnyZ_ready (rs := [11]) (by kernel_rfl) (by simp) ?_
        refine Draw.AllReadyZ.cons rfl (fun K hK => ?_) Draw.AllReadyZ.nil
        (refine step_app typ (by decide) (by rfl) _ _ (by rfl) w1.heap.size a2 q2 j (l.take j) [(pa, pb)] HTJ.out (by rfl) o2 z2 (some ⟨w1.heap.size, 0, none⟩) 1 1 rfl (by rfl) s2 (by simp) hzB ?_; intro a3 q3 w3 o3 g3; have hT := triple (E := partE) g3 hHeld (o2.blk_ne hkl) (o2.blk_ne hwl) (o2.blk_ne hwl); have v3 := v2.grown g3 (by intro g hg e; exact o2.blk_ne hkl (by rw [e, hg])); have r3 := r2.grown g3 (by intro x hx; exact o2.blk_ne (hx1 x hx).2); have k3 := kept_grown k2 g3 (by intro g hg; exact .inl (Nat.le_trans K1.size (o2.blk_le hg))); have z3 : w1.heap.size ≤ w3.heap.size := Nat.le_trans z2 g3.size)
        refine hK.out _ _ ?_ (fun hHeld => ?_)
        focus (intro _; (try dsimp only) <;> (first | exact ⟨e2, r0, r1⟩ | exact hHeld | exact hT | exact ⟨alloc_cell hHeld.1 _, alloc_cell hHeld.2.1 _, alloc_cell hHeld.2.2 _⟩))
        clear hK K
        replace hHeld := hHeld (by decide)
        (try simp only [Act.put, List.getElem_toArray, List.getElem_cons_zero, List.getElem_cons_succ, List.setIfInBounds_toArray, List.set_cons_zero, List.set_cons_succ])
        refine Draw.wpAnyZ_ready (rs := [13]) (by kernel_rfl) (by simp) ?_
        refine Draw.AllReadyZ.cons rfl (fun K hK => ?_) Draw.AllReadyZ.nil
        (refine step_app typ (by decide) (by rfl) _ _ (by rfl) w1.heap.size a3 q3 (j + 1) (l.take j ++ [(pa, pb)]) (l.drop j) HN11.out (by rfl) o3 z3 a1 _ q1 HDL.out (by rfl) r3.lies r3.none_cap hzC ?_; intro a4 q4 w4 o4 g4; have hT := triple (E := partE) g4 hHeld (o3.blk_ne hkl) (o3.blk_ne hwl) (o3.blk_ne hwl); have v4 := v3.grown g4 (by intro g hg e; exact o3.blk_ne hkl (by rw [e, hg])); have k4 := kept_grown k3 g4 (by intro g hg; exact .inl (Nat.le_trans K1.size (o3.blk_le hg))); have cc2 := v4.cell (i := 2) rfl; have ff2 := v4.free 2)
        refine hK.out _ _ ?_ (fun hHeld => ?_)
        focus (intro _; (try dsimp only) <;> (first | exact ⟨e2, r0, r1⟩ | exact hHeld | exact hT | exact ⟨alloc_cell hHeld.1 _, alloc_cell hHeld.2.1 _, alloc_cell hHeld.2.2 _⟩))
        clear hK K
        replace hHeld := hHeld (by decide)
        (try simp only [Act.put, List.getElem_toArray, List.getElem_cons_zero, List.getElem_cons_succ, List.setIfInBounds_toArray, List.set_cons_zero, List.set_cons_succ])
        refine Draw.wpAnyZ_ready (rs := [14]) (by kernel_rfl) (by simp) ?_
        refine Draw.AllReadyZ.cons rfl (fun K hK => ?_) Draw.AllReadyZ.nil
        go_simp
        refine hK.out _ _ ?_ (fun hHeld => ?_)
        focus (intro _; (try dsimp only) <;> (first | exact ⟨e2, r0, r1⟩ | exact hHeld | exact hT | exact ⟨alloc_cell hHeld.1 _, alloc_cell hHeld.2.1 _, alloc_cell hHeld.2.2 _⟩))
        clear hK K
        replace hHeld := hHeld (by decide)
        (try simp only [Act.put, List.getElem_toArray, List.getElem_cons_zero, List.getElem_cons_succ, List.setIfInBounds_toArray, List.set_cons_zero, List.set_cons_succ])
        refine Draw.wpAnyZ_ready (rs := [15]) (by kernel_rfl) (by simp) ?_
        refine Draw.AllReadyZ.cons rfl (fun K hK => ?_) Draw.AllReadyZ.nil
        go_simp
        refine hK.out _ _ ?_ (fun hHeld => ?_)
        focus (intro _; (try dsimp only) <;> (first | exact ⟨e2, r0, r1⟩ | exact hHeld | exact hT | exact ⟨alloc_cell hHeld.1 _, alloc_cell hHeld.2.1 _, alloc_cell hHeld.2.2 _⟩))
        clear hK K
        replace hHeld := hHeld (by decide)
        (try simp only [Act.put, List.getElem_toArray, List.getElem_cons_zero, List.getElem_cons_succ, List.setIfInBounds_toArray, List.set_cons_zero, List.set_cons_succ])
        refine Draw.wpAnyZ_ready (rs := [16]) (by kernel_rfl) (by simp) ?_
        refine Draw.AllReadyZ.cons rfl (fun K hK => ?_) Draw.AllReadyZ.nil
        go_simp
        refine hK.out _ _ (fun h => absurd rfl h) (fun hHeld => ?_)
        clear hK K hHeld
        (try simp only [Act.put, List.getElem_toArray, List.getElem_cons_zero, List.getElem_cons_succ, List.setIfInBounds_toArray, List.set_cons_zero, List.set_cons_succ])
        refine Draw.wpAnyZ_done (by kernel_rfl) ?_ _
      rotate_left 1
      all_goals
        go_wp2_with fail
        go_end0
        refine ⟨a4, q4, rfl, by rw [HPL.out]; exact v4.set 2 _, ?_, k4.setCell (.inl rfl) _⟩
        rw [HPU.out]
        exact (o4.mono K1.size).setCell (fun x e => by have := (o4.lt x e).1; dsimp only; omega) _

end Go.Proofs.Ytinngechdnglpaa.Tak
