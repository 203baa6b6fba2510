/- Contracts of the specification's l4Copy and Cut; how spans of the call's own lie in memory; lists of at most 2^21 spans. -/
import Derived.Test.YtjlebhohhhkmfaaHoleC
import Derived.Deep.AppendLies
import Derived.Laws.AppendOwnNone
namespace Go.Proofs.Ytjlebhohhhkmfaa.Hole
open Go.RowKit
set_option linter.unusedVariables false

def vals (l : List Sp) : List Value := l.flatMap fun s => [.int .i64 s.1, .int .i64 s.2]
theorem vals_len (l : List Sp) : (vals l).length = l.length * 2 := by
  induction l with
  | nil => rfl
  | cons s l ih => simp only [vals, List.flatMap_cons, List.length_append, List.length_cons, List.length_nil] at ih ⊢; omega
theorem vals_snoc (l : List Sp) (f t : Int) : vals l ++ [.int .i64 f, .int .i64 t] = vals (l ++ [(f, t)]) := by simp [vals]
theorem vals_at : ∀ (l : List Sp) (i : Nat), i < l.length → (vals l)[i * 2]? = some (.int .i64 (l.getD i (0, 0)).1) ∧ (vals l)[i * 2 + 1]? = some (.int .i64 (l.getD i (0, 0)).2)
  | [], i, h => by simp at h
  | s :: l, 0, h => by simp [vals]
  | s :: l, i + 1, h => by
    have ih := vals_at l i (by simpa using h)
    have e : vals (s :: l) = .int .i64 s.1 :: .int .i64 s.2 :: vals l := by simp [vals]
    have e1 : (i + 1) * 2 = i * 2 + 1 + 1 := by omega
    rw [e, e1]
    simpa using ih
theorem infoSpan : (Try.prog.info? 26).map (fun i => (i.zero, i.size, i.bytes)) = some (some (.agg #[.int .i64 0, .int .i64 0]), 2, 16) := by kernel_rfl
theorem two_cells (f t : Int) : ∀ u ∈ [Value.int .i64 f, .int .i64 t], u.oneCell' = true := by
  intro u hu
  simp at hu
  rcases hu with rfl | rfl <;> rfl
theorem news2 {w : World} {o : Obj} {f t : Int} {T : TypeId} : ∀ j u, [Value.int .i64 f, .int .i64 t][j]? = some u → ((w.alloc o).alloc (.cells #[.int .i64 f, .int .i64 t] T)).cell? ((⟨w.heap.size + 1, 0, none⟩ : Addr).add j) = some u := by
  have h := World.news_of_block (heap_alloc_new (w.alloc o) (.cells #[.int .i64 f, .int .i64 t] T))
  have e : (w.alloc o).heap.size = w.heap.size + 1 := by simp
  rw [e] at h
  exact h
/-- A slice of spans of the call's own. -/
def Own (w : World) (B g cap : Nat) (l : List Sp) : Prop := w.ownsRow B 26 2 (.slice (some ⟨g, 0, none⟩) l.length cap) l.length (vals l)
theorem Own.spans {w : World} {B g cap : Nat} {l : List Sp} (h : Own w B g cap l) : Spans w (some ⟨g, 0, none⟩) l := by
  refine .inr ⟨g, 0, rfl, fun i hi => ?_⟩
  have e : ∀ j, (⟨g, 0, none⟩ : Addr).add j = ⟨g, 0 + j, none⟩ := fun j => by unfold Addr.add; split <;> simp_all
  have hv := vals_at l i hi
  exact ⟨by rw [← e]; exact h.cells (g := g) rfl _ _ hv.1, by rw [Nat.add_assoc, ← e]; exact h.cells (g := g) rfl _ _ hv.2⟩
theorem Own.lt {w : World} {B g cap : Nat} {l : List Sp} (h : Own w B g cap l) : B ≤ g ∧ g < w.heap.size := World.ownsRow.lt h g rfl
theorem Own.later {w w' : World} {B g cap : Nat} {l : List Sp} (h : Own w B g cap l) (hb : Below w.heap.size w w') : Own w' B g cap l :=
  World.ownsRow.kept (row := none) h ⟨hb.os, hb.tape, hb.output, hb.size, fun k hk _ => hb.block k hk⟩ (.inr (by simp [Value.ownBlock]))
theorem own_nil (w : World) : Own (w.alloc (.cells #[] 26)) w.heap.size w.heap.size 0 [] := World.ownsRow_made w #[] 0 (Nat.le_refl _) (Nat.zero_le _) rfl

theorem own_app {w : World} {B g cap : Nat} {out : List Sp} {f t : Int} (h : w.ownsRow B 26 2 (.slice (some ⟨g, 0, none⟩) (out.length + 1) cap) (out.length + 1) (vals out ++ [.int .i64 f, .int .i64 t])) : Own w B g cap (out ++ [(f, t)]) := by
  rw [vals_snoc] at h
  unfold Own
  rw [List.length_append]
  exact h
theorem below_app {B g n c : Nat} {w wx w3 : World} (hx : Below B w wx) (hB : B ≤ w.heap.size) (hg : B ≤ g) (h : wx.grownBy w3 (Value.slice (some ⟨g, 0, none⟩) n c).ownBlock) : Below B w w3 :=
  hx.grown h (Nat.le_trans hB hx.size) (fun j hj => by simp [Value.ownBlock] at hj; omega)

/-- What of a list is not below p. -/
def cutStep (p : Int) (out : List Sp) (x : Sp) : List Sp := if (if p < x.1 then x.1 else p) < x.2 then out ++ [((if p < x.1 then x.1 else p), x.2)] else out
def cutL (l : List Sp) (p : Int) : List Sp := if spansB l = true ∧ Num.plB p = true then l.foldl (cutStep p) [] else []
theorem cut_len (p : Int) (l out : List Sp) : (l.foldl (cutStep p) out).length ≤ out.length + l.length := by
  induction l generalizing out with
  | nil => simp
  | cons x l ih =>
    have h := ih (cutStep p out x)
    have : (cutStep p out x).length ≤ out.length + 1 := by unfold cutStep; generalize (if p < x.1 then x.1 else p) = m; split <;> simp
    simp only [List.foldl_cons, List.length_cons]
    omega

set_option maxHeartbeats 2000000 in
theorem specCut (a : Option Addr) (n cap : Nat) (l : List Sp) (p : Int) (w : World) (hn : n = l.length) (h : Spans w a l) (hl : l.length ≤ 2097152) :
    Calls Try.prog 23 #[.slice a n cap, .int .i64 p] w fun x w' => ∃ g c, x = .returned (.slice (some ⟨g, 0, none⟩) (cutL l p).length c) ∧ Own w' w.heap.size g c (cutL l p) ∧ Below w.heap.size w w' := by
  subst hn
  obtain ⟨i, hi, hz0, hz1, hz2⟩ := info_parts infoSpan
  have b0 : Below w.heap.size w (w.alloc (.cells #[] 26)) := (Below.refl _ _).alloc (Nat.le_refl _) _
  have h0 := h.below b0
  have o0 := own_nil w
  go_enter Try.func23, Try.ntmps23
  go_wp2_with fail
  refine (specSpansOk _ _ _ l _ rfl h0 hl).mono ?_
  rintro x w1 ⟨rfl, hB1⟩
  have b1 : Below w.heap.size w w1 := b0.trans (hB1.mono b0.size)
  have o1 := o0.later hB1
  clear hB1 h0 b0 o0
  cases hok : spansB l
  · go_wp2_with fail
    go_ret
    have e : cutL l p = [] := by simp [cutL, hok]
    exact ⟨_, 0, by rw [e]; rfl, by rw [e]; exact o1, b1⟩
  · go_wp2_with fail
    refine (Num.l1Place p _).mono ?_
    rintro x w2 ⟨rfl, rfl⟩
    cases hpl : Num.plB p
    · go_wp2_with fail
      go_ret
      have e : cutL l p = [] := by simp [cutL, hpl]
      exact ⟨_, 0, by rw [e]; rfl, by rw [e]; exact o1, b1⟩
    · have HH : Hid (cutL l p = l.foldl (cutStep p) []) := by show _ = _; simp [cutL, hok, hpl]
      have hp := Num.pl_t hpl
      clear hok hpl
      go_wp2_with fail
      go_loopw [5, 6] (fun v iv wr => ∃ (k : Nat) (out : List Sp) (g c : Nat), k ≤ l.length ∧ iv = .int .i64 k ∧ v = .slice (some ⟨g, 0, none⟩) out.length c ∧ Hid ((l.take k).foldl (cutStep p) [] = out) ∧ out.length ≤ k ∧ Own wr w.heap.size g c out ∧ Below w.heap.size w wr) (fun _ iv _ => l.length - (intOf iv).toNat)
      case atStart => exact ⟨0, [], _, 0, Nat.zero_le _, rfl, rfl, by show _ = _; simp, Nat.le_refl _, o1, b1⟩
      case round =>
        clear o1 b1
        obtain ⟨k, out, g, c, hk, rfl, rfl, hfold, hol, hown, hB⟩ := hrel
        by_cases hlt : k < l.length
        · rcases h with h | ⟨b, off, rfl, h⟩
          · simp [h] at hlt
          · have hbw : b < w.heap.size := Draw.lt_of_cell (h k hlt).1
            have d0 := (hB.cell (p := ⟨b, off + k * 2, none⟩) hbw).trans (h k hlt).1
            have d1 := (hB.cell (p := ⟨b, off + k * 2 + 1, none⟩) hbw).trans (h k hlt).2
            have i0 : (0 : Int) ≤ (k : Int) := by omega
            have i1 : (k : Int) < (l.length : Int) := by omega
            have HT : Hid _ := fold_take hlt (cutStep p) []
            generalize l.getD k (0, 0) = s at *
            obtain ⟨xf, xt⟩ := s
            simp only at d0 d1
            clear h
            have HT2 : Hid ((l.take (k + 1)).foldl (cutStep p) [] = if (if p < xf then xf else p) < xt then out ++ [((if p < xf then xf else p), xt)] else out) := by show _ = _; rw [HT.out, hfold.out]; rfl
            clear HT hfold HH
            go_wp2_with fail
            refine (Draw.l1Max _ _ _).mono ?_
            rintro x wm ⟨rfl, rfl⟩
            generalize (if p < xf then xf else p) = m at *
            by_cases hm : m < xt
            · have HF : Hid ((l.take (k + 1)).foldl (cutStep p) [] = out ++ [(m, xt)]) := by show _ = _; rw [HT2.out, if_pos hm]
              clear HT2
              have n1 : out.length + 1 ≤ maxLen := by unfold maxLen; omega
              have n2 : w.heap.size ≤ wr.heap.size + 1 + 1 := by have := hB.size; omega
              have n3 : (out.length + 1) * 16 ≤ 140737488355328 := by omega
              have hown2 : ∀ {o o' : Obj}, ((wr.alloc o).alloc o').ownsRow w.heap.size 26 2 (.slice (some ⟨g, 0, none⟩) out.length c) out.length (vals out) := fun {o o'} => World.ownsRow.alloc (World.ownsRow.alloc hown o) o'
              go_wp2_with (at_builtin; refine wpList_append_lies _ (by rfl) _ _ 24 (by rfl) w.heap.size 26 i (.agg #[.int .i64 0, .int .i64 0]) 2 16 Try.underlying24 hi hz0 hz1 hz2 rfl (by decide) _ _ _ (by rfl) hown2 ⟨wr.heap.size + 1, 0, none⟩ 1 1 [.int .i64 m, .int .i64 xt] (by rfl) rfl news2 (two_cells _ _) (by decide) n1 n3 (by simpa using n2) (wr.heap.size + 1 + 1) (by simp) ?_; intro g1 cap1 w3 hown3 hgrow3 hat3 hlt3)
              have o3 := own_app hown3
              have b3 := below_app ((hB.alloc hB.size _).alloc (by have := hB.size; simp; omega) _) (Nat.le_refl _) hown.lt.1 hgrow3
              have hlen : (out ++ [(m, xt)]).length = out.length + 1 := by simp
              go_roundw
              case rel => exact ⟨k + 1, out ++ [(m, xt)], g1, cap1, by omega, by go_num, by rw [hlen], HF, by omega, o3, b3⟩
              case measure => simp [intOf]; omega
            · have HF : Hid ((l.take (k + 1)).foldl (cutStep p) [] = out) := by show _ = _; rw [HT2.out, if_neg hm]
              clear HT2
              go_wp2_with fail
              go_roundw
              case rel => exact ⟨k + 1, out, g, c, by omega, by go_num, rfl, HF, by omega, World.ownsRow.alloc hown _, hB.alloc hB.size _⟩
              case measure => simp [intOf]; omega
        · have hkl : l.take k = l := List.take_of_length_le (by omega)
          have i1 : ¬ (k : Int) < (l.length : Int) := by omega
          have HF : Hid (cutL l p = out) := by show _ = _; rw [HH.out, ← hfold.out, hkl]
          clear hfold hkl HH
          go_wp2_with fail
          go_ret
          exact ⟨g, c, by rw [HF.out]; rfl, by rw [HF.out]; exact hown, hB⟩

theorem src_cells {w : World} {a : Option Addr} {l : List Sp} {x : Addr} (h : Spans w a l) (ha : a = some x) : ∀ j u, (vals l)[j]? = some u → w.cell? (x.add j) = some u := by
  rcases h with h | ⟨b, off, rfl, h⟩
  · intro j u hu; rw [h] at hu; simp [vals] at hu
  · cases ha
    intro j u hu
    have e : (⟨b, off, none⟩ : Addr).add j = ⟨b, off + j, none⟩ := by unfold Addr.add; split <;> simp_all
    have hj : j < (vals l).length := (List.getElem?_eq_some_iff.1 hu).1
    rw [vals_len] at hj
    have hi : j / 2 < l.length := by omega
    have hv := vals_at l (j / 2) hi
    have hc := h (j / 2) hi
    rw [e]
    rcases Nat.mod_two_eq_zero_or_one j with m | m
    · have ej : j / 2 * 2 = j := by omega
      rw [ej] at hv hc
      rw [hc.1, ← hv.1, hu]
    · have ej : j / 2 * 2 + 1 = j := by omega
      rw [Nat.add_assoc, ej] at hc
      rw [ej] at hv
      rw [hc.2, ← hv.2, hu]
theorem all_cells (l : List Sp) : ∀ u ∈ vals l, u.oneCell' = true := by
  intro u hu
  simp only [vals, List.mem_flatMap] at hu
  obtain ⟨s, _, hs⟩ := hu
  exact two_cells _ _ u hs

set_option maxHeartbeats 2000000 in
theorem specCopy (a : Option Addr) (n cap : Nat) (l : List Sp) (w : World) (hn : n = l.length) (h : Spans w a l) (hl : l.length ≤ 2097152) (ha : a = none → cap = 0) :
    Calls Try.prog 42 #[.slice a n cap] w fun x w' => ∃ g c, x = .returned (.slice (some ⟨g, 0, none⟩) l.length c) ∧ Own w' w.heap.size g c l ∧ Below w.heap.size w w' := by
  subst hn
  obtain ⟨i, hi, hz0, hz1, hz2⟩ := info_parts infoSpan
  have b0 : Below w.heap.size w (w.alloc (.cells #[] 26)) := (Below.refl _ _).alloc (Nat.le_refl _) _
  have o0 := own_nil w
  have n1 : 0 + l.length ≤ maxLen := by unfold maxLen; omega
  have n3 : (0 + l.length) * 16 ≤ 140737488355328 := by omega
  cases a with
  | none =>
    have hl0 : l = [] := by rcases h with h | ⟨b, off, hh, _⟩; exact h; cases hh
    subst hl0
    have hc0 := ha rfl
    subst hc0
    go_enter Try.func42, Try.ntmps42
    go_wp2_with (at_builtin; refine wpList_append_own_none (by rfl) _ _ 24 (by rfl) w.heap.size 26 i 2 Try.underlying24 hi _ 0 [] (by rfl) o0 (by rfl) ?_)
    go_ret
    exact ⟨w.heap.size, 0, rfl, o0, b0⟩
  | some x =>
    have hc := src_cells (h.below b0) (x := x) rfl
    go_enter Try.func42, Try.ntmps42
    go_wp2_with (at_builtin; refine wpList_append_own _ (by rfl) _ _ 24 (by rfl) w.heap.size 26 i (.agg #[.int .i64 0, .int .i64 0]) 2 16 Try.underlying24 hi hz0 hz1 hz2 rfl (by decide) _ 0 [] (by rfl) o0 x l.length cap (vals l) (by rfl) (vals_len l) hc (all_cells l) n1 n3 (by simp) ?_; intro v' w3 hown3 hgrow3 hnil)
    rw [Nat.zero_add, List.nil_append] at hown3
    rcases hown3.2 with ⟨hv, _⟩ | ⟨g, c, cur, hv, _⟩
    · exact absurd (hnil.1 hv).1 (by simp)
    · subst hv
      go_ret
      exact ⟨g, c, rfl, hown3, below_app b0 (Nat.le_refl _) (Nat.le_refl _) hgrow3⟩

end Go.Proofs.Ytjlebhohhhkmfaa.Hole
