/- Contracts of the specification's HasAll and FirstHole; lists of at most 2^21 spans. -/
import Derived.Test.YtjlebhohhhkmfaaHoleB
namespace Go.Proofs.Ytjlebhohhhkmfaa.Hole
open Go.RowKit
set_option linter.unusedVariables false

theorem Spans.below {w w' : World} {a : Option Addr} {l : List Sp} (h : Spans w a l) (hB : Below w.heap.size w w') : Spans w' a l := by
  rcases h with h | ⟨b, off, rfl, h⟩
  · exact .inl h
  · refine .inr ⟨b, off, rfl, fun i hi => ?_⟩
    have hb : b < w.heap.size := Draw.lt_of_cell (h i hi).1
    exact ⟨(hB.cell (p := ⟨b, off + i * 2, none⟩) hb).trans (h i hi).1, (hB.cell (p := ⟨b, off + i * 2 + 1, none⟩) hb).trans (h i hi).2⟩
theorem box2 {w w1 : World} {v0 v1 : Value} {T : TypeId} (hB : Below (w.alloc (.cells #[v0, v1] T)).heap.size (w.alloc (.cells #[v0, v1] T)) w1) : w1.cell? ⟨w.heap.size, 0, none⟩ = some v0 ∧ w1.cell? ⟨w.heap.size, 1, none⟩ = some v1 := by
  have h : ∀ i, w1.cell? ⟨w.heap.size, i, none⟩ = (w.alloc (.cells #[v0, v1] T)).cell? ⟨w.heap.size, i, none⟩ := fun i => hB.cell (p := ⟨w.heap.size, i, none⟩) (by show w.heap.size < (w.alloc _).heap.size; simp)
  exact ⟨(h 0).trans (by simp), (h 1).trans (by simp)⟩

/-- Is all of s there? -/
def coverB (s x : Sp) : Bool := decide (x.1 ≤ s.1) && decide (s.2 ≤ x.2)
def hasB (l : List Sp) (s : Sp) : Bool := spansB l && (spB s && l.any (coverB s))
theorem any_take {l : List Sp} {k : Nat} (h : k < l.length) (p : Sp → Bool) : (l.take (k + 1)).any p = ((l.take k).any p || p (l.getD k (0, 0))) := by
  rw [List.take_succ_eq_append_getElem h, List.any_append, List.any_cons, List.any_nil, Bool.or_false, List.getD_eq_getElem?_getD, List.getElem?_eq_getElem h]; rfl
theorem any_at {l : List Sp} {k : Nat} (h : k < l.length) {p : Sp → Bool} (hp : p (l.getD k (0, 0)) = true) : l.any p = true := by
  rw [List.any_eq_true]
  refine ⟨l[k], by simp, ?_⟩
  rw [List.getD_eq_getElem?_getD, List.getElem?_eq_getElem h] at hp
  exact hp

set_option maxHeartbeats 2000000 in
theorem specHasAll (a : Option Addr) (n cap : Nat) (l : List Sp) (f t : Int) (w : World) (hn : n = l.length) (h : Spans w a l) (hl : l.length ≤ 2097152) :
    Calls Try.prog 18 #[.slice a n cap, .agg #[.int .i64 f, .int .i64 t]] w fun x w' => x = .returned (.bool (hasB l (f, t))) ∧ Below w.heap.size w w' := by
  subst hn
  have hmix := mix
  have b0 : Below w.heap.size w (w.alloc (.cells #[.int .i64 f, .int .i64 t] 26)) := (Below.refl _ _).alloc (Nat.le_refl _) _
  have h0 := h.below b0
  go_enter Try.func18, Try.ntmps18
  go_wp2_with fail
  refine (specSpansOk _ _ _ l _ rfl h0 hl).mono ?_
  rintro x w1 ⟨rfl, hB1⟩
  have b1 : Below w.heap.size w w1 := b0.trans (hB1.mono b0.size)
  have hs1 : w.heap.size + 1 ≤ w1.heap.size := by have := hB1.size; simpa using this
  obtain ⟨c0, c1⟩ := box2 hB1
  clear hB1 h0 b0
  cases hok : spansB l
  · go_wp2_with fail
    go_ret
    exact ⟨by simp [hasB, hok], b1⟩
  · go_wp2_with fail
    refine (l4Span f t _).mono ?_
    rintro x w2 ⟨rfl, hB2⟩
    have b2 : Below w.heap.size w w2 := b1.trans (hB2.mono b1.size)
    have c0' := (hB2.cell (p := ⟨w.heap.size, 0, none⟩) (by show w.heap.size < _; omega)).trans c0
    have c1' := (hB2.cell (p := ⟨w.heap.size, 1, none⟩) (by show w.heap.size < _; omega)).trans c1
    have hs2 : w.heap.size + 1 ≤ w2.heap.size := Nat.le_trans hs1 hB2.size
    clear hB2 c0 c1 b1 hs1
    cases hsp : spB (f, t)
    · go_wp2_with fail
      go_ret
      exact ⟨by simp [hasB, hsp], b2⟩
    · have H2 := h.below b2
      have HH : Hid (hasB l (f, t) = l.any (coverB (f, t))) := by show _ = _; simp [hasB, hok, hsp]
      clear h hok hsp
      go_wp2_with fail
      go_loopw [5] (fun iv wr => ∃ k : Nat, k ≤ l.length ∧ iv = .int .i64 k ∧ Hid ((l.take k).any (coverB (f, t)) = false) ∧ Below w2.heap.size w2 wr) (fun iv _ => l.length - (intOf iv).toNat)
      case atStart => exact ⟨0, Nat.zero_le _, rfl, by show _ = _; simp, Below.refl _ _⟩
      case round =>
        obtain ⟨k, hk, rfl, hany, hB⟩ := hrel
        have fin : ∀ {w' : World}, Below wr.heap.size wr w' → Below w.heap.size w w' := fun hq => b2.trans ((hB.trans (hq.mono hB.size)).mono b2.size)
        by_cases hlt : k < l.length
        · rcases H2 with h | ⟨b, off, rfl, h⟩
          · simp [h] at hlt
          · have hbw : b < w2.heap.size := Draw.lt_of_cell (h k hlt).1
            have d0 := Draw.Later.cell ((hB.cell (p := ⟨b, off + k * 2, none⟩) hbw).trans (h k hlt).1)
            have d1 := Draw.Later.cell ((hB.cell (p := ⟨b, off + k * 2 + 1, none⟩) hbw).trans (h k hlt).2)
            have d2 := Draw.Later.cell ((hB.cell (p := ⟨w.heap.size, 0, none⟩) (by show w.heap.size < _; omega)).trans c0')
            have d3 := Draw.Later.cell ((hB.cell (p := ⟨w.heap.size, 1, none⟩) (by show w.heap.size < _; omega)).trans c1')
            have i0 : (0 : Int) ≤ (k : Int) := by omega
            have i1 : (k : Int) < (l.length : Int) := by omega
            have HT : Hid _ := any_take hlt (coverB (f, t))
            have HA : Hid (∀ hp : coverB (f, t) (l.getD k (0, 0)) = true, l.any (coverB (f, t)) = true) := fun hp => any_at hlt hp
            generalize l.getD k (0, 0) = s at *
            obtain ⟨xf, xt⟩ := s
            simp only at d0 d1
            by_cases h1 : xf ≤ f
            · by_cases h2 : t ≤ xt
              · have HF : Hid (hasB l (f, t) = true) := HH.out.trans (HA.out (by simp [coverB, h1, h2]))
                clear HT HA HH hany
                go_wp2_with fail
                refine Draw.wp_region_later hmix (by kernel_rfl) ?_
                repeat (go_big_quiet_step (fail))
                refine wpQuiet_nil ?_
                intro _ hw'
                obtain ⟨⟨wq, hBq⟩, hw''⟩ := hw'
                subst hw''
                go_wp2_with fail
                go_ret
                exact ⟨by rw [HF.out]; rfl, fin hBq⟩
              · have HF : Hid ((l.take (k + 1)).any (coverB (f, t)) = false) := by show _ = _; rw [HT.out, hany.out]; simp [coverB]; omega
                clear HT HA HH hany
                go_wp2_with fail
                refine Draw.wp_region_later hmix (by kernel_rfl) ?_
                repeat (go_big_quiet_step (fail))
                refine wpQuiet_nil ?_
                intro _ hw'
                obtain ⟨⟨wq, hBq⟩, hw''⟩ := hw'
                subst hw''
                go_wp2_with fail
                go_roundw
                case rel => exact ⟨k + 1, by omega, by go_num, HF, hB.trans (hBq.mono hB.size)⟩
                case measure => simp [intOf]; omega
            · have HF : Hid ((l.take (k + 1)).any (coverB (f, t)) = false) := by show _ = _; rw [HT.out, hany.out]; simp [coverB]; omega
              have h1d : decide (xf ≤ f) = false := by simpa using h1
              clear HT HA HH hany
              go_wp2_with fail
              refine Draw.wp_region_later hmix (by kernel_rfl) ?_
              repeat (go_big_quiet_step (fail))
              refine wpQuiet_nil ?_
              intro _ hw'
              obtain ⟨⟨wq, hBq⟩, hw''⟩ := hw'
              subst hw''
              go_wp2_with fail
              go_roundw
              case rel => exact ⟨k + 1, by omega, by go_num, HF, hB.trans (hBq.mono hB.size)⟩
              case measure => simp [intOf]; omega
        · have hkl : l.take k = l := List.take_of_length_le (by omega)
          have i1 : ¬ (k : Int) < (l.length : Int) := by omega
          have HF : Hid (hasB l (f, t) = false) := by show _ = _; rw [HH.out, ← hany.out, hkl]
          clear hany hkl HH
          go_wp2_with fail
          go_ret
          exact ⟨by rw [HF.out]; rfl, fin (Below.refl _ _)⟩

/-- The least place from p on that is not there. -/
def stepH (p : Int) (x : Sp) : Int := if x.1 ≤ p ∧ p < x.2 then x.2 else p
def holeOf (l : List Sp) (p : Int) : Int := if spansB l = true ∧ Num.plB p = true then l.foldl stepH p else -1
theorem fold_take {α : Type} {l : List Sp} {k : Nat} (h : k < l.length) (g : α → Sp → α) (x : α) : (l.take (k + 1)).foldl g x = g ((l.take k).foldl g x) (l.getD k (0, 0)) := by
  rw [List.take_succ_eq_append_getElem h, List.foldl_append, List.foldl_cons, List.foldl_nil, List.getD_eq_getElem?_getD, List.getElem?_eq_getElem h]; rfl

set_option maxHeartbeats 2000000 in
theorem specFirstHole (a : Option Addr) (n cap : Nat) (l : List Sp) (p : Int) (w : World) (hn : n = l.length) (h : Spans w a l) (hl : l.length ≤ 2097152) :
    Calls Try.prog 24 #[.slice a n cap, .int .i64 p] w fun x w' => x = .returned (.int .i64 (holeOf l p)) ∧ Below w.heap.size w w' := by
  subst hn
  go_enter Try.func24, Try.ntmps24
  go_wp2_with fail
  refine (specSpansOk _ _ _ l _ rfl h hl).mono ?_
  rintro x w1 ⟨rfl, b1⟩
  cases hok : spansB l
  · go_wp2_with fail
    go_ret
    exact ⟨Num.ret_int (by simp [holeOf, hok]), b1⟩
  · go_wp2_with fail
    refine (Num.l1Place p _).mono ?_
    rintro x w2 ⟨rfl, rfl⟩
    cases hpl : Num.plB p
    · go_wp2_with fail
      go_ret
      exact ⟨Num.ret_int (by simp [holeOf, hpl]), b1⟩
    · have HH : Hid (holeOf l p = l.foldl stepH p) := by show _ = _; simp [holeOf, hok, hpl]
      have h1 := h.below b1
      clear h hok hpl
      go_wp2_with fail
      go_loop [1, 5] (fun pv iv => ∃ (k : Nat) (q : Int), k ≤ l.length ∧ iv = .int .i64 k ∧ pv = .int .i64 q ∧ Hid ((l.take k).foldl stepH p = q)) (fun _ iv => l.length - (intOf iv).toNat)
      case atStart => exact ⟨0, p, Nat.zero_le _, rfl, rfl, by show _ = _; simp⟩
      case round =>
        obtain ⟨k, q, hk, rfl, rfl, hq⟩ := hrel
        by_cases hlt : k < l.length
        · rcases h1 with h | ⟨b, off, rfl, h⟩
          · simp [h] at hlt
          · have d0 := (h k hlt).1
            have d1 := (h k hlt).2
            have i0 : (0 : Int) ≤ (k : Int) := by omega
            have i1 : (k : Int) < (l.length : Int) := by omega
            have HT : Hid _ := fold_take hlt stepH p
            generalize l.getD k (0, 0) = s at *
            obtain ⟨xf, xt⟩ := s
            simp only at d0 d1
            clear h
            by_cases h1 : xf ≤ q
            · by_cases h2 : q < xt
              · have HF : Hid ((l.take (k + 1)).foldl stepH p = xt) := by show _ = _; rw [HT.out, hq.out, stepH, if_pos ⟨h1, h2⟩]
                clear HT HH hq
                go_wp2_with fail
                go_round
                case rel => exact ⟨k + 1, xt, by omega, by go_num, rfl, HF⟩
                case measure => simp [intOf]; omega
              · have HF : Hid ((l.take (k + 1)).foldl stepH p = q) := by show _ = _; rw [HT.out, hq.out, stepH, if_neg (fun c => h2 c.2)]
                clear HT HH hq
                go_wp2_with fail
                go_round
                case rel => exact ⟨k + 1, q, by omega, by go_num, rfl, HF⟩
                case measure => simp [intOf]; omega
            · have HF : Hid ((l.take (k + 1)).foldl stepH p = q) := by show _ = _; rw [HT.out, hq.out, stepH, if_neg (fun c => h1 c.1)]
              clear HT HH hq
              go_wp2_with fail
              go_round
              case rel => exact ⟨k + 1, q, by omega, by go_num, rfl, HF⟩
              case measure => simp [intOf]; omega
        · have hkl : l.take k = l := List.take_of_length_le (by omega)
          have i1 : ¬ (k : Int) < (l.length : Int) := by omega
          have HF : Hid (holeOf l p = q) := by show _ = _; rw [HH.out, ← hq.out, hkl]
          clear hq hkl HH
          go_wp2_with fail
          go_ret
          exact ⟨Num.ret_int HF.out.symm, b1⟩

end Go.Proofs.Ytjlebhohhhkmfaa.Hole
