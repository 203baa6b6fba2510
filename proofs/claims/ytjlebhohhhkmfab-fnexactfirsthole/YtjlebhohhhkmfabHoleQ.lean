/- Contracts of the program's FirstHole, HasAll and Cut; lists of at most 2^21 spans, no longer than their room. -/
import Derived.Test.YtjlebhohhhkmfabHoleP
namespace Go.Proofs.Ytjlebhohhhkmfab.Hole
open Go.RowKit
set_option linter.unusedVariables false
set_option linter.unusedSimpArgs false

theorem drop_getD (l : List Sp) (e : Nat) (h : e < l.length) : l.drop e = l.getD e (0, 0) :: l.drop (e + 1) := by
  rw [List.drop_eq_getElem_cons h, List.getD_eq_getElem?_getD, List.getElem?_eq_getElem h]
  rfl

set_option maxHeartbeats 1000000 in
theorem implFirstHole (a : Option Addr) (n cap : Nat) (l : List Sp) (p : Int) (w : World) (hn : n = l.length) (h : Spans w a l) (hl : l.length ≤ 2097152) (hc : l.length ≤ cap) :
    Calls Try.prog 7 #[.slice a n cap, .int .i64 p] w fun x w' => x = .returned (.int .i64 (holeOf l p)) ∧ Below w.heap.size w w' := by
  subst hn
  go_enter Try.func7, Try.ntmps7
  go_wp2_with fail
  refine (implSpansOk _ _ _ l _ rfl h hl).mono ?_
  rintro x w1 ⟨rfl, b1⟩
  have h1 := h.below b1
  cases hok : spansB l
  · go_wp2_with fail
    go_ret
    exact ⟨by simp [holeOf, hok], b1⟩
  · go_wp2_with fail
    refine (Num.isPlace p _).mono ?_
    rintro x w2 ⟨rfl, rfl⟩
    cases hpl : Num.plB p
    · go_wp2_with fail
      go_ret
      exact ⟨by simp [holeOf, hpl], b1⟩
    · have HH : Hid (holeOf l p = hd p (l.drop (cnt (endB p) l))) := by show _ = _; rw [← hole_drop (spans_ok.1 hok).1]; simp [holeOf, hok, hpl]
      have hce := cnt_le (endB p) l
      clear hok hpl
      go_wp2_with fail
      refine (endedBy _ _ _ l p _ rfl h1 hl).mono ?_
      rintro x w2 ⟨rfl, rfl⟩
      generalize cnt (endB p) l = e at *
      have i0 : (0 : Int) ≤ (e : Int) := by omega
      have i1 : (e : Int) ≤ (l.length : Int) := by omega
      have i2 : (l.length : Int) ≤ (cap : Int) := by omega
      by_cases hlt : e < l.length
      · rw [drop_getD l e hlt] at HH
        rcases h1 with h1 | ⟨b, off, rfl, h1⟩
        · simp [h1] at hlt
        · have c0 := (h1 e hlt).1
          have c1 := (h1 e hlt).2
          generalize l.getD e (0, 0) = s at *
          obtain ⟨xf, xt⟩ := s
          simp only at c0 c1
          have j0 : ¬ cap = e := by omega
          have j1 : (0 : Int) < (l.length : Int) - (e : Int) := by omega
          clear h h1
          by_cases hx : xf ≤ p
          · have HF : Hid (holeOf l p = xt) := by show _ = _; rw [HH.out, hd, if_pos hx]
            clear HH
            go_wp2_with fail
            go_ret
            exact ⟨by rw [HF.out]; rfl, b1⟩
          · have HF : Hid (holeOf l p = p) := by show _ = _; rw [HH.out, hd, if_neg hx]
            clear HH
            go_wp2_with fail
            go_ret
            exact ⟨by rw [HF.out]; rfl, b1⟩
      · have he : e = l.length := by omega
        have HF : Hid (holeOf l p = p) := by show _ = _; rw [HH.out, he, List.drop_length, hd]
        have j1 : ¬ (0 : Int) < (l.length : Int) - (e : Int) := by omega
        clear HH h h1
        go_wp2_with fail
        all_goals (go_ret; exact ⟨by rw [HF.out]; rfl, b1⟩)

theorem vals_hd (x : Sp) (l : List Sp) (m : Int) : (vals (x :: l)).set 0 (.int .i64 m) = vals ((m, x.2) :: l) := by simp [vals]

end Go.Proofs.Ytjlebhohhhkmfab.Hole
