/- A pace (chapter 9): plain mathematics; contracts of the specification's PaceOk, NewPace, Longer; the laws' toPace and eqPace; no condition. -/
import Derived.Test.YtbmfnkdcbdkcdaaPacM
import Derived.Test.YtbmfnkdcbdkcdaaTakA
namespace Go.Proofs.Ytbmfnkdcbdkcdaa.Pac
open Go.RowKit RowG
set_option linter.unusedVariables false
set_option linter.unusedSimpArgs false

structure Pc where
  mn : Int
  sp : Int
  wt : Int
  tm : Int
abbrev Pc.c (p : Pc) : List Value := [.int .i64 p.mn, .int .i64 p.sp, .int .i64 p.wt, .int .i64 p.tm]
abbrev Pc.v (p : Pc) : Value := .agg #[.int .i64 p.mn, .int .i64 p.sp, .int .i64 p.wt, .int .i64 p.tm]
def paceB (p : Pc) : Bool := decide (0 ≤ p.mn ∧ p.mn ≤ 480000) && (decide (0 ≤ p.sp ∧ p.sp ≤ 480000) && (decide (200 ≤ p.wt ∧ p.wt ≤ 60000) && decide (0 ≤ p.tm ∧ p.tm ≤ 20)))
theorem pace_iff {p : Pc} : paceB p = true ↔ (0 ≤ p.mn ∧ p.mn ≤ 480000) ∧ (0 ≤ p.sp ∧ p.sp ≤ 480000) ∧ (200 ≤ p.wt ∧ p.wt ≤ 60000) ∧ (0 ≤ p.tm ∧ p.tm ≤ 20) := by
  simp only [paceB, Bool.and_eq_true, decide_eq_true_eq]
def zeroP : Pc := ⟨0, 0, 0, 0⟩
def longP (p : Pc) : Pc := if paceB p then ⟨p.mn, p.sp, if 60000 < 2 * p.wt then 60000 else 2 * p.wt, if 20 < p.tm + 1 then 20 else p.tm + 1⟩ else zeroP
/-- Mean by 8 and Spread, within its bounds. -/
def waitI (m s : Int) : Int := if m / 8 + s < 200 then 200 else if 60000 < m / 8 + s then 60000 else m / 8 + s
def measP (p : Pc) (t : Int) : Pc := if paceB p then (if 0 ≤ t ∧ t ≤ 60000 then ⟨(stepM t (p.mn, p.sp)).1, (stepM t (p.mn, p.sp)).2, waitI (stepM t (p.mn, p.sp)).1 (stepM t (p.mn, p.sp)).2, 0⟩ else p) else zeroP
theorem meas_ok {p : Pc} (h : paceB p = true) (t : Int) : paceB (measP p t) = true := by
  unfold measP
  rw [if_pos h]
  split
  · rename_i ht
    obtain ⟨⟨h1, h2⟩, ⟨h3, h4⟩, _, _⟩ := pace_iff.1 h
    have o := (Ok.mk ht.1 ht.2 h1 h2 h3 h4 : Ok t (p.mn, p.sp)).step
    refine pace_iff.2 ⟨⟨o.m0, o.m1⟩, ⟨o.s0, o.s1⟩, ?_, by dsimp only; omega⟩
    dsimp only [waitI]
    (repeat' split) <;> omega
  · exact h
theorem long_ok {p : Pc} (h : paceB p = true) : paceB (longP p) = true := by
  unfold longP
  rw [if_pos h]
  obtain ⟨h1, h2, h3, h4⟩ := pace_iff.1 h
  refine pace_iff.2 ⟨h1, h2, ?_, ?_⟩
  · dsimp only; split <;> omega
  · dsimp only; split <;> omega

set_option maxHeartbeats 2000000 in
theorem specPaceOk (p : Pc) (w : World) : Calls Try.prog 17 #[p.v] w fun x w' => x = .returned (.bool (paceB p)) ∧ Below w.heap.size w w' := by
  obtain ⟨mn, sp, wt, tm⟩ := p
  dsimp only [Pc.v]
  have fin : ∀ {o : Obj}, Below w.heap.size w (w.alloc o) := fun {o} => (Below.refl _ _).alloc (Nat.le_refl _) o
  cases h1 : decide (0 ≤ mn ∧ mn ≤ 480000)
  · go_enter Try.func17, Try.ntmps17
    go_wp2_with fail
    refine (Tak.l1InEq h1 _).mono ?_
    rintro x w1 ⟨rfl, rfl⟩
    go_wp2_with fail
    go_ret
    exact ⟨Num.ret_bool (by simp only [paceB, h1, Bool.false_and]), fin⟩
  · cases h2 : decide (0 ≤ sp ∧ sp ≤ 480000)
    · go_enter Try.func17, Try.ntmps17
      go_wp2_with fail
      refine (Tak.l1InEq h1 _).mono ?_
      rintro x w1 ⟨rfl, rfl⟩
      go_wp2_with fail
      refine (Tak.l1InEq h2 _).mono ?_
      rintro x w1 ⟨rfl, rfl⟩
      go_wp2_with fail
      go_ret
      exact ⟨Num.ret_bool (by simp only [paceB, h1, h2, Bool.false_and, Bool.true_and]), fin⟩
    · cases h3 : decide (200 ≤ wt ∧ wt ≤ 60000)
      · go_enter Try.func17, Try.ntmps17
        go_wp2_with fail
        refine (Tak.l1InEq h1 _).mono ?_
        rintro x w1 ⟨rfl, rfl⟩
        go_wp2_with fail
        refine (Tak.l1InEq h2 _).mono ?_
        rintro x w1 ⟨rfl, rfl⟩
        go_wp2_with fail
        refine (Tak.l1InEq h3 _).mono ?_
        rintro x w1 ⟨rfl, rfl⟩
        go_wp2_with fail
        go_ret
        exact ⟨Num.ret_bool (by simp only [paceB, h1, h2, h3, Bool.false_and, Bool.true_and]), fin⟩
      · go_enter Try.func17, Try.ntmps17
        go_wp2_with fail
        refine (Tak.l1InEq h1 _).mono ?_
        rintro x w1 ⟨rfl, rfl⟩
        go_wp2_with fail
        refine (Tak.l1InEq h2 _).mono ?_
        rintro x w1 ⟨rfl, rfl⟩
        go_wp2_with fail
        refine (Tak.l1InEq h3 _).mono ?_
        rintro x w1 ⟨rfl, rfl⟩
        go_wp2_with fail
        refine (Tak.l1In tm 0 20 _).mono ?_
        rintro x w1 ⟨rfl, rfl⟩
        go_wp2_with fail
        go_ret
        exact ⟨Num.ret_bool (by simp only [paceB, h1, h2, h3, Bool.true_and]; simp), fin⟩

end Go.Proofs.Ytbmfnkdcbdkcdaa.Pac
