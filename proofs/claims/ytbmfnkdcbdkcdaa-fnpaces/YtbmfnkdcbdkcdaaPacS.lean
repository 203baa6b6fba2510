/- Mathematics of FnSteady and FnPaces (chapter 9) over whole paces; no condition. -/
import Derived.Test.YtbmfnkdcbdkcdaaPacA
namespace Go.Proofs.Ytbmfnkdcbdkcdaa.Pac
set_option linter.unusedVariables false

def measN (t : Int) (p : Pc) (n : Nat) : Pc := iter (fun q => measP q t) n p
theorem measN_step (t : Int) (p : Pc) (n : Nat) : measN t p (n + 1) = measP (measN t p n) t := rfl
theorem measN_ok {t : Int} {p : Pc} (h : paceB p = true) : ∀ n, paceB (measN t p n) = true
  | 0 => h
  | n + 1 => meas_ok (measN_ok h n) t
theorem measN_pair {t : Int} {p : Pc} (h : paceB p = true) (ht : 0 ≤ t ∧ t ≤ 60000) : ∀ n, ((measN t p n).mn, (measN t p n).sp) = iter (stepM t) n (p.mn, p.sp)
  | 0 => rfl
  | n + 1 => by
    have ih := measN_pair h ht n
    rw [measN_step]
    show _ = stepM t (iter (stepM t) n (p.mn, p.sp))
    rw [← ih]
    unfold measP
    rw [if_pos (measN_ok h n), if_pos ht]
theorem measN_wait {t : Int} {p : Pc} (h : paceB p = true) (ht : 0 ≤ t ∧ t ≤ 60000) (n : Nat) : (measN t p (n + 1)).wt = waitI (measN t p (n + 1)).mn (measN t p (n + 1)).sp := by
  rw [measN_step]
  unfold measP
  rw [if_pos (measN_ok h n), if_pos ht]
theorem steadyN {t : Int} {x : Int × Int} {n : Nat} (h : Ok t x) (hn : n = 300) : (iter (stepM t) n x).1 / 8 = t ∧ 0 ≤ (iter (stepM t) n x).2 ∧ (iter (stepM t) n x).2 ≤ 3 := by
  subst hn
  exact steady h
/-- Of one measure three hundred times. -/
theorem steadyP {t : Int} {p : Pc} {n : Nat} (hn : n = 300) (h : paceB p = true) (ht : 0 ≤ t ∧ t ≤ 60000) : (measN t p n).mn / 8 = t ∧ (0 ≤ (measN t p n).sp ∧ (measN t p n).sp ≤ 3) ∧ (0 ≤ (measN t p n).mn ∧ (measN t p n).mn ≤ 480000) ∧ (measN t p n).wt = waitI (measN t p n).mn (measN t p n).sp := by
  obtain ⟨h1, h2, _, _⟩ := pace_iff.1 h
  have s := steadyN (Ok.mk ht.1 ht.2 h1.1 h1.2 h2.1 h2.2 : Ok t (p.mn, p.sp)) hn
  rw [← measN_pair h ht n] at s
  refine ⟨s.1, s.2, (pace_iff.1 (measN_ok h n)).1, ?_⟩
  cases n with
  | zero => cases hn
  | succ m => exact measN_wait h ht m

theorem meas_bad {p : Pc} (h : paceB p = false) (t : Int) : measP p t = zeroP := by unfold measP; rw [h]; rfl
theorem meas_out {p : Pc} (h : paceB p = true) {t : Int} (ht : ¬ (0 ≤ t ∧ t ≤ 60000)) : measP p t = p := by unfold measP; rw [if_pos h, if_neg ht]
theorem meas_tm {p : Pc} (h : paceB p = true) {t : Int} (ht : 0 ≤ t ∧ t ≤ 60000) : (measP p t).tm = 0 := by unfold measP; rw [if_pos h, if_pos ht]
theorem long_bad {p : Pc} (h : paceB p = false) : longP p = zeroP := by unfold longP; rw [h]; rfl
theorem long_facts {p : Pc} (h : paceB p = true) : p.wt ≤ (longP p).wt ∧ (longP p).wt ≤ 2 * p.wt ∧ (longP p).mn = p.mn ∧ (longP p).sp = p.sp ∧ 200 ≤ p.wt ∧ p.wt ≤ 60000 := by
  obtain ⟨_, _, h3, _⟩ := pace_iff.1 h
  unfold longP
  rw [if_pos h]
  refine ⟨?_, ?_, rfl, rfl, h3.1, h3.2⟩
  all_goals (dsimp only; split <;> omega)

end Go.Proofs.Ytbmfnkdcbdkcdaa.Pac
