/- Mathematics of FnHears: what is heard of and changes nothing leaves the giver as it was; plain. -/
import Derived.Test.YtagpgjojfglkjaaGivT
namespace Go.Proofs.Ytagpgjojfglkjaa.Giv
open Go.RowKit RowG
set_option linter.unusedVariables false
set_option linter.unusedSimpArgs false

theorem hears_yes {g : Gv} (h : g.ok = true) (base limit : Int) (done : Bool) : hearsG g base limit done = hearG g base limit done := by unfold hearsG; rw [if_pos h]
theorem hears_no {g : Gv} (h : g.ok = false) (base limit : Int) (done : Bool) : hearsG g base limit done = (zeroG, false) := by unfold hearsG; rw [if_neg (by rw [h]; decide)]
theorem lm_ge {g : Gv} {base limit : Int} : g.lm ≤ lmT g base limit := by
  rw [lm_max]
  split <;> omega
theorem hears_same {g x : Gv} (h : g.ok = true) {base limit : Int} {done : Bool} (hx : hearsG g base limit done = (x, false)) : x = g := by
  rw [hears_yes h] at hx
  obtain ⟨h1, h2, h3, h4, h5, h6, h7⟩ := ok_iff.1 h
  unfold hearG at hx
  split at hx
  · simp only [Prod.mk.injEq] at hx
    exact hx.1.symm
  · rename_i hc
    simp only [Prod.mk.injEq, Bool.or_eq_false_iff, decide_eq_false_iff_not] at hx
    obtain ⟨rfl, ⟨q1, q2⟩, q3⟩ := hx
    have hb : base = g.ba := by omega
    subst hb
    have e1 : g.bs.extract (g.ba - g.ba).toNat g.bs.size = g.bs := by simp only [Int.sub_self, Int.toNat_zero]; exact ext_zero _
    have e2 : lmT g g.ba limit = g.lm := by
      unfold lmT
      rw [q2]
      simp only [Bool.false_eq_true, if_false]
      rw [if_neg (by omega)]
    rw [e1, e2, q3, Bool.or_false]
theorem hears_more {g x : Gv} (h : g.ok = true) {base limit : Int} {done : Bool} (hx : hearsG g base limit done = (x, true)) :
    x.ok = true ∧ g.ba ≤ base ∧ base ≤ g.ba + g.bs.size ∧ x.ba = base ∧ x.bs = g.bs.extract (base - g.ba).toNat g.bs.size ∧ x.cp = g.cp ∧ g.lm ≤ x.lm ∧ x.en = g.en ∧ (g.dn = true ∧ x.dn = true ∨ g.dn = false ∧ x.dn = false ∨ g.dn = false ∧ x.dn = true ∧ done = true ∧ g.en = true ∧ x.bs.size = 0) := by
  rw [hears_yes h] at hx
  have hok := hear_ok h base limit done
  rw [hx] at hok
  refine ⟨hok, ?_⟩
  unfold hearG at hx
  split at hx
  · simp only [Prod.mk.injEq] at hx
    exact absurd hx.2 (by decide)
  · rename_i hc
    simp only [Prod.mk.injEq] at hx
    obtain ⟨rfl, _⟩ := hx
    refine ⟨by omega, by omega, rfl, rfl, rfl, lm_ge, rfl, ?_⟩
    cases hd : g.dn
    · cases hD : dnB g base done
      · exact .inr (.inl ⟨rfl, by simp⟩)
      · refine .inr (.inr ⟨rfl, by simp, ?_⟩)
        simp only [dnB, Bool.and_eq_true, decide_eq_true_eq] at hD
        exact ⟨hD.1, hD.2.1, hD.2.2.1⟩
    · exact .inl ⟨rfl, by simp⟩

end Go.Proofs.Ytagpgjojfglkjaa.Giv
