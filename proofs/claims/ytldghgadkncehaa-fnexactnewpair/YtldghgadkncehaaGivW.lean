/- Mathematics of FnOffers: what is offered of a right giver; plain. -/
import Derived.Test.YtldghgadkncehaaGivD
namespace Go.Proofs.Ytldghgadkncehaa.Giv
open Go.RowKit RowG
set_option linter.unusedVariables false
set_option linter.unusedSimpArgs false

theorem offers_none {g : Gv} {p n xa : Int} {xb : ByteArray} {xe : Bool} (h : offersG g p n = ((xa, xb), xe, false)) : xa = 0 ∧ xb = ⟨#[]⟩ ∧ xe = false := by
  unfold offersG at h
  split at h
  · unfold offerG at h
    split at h
    · simp only [Prod.mk.injEq] at h
      exact ⟨h.1.1.symm, h.1.2.symm, h.2.1.symm⟩
    · split at h
      · simp only [Prod.mk.injEq] at h
        exact ⟨h.1.1.symm, h.1.2.symm, h.2.1.symm⟩
      · simp only [Prod.mk.injEq] at h
        exact absurd h.2.2 (by decide)
  · simp only [Prod.mk.injEq] at h
    exact ⟨h.1.1.symm, h.1.2.symm, h.2.1.symm⟩
theorem offers_some {g : Gv} {p n xa : Int} {xb : ByteArray} {xe : Bool} (h : offersG g p n = ((xa, xb), xe, true)) :
    g.ok = true ∧ xa = p ∧ ∃ st : Int, g.ba ≤ p ∧ p ≤ st ∧ st ≤ g.ba + g.bs.size ∧ st ≤ p + n ∧ 0 ≤ n ∧ n ≤ 40 ∧ (st = p ∨ st ≤ g.lm) ∧ xb = g.bs.extract (p - g.ba).toNat (st - g.ba).toNat ∧ (xb.size : Int) = st - p ∧ xe = (g.en && decide (st = g.ba + g.bs.size)) ∧ (st = p → xe = true) := by
  unfold offersG at h
  split at h
  · rename_i hok
    refine ⟨hok, ?_⟩
    unfold offerG at h
    split at h
    · simp only [Prod.mk.injEq] at h
      exact absurd h.2.2 (by decide)
    · rename_i hin
      split at h
      · simp only [Prod.mk.injEq] at h
        exact absurd h.2.2 (by decide)
      · rename_i hst
        simp only [Prod.mk.injEq] at h
        obtain ⟨⟨rfl, rfl⟩, rfl, -⟩ := h
        have e1 : stopG g p n = min (p + n) (min (g.ba + g.bs.size) (max p g.lm)) := rfl
        generalize stopG g p n = st at *
        refine ⟨rfl, st, by omega, by omega, by omega, by omega, by omega, by omega, by omega, rfl, ?_, rfl, ?_⟩
        · rw [ByteArray.size_extract]
          omega
        · intro he
          cases hx : (g.en && decide (st = g.ba + g.bs.size))
          · exact absurd ⟨he, hx⟩ hst
          · rfl
  · simp only [Prod.mk.injEq] at h
    exact absurd h.2.2 (by decide)

end Go.Proofs.Ytldghgadkncehaa.Giv
