/- Draws of chapter 6: DrawGiverOk, DrawEnds, DrawNewGiver, DrawWrites; at most 4096 bytes. -/
import Derived.Test.YtanbdccnlelmoaaDrawF
namespace Go.Proofs.Ytanbdccnlelmoaa.Giv
open Go.RowKit RowG
set_option linter.unusedVariables false
set_option linter.unusedSimpArgs false

theorem keep6 {w : World} {k b : Nat} {v0 v1 v2 v3 v4 v5 : Value} (h : w.cell? ⟨k, 0, none⟩ = some v0 ∧ w.cell? ⟨k, 1, none⟩ = some v1 ∧ w.cell? ⟨k, 2, none⟩ = some v2 ∧ w.cell? ⟨k, 3, none⟩ = some v3 ∧ w.cell? ⟨k, 4, none⟩ = some v4 ∧ w.cell? ⟨k, 5, none⟩ = some v5) (hk : k ≠ b) (u0 u1 u2 u3 u4 u5 : Value) : (Tak.put6 w b u0 u1 u2 u3 u4 u5).cell? ⟨k, 0, none⟩ = some v0 ∧ (Tak.put6 w b u0 u1 u2 u3 u4 u5).cell? ⟨k, 1, none⟩ = some v1 ∧ (Tak.put6 w b u0 u1 u2 u3 u4 u5).cell? ⟨k, 2, none⟩ = some v2 ∧ (Tak.put6 w b u0 u1 u2 u3 u4 u5).cell? ⟨k, 3, none⟩ = some v3 ∧ (Tak.put6 w b u0 u1 u2 u3 u4 u5).cell? ⟨k, 4, none⟩ = some v4 ∧ (Tak.put6 w b u0 u1 u2 u3 u4 u5).cell? ⟨k, 5, none⟩ = some v5 := by
  have e : ∀ i, (Tak.put6 w b u0 u1 u2 u3 u4 u5).cell? ⟨k, i, none⟩ = w.cell? ⟨k, i, none⟩ := fun i => World.cell?_of_block (Tak.heap_put6 w b k u0 u1 u2 u3 u4 u5 hk)
  rw [e, e, e, e, e, e]
  exact h

end Go.Proofs.Ytanbdccnlelmoaa.Giv
