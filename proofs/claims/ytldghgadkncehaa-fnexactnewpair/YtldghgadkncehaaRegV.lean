/- For RegJ: where of each operation nothing is told but that it is done and which value it gave. Plain. -/
import Derived.Test.YtldghgadkncehaaRegJ
namespace Go.Proofs.Ytldghgadkncehaa.RegJ
open Go.RowKit
set_option linter.unusedVariables false

/-- Operation j is done and gave this value (where one is told). -/
def Val (vs : List (Option Value)) (d : Nat → Bool) (j : Nat) (v : Value) (_ : World) : Prop := d j = true ∧ ∀ u, vs[j]? = some (some u) → v = u
theorem Val.keep {vs : List (Option Value)} {d : Nat → Bool} {x : Nat → Value} {w w' : World} {i : Nat} : ∀ j, j ≠ i → Val vs d j (x j) w → Val vs (fun j => j == i || d j) j (x j) w' :=
  fun j _ h => ⟨by simp [h.1], h.2⟩
theorem Val.this {vs : List (Option Value)} {d : Nat → Bool} {w : World} {i : Nat} {v : Value} (h : vs[i]? = some (some v) ∨ vs[i]? = some none) : Val vs (fun j => j == i || d j) i v w :=
  ⟨by simp, fun u hu => by
    rcases h with h | h
    · rw [h] at hu; cases hu; rfl
    · rw [h] at hu; cases hu⟩

end Go.Proofs.Ytldghgadkncehaa.RegJ
