/- For RegJ: of each operation that it is done and which value it gave, and of some ('m, z, P') that P holds of its value and the world till z is done. Plain. -/
import Derived.Test.YtldghgadkncehaaRegV
namespace Go.Proofs.Ytldghgadkncehaa.RegJ
open Go.RowKit
set_option linter.unusedVariables false

abbrev Tie := Nat × Nat × (Value → World → Prop)
def ValP (vs : List (Option Value)) (ps : List Tie) (d : Nat → Bool) (j : Nat) (v : Value) (w : World) : Prop := Val vs d j v w ∧ ∀ q ∈ ps, j = q.1 → d q.2.1 = false → q.2.2 v w
theorem ValP.keep {vs : List (Option Value)} {ps : List Tie} {d : Nat → Bool} {x : Nat → Value} {w w' : World} {i : Nat} (h : ∀ q ∈ ps, i = q.1 ∨ i = q.2.1 ∨ d q.2.1 = true ∨ ∀ v, q.2.2 v w → q.2.2 v w') :
    ∀ j, j ≠ i → ValP vs ps d j (x j) w → ValP vs ps (fun j => j == i || d j) j (x j) w' := fun j hj hv =>
  ⟨Val.keep j hj hv.1, fun q hq he hz => by
    have hz' : (q.2.1 == i) = false ∧ d q.2.1 = false := by simpa using hz
    rcases h q hq with h1 | h1 | h1 | h1
    · exact absurd (he.trans h1.symm) hj
    · simp [h1] at hz'
    · rw [hz'.2] at h1; cases h1
    · exact h1 _ (hv.2 q hq he hz'.2)⟩
theorem ValP.same {vs : List (Option Value)} {ps : List Tie} {d : Nat → Bool} {x : Nat → Value} {w : World} {i : Nat} : ∀ j, j ≠ i → ValP vs ps d j (x j) w → ValP vs ps (fun j => j == i || d j) j (x j) w := ValP.keep fun _ _ => .inr (.inr (.inr fun _ h => h))
theorem ValP.this {vs : List (Option Value)} {ps : List Tie} {d : Nat → Bool} {w : World} {i : Nat} {v : Value} (h : vs[i]? = some (some v) ∨ vs[i]? = some none) (hp : ∀ q ∈ ps, i = q.1 → q.2.2 v w) : ValP vs ps (fun j => j == i || d j) i v w :=
  ⟨Val.this h, fun q hq he _ => hp q hq he⟩
theorem ValP.free {vs : List (Option Value)} {ps : List Tie} {d : Nat → Bool} {w : World} {i : Nat} {v : Value} (h : vs[i]? = some (some v) ∨ vs[i]? = some none) (hn : (ps.all fun q => q.1 != i) = true) : ValP vs ps (fun j => j == i || d j) i v w :=
  ValP.this h fun q hq he => by
    simp only [List.all_eq_true] at hn
    have := hn q hq
    simp [he] at this
theorem ValP.val {vs : List (Option Value)} {ps : List Tie} {d : Nat → Bool} {j : Nat} {v : Value} {w : World} (h : ValP vs ps d j v w) {u : Value} (hu : vs[j]? = some (some u)) : v = u := h.1.2 u hu
theorem ValP.done {vs : List (Option Value)} {ps : List Tie} {d : Nat → Bool} {j : Nat} {v : Value} {w : World} (h : ValP vs ps d j v w) : d j = true := h.1.1
theorem ValP.tie {vs : List (Option Value)} {ps : List Tie} {d : Nat → Bool} {j : Nat} {v : Value} {w : World} (h : ValP vs ps d j v w) (q : Tie) (hq : q ∈ ps) (he : j = q.1) (hz : d q.2.1 = false) : q.2.2 v w := h.2 q hq he hz

end Go.Proofs.Ytldghgadkncehaa.RegJ
