/- New hops as hops of a line (chapter 13). -/
import Derived.Test.YtldghgadkncehaaLinC
import Derived.Test.YtldghgadkncehaaLinN
namespace Go.Proofs.Ytldghgadkncehaa.Wor
open Go.RowKit RowG Hop Roa Lin
set_option linter.unusedVariables false
set_option linter.unusedSimpArgs false

def toHp (x : Int × Int) : Hp := ⟨⟨0, ⟨#[]⟩, x.1, 0, false, false⟩, ⟨0, ⟨#[]⟩, [], x.2, -1, false⟩, []⟩
def toHa (x : Int × Int) : Ha := ⟨toHp x, none, 0, none, 0⟩
theorem vals_toHa (l : List (Int × Int)) : hopE.vals (l.map toHa) = H0.vals l := by
  induction l with
  | nil => rfl
  | cons x l ih => rw [List.map_cons, El.vals_cons, El.vals_cons, ih]; rfl
theorem lay_new {w : World} {B : Nat} {a : Option Addr} {c : Nat} {l : List (Int × Int)} (h : H0.Own 85 w B a c l) : LineLay w B a c (l.map toHa) := by
  refine ⟨?_, fun x hx => ?_, fun i j x y _ hx _ p q hp _ => ?_⟩
  · unfold El.Own at h ⊢
    rw [vals_toHa, List.length_map]
    exact h
  · obtain ⟨z, _, rfl⟩ := List.mem_map.1 hx
    exact ⟨El.Own.none _ _, El.Own.none _ _⟩
  · obtain ⟨z, _, rfl⟩ := List.mem_map.1 (List.mem_of_getElem? hx)
    cases hp

end Go.Proofs.Ytldghgadkncehaa.Wor
