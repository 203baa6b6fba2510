/- The specification's l7Out, through a pointer into whatever block; at most 2^19 letters. -/
import Derived.Test.YtldghgadkncehaaHopG
import Derived.Test.YtldghgadkncehaaRowL
namespace Go.Proofs.Ytldghgadkncehaa.Hop
open Go.RowKit RowG
set_option linter.unusedVariables false
set_option linter.unusedSimpArgs false

def zeroL : Lt := ⟨false, 0, 0, ⟨#[]⟩, false, 0, false⟩
/-- Letter k, taken out. -/
def outH (h : Hp) (k : Int) : Hp × Lt × Bool := if 0 ≤ k then (match h.ws[k.toNat]? with
  | some x => (⟨h.g, h.t, h.ws.take k.toNat ++ h.ws.drop (k.toNat + 1)⟩, x, true)
  | none => (h, zeroL, false)) else (h, zeroL, false)
theorem outH_none {h : Hp} {k : Int} (hk : k < 0 ∨ (h.ws.length : Int) ≤ k) : outH h k = (h, zeroL, false) := by
  unfold outH
  split
  · rw [List.getElem?_eq_none (by omega)]
  · rfl
theorem outH_some {h : Hp} {k : Nat} {x : Lt} (hx : h.ws[k]? = some x) : outH h k = (⟨h.g, h.t, h.ws.take k ++ h.ws.drop (k + 1)⟩, x, true) := by
  unfold outH
  rw [if_pos (by omega), Int.toNat_natCast, hx]

end Go.Proofs.Ytldghgadkncehaa.Hop
