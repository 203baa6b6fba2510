/-
  No cell of these rows narrows 'for every input' (looked for: loops, veiled, ifaces, maps, wideKeys, modest, calm, conditions, laid).
  DERIVED. THE GIVEN ROWS OF THIS SEAT. 6 by the template 'for every input the law returns true; each argument reads behind the call as it read before'; 0 by the template 'total and deterministic' (their statements: YtagpgjojfglkjaaTotals.lean).
  GIVEN WITH THE SEED: the statements are not yours to turn. If you find one false, say at which input.
  Laid BY PROGRAM, IN A SANDBOX (cutbox-rows.mjs): the forced cells as the released guide's own fill.sh prints them over the translation 8336a55a38eb1534… (all of the seat's roots in one cut). By AI agents, Wed Nov 11 2026. No macro, syntax, notation, axiom, sorry.
-/
import Derived.Test.YtagpgjojfglkjaaChecked
import GoSem.Claim
import GoSem.ClaimJoined
import GoSem.ClaimMapViews
import Derived.JoinedTies
import Derived.KernelRfl
namespace Go.Proofs.Ytagpgjojfglkjaa
/- THE CELL 'sum', in the pinned program and in every row, IS THE sha256 OF THE DUMP (.gsa) THAT YtagpgjojfglkjaaProg.lean LOADS. Nothing in Lean hashes anything: it is a label: what it is worth is what the hold of that sum in a sandbox is worth. -/
noncomputable def Try.pinned : Pinned := { name := "ytagpgjojfglkjaa", sum := "8336a55a38eb1534f3c5019120204ef06945b149e85529d6f4a887ab18ed7f6f", checked := Try.checked }
namespace Rows
def none {H : Type} : Left H := { results := [], args := [] }

/-- 'laws.FnGivers': WHATEVER THE INPUT: true; the input reads as it did. -/
def fnGiversSpec : ChangeSpec := { name := "fnGivers", fn := fun _ => fun
  | [d] => { results := [.lit (.bool true)], args := [d] }
  | _ => none }
def fnGiversRow : OpenClaim := { program := "ytagpgjojfglkjaa", sum := "8336a55a38eb1534f3c5019120204ef06945b149e85529d6f4a887ab18ed7f6f", func := "loop.example/g00450/laws.FnGivers", spec := "fnGivers", apart := false }
def FnGiversSaid : Prop := fnGiversRow.holds Try.pinned (OpenSpec.ofChange fnGiversSpec)

/-- ITS FALSE NEIGHBOUR: 'it returns false'. Refute it at one input. -/
def fnGiversWrong : ChangeSpec := { name := "fnGivers", fn := fun _ => fun
  | [d] => { results := [.lit (.bool false)], args := [d] }
  | _ => none }
def FnGiversWrongFalsely : Prop := fnGiversRow.holds Try.pinned (OpenSpec.ofChange fnGiversWrong)

/-- 'laws.FnOffers': WHATEVER THE INPUT: true; the input reads as it did. -/
def fnOffersSpec : ChangeSpec := { name := "fnOffers", fn := fun _ => fun
  | [d] => { results := [.lit (.bool true)], args := [d] }
  | _ => none }
def fnOffersRow : OpenClaim := { program := "ytagpgjojfglkjaa", sum := "8336a55a38eb1534f3c5019120204ef06945b149e85529d6f4a887ab18ed7f6f", func := "loop.example/g00450/laws.FnOffers", spec := "fnOffers", apart := false }
def FnOffersSaid : Prop := fnOffersRow.holds Try.pinned (OpenSpec.ofChange fnOffersSpec)

/-- ITS FALSE NEIGHBOUR: 'it returns false'. Refute it at one input. -/
def fnOffersWrong : ChangeSpec := { name := "fnOffers", fn := fun _ => fun
  | [d] => { results := [.lit (.bool false)], args := [d] }
  | _ => none }
def FnOffersWrongFalsely : Prop := fnOffersRow.holds Try.pinned (OpenSpec.ofChange fnOffersWrong)

/-- 'laws.FnHears': WHATEVER THE INPUT: true; the input reads as it did. -/
def fnHearsSpec : ChangeSpec := { name := "fnHears", fn := fun _ => fun
  | [d] => { results := [.lit (.bool true)], args := [d] }
  | _ => none }
def fnHearsRow : OpenClaim := { program := "ytagpgjojfglkjaa", sum := "8336a55a38eb1534f3c5019120204ef06945b149e85529d6f4a887ab18ed7f6f", func := "loop.example/g00450/laws.FnHears", spec := "fnHears", apart := false }
def FnHearsSaid : Prop := fnHearsRow.holds Try.pinned (OpenSpec.ofChange fnHearsSpec)

/-- ITS FALSE NEIGHBOUR: 'it returns false'. Refute it at one input. -/
def fnHearsWrong : ChangeSpec := { name := "fnHears", fn := fun _ => fun
  | [d] => { results := [.lit (.bool false)], args := [d] }
  | _ => none }
def FnHearsWrongFalsely : Prop := fnHearsRow.holds Try.pinned (OpenSpec.ofChange fnHearsWrong)

/-- 'laws.FnExactGiverOk': WHATEVER THE INPUT: true; the input reads as it did. -/
def fnExactGiverOkSpec : ChangeSpec := { name := "fnExactGiverOk", fn := fun _ => fun
  | [d] => { results := [.lit (.bool true)], args := [d] }
  | _ => none }
def fnExactGiverOkRow : OpenClaim := { program := "ytagpgjojfglkjaa", sum := "8336a55a38eb1534f3c5019120204ef06945b149e85529d6f4a887ab18ed7f6f", func := "loop.example/g00450/laws.FnExactGiverOk", spec := "fnExactGiverOk", apart := false }
def FnExactGiverOkSaid : Prop := fnExactGiverOkRow.holds Try.pinned (OpenSpec.ofChange fnExactGiverOkSpec)

/-- ITS FALSE NEIGHBOUR: 'it returns false'. Refute it at one input. -/
def fnExactGiverOkWrong : ChangeSpec := { name := "fnExactGiverOk", fn := fun _ => fun
  | [d] => { results := [.lit (.bool false)], args := [d] }
  | _ => none }
def FnExactGiverOkWrongFalsely : Prop := fnExactGiverOkRow.holds Try.pinned (OpenSpec.ofChange fnExactGiverOkWrong)

/-- 'laws.FnExactNewGiver': WHATEVER THE INPUT: true; the input reads as it did. -/
def fnExactNewGiverSpec : ChangeSpec := { name := "fnExactNewGiver", fn := fun _ => fun
  | [d] => { results := [.lit (.bool true)], args := [d] }
  | _ => none }
def fnExactNewGiverRow : OpenClaim := { program := "ytagpgjojfglkjaa", sum := "8336a55a38eb1534f3c5019120204ef06945b149e85529d6f4a887ab18ed7f6f", func := "loop.example/g00450/laws.FnExactNewGiver", spec := "fnExactNewGiver", apart := false }
def FnExactNewGiverSaid : Prop := fnExactNewGiverRow.holds Try.pinned (OpenSpec.ofChange fnExactNewGiverSpec)

/-- ITS FALSE NEIGHBOUR: 'it returns false'. Refute it at one input. -/
def fnExactNewGiverWrong : ChangeSpec := { name := "fnExactNewGiver", fn := fun _ => fun
  | [d] => { results := [.lit (.bool false)], args := [d] }
  | _ => none }
def FnExactNewGiverWrongFalsely : Prop := fnExactNewGiverRow.holds Try.pinned (OpenSpec.ofChange fnExactNewGiverWrong)

/-- 'laws.FnExactWrites': WHATEVER THE INPUT: true; the input reads as it did. -/
def fnExactWritesSpec : ChangeSpec := { name := "fnExactWrites", fn := fun _ => fun
  | [d1, d2] => { results := [.lit (.bool true)], args := [d1, d2] }
  | _ => none }
def fnExactWritesRow : OpenClaim := { program := "ytagpgjojfglkjaa", sum := "8336a55a38eb1534f3c5019120204ef06945b149e85529d6f4a887ab18ed7f6f", func := "loop.example/g00450/laws.FnExactWrites", spec := "fnExactWrites", apart := false }
def FnExactWritesSaid : Prop := fnExactWritesRow.holds Try.pinned (OpenSpec.ofChange fnExactWritesSpec)

/-- ITS FALSE NEIGHBOUR: 'it returns false'. Refute it at one input. -/
def fnExactWritesWrong : ChangeSpec := { name := "fnExactWrites", fn := fun _ => fun
  | [d1, d2] => { results := [.lit (.bool false)], args := [d1, d2] }
  | _ => none }
def FnExactWritesWrongFalsely : Prop := fnExactWritesRow.holds Try.pinned (OpenSpec.ofChange fnExactWritesWrong)

/- THE SECOND FORM. 'bulk': how many values and letters a reading holds, each counted each time it is reached (what is shared counts as often as it is met; a slice's spare places count too). A statement '..UptoSaid' is the law's where the arguments, and the package variables that the reading takes, are together of bulk at most 1048576: NARROWER than '..Said'. Prove '..Said' where nothing that the law and all that it calls make is longer than what came in: it says more and counts as full. Else prove '..UptoSaid'. A law counts once. -/
mutual
def uptoBulk {H : Type} : DataW H → Nat
  | .lit (.string bytes) => bytes.length + 1
  | .lit _ => 1
  | .nil => 1
  | .ptr d => uptoBulk d + 1
  | .slice elems spare => uptoBulkAll elems + uptoBulkAll spare + 1
  | .agg parts => uptoBulkAll parts + 1
  | .iface _ d => uptoBulk d + 1
  | .map entries => uptoBulkEntries entries + 1
  | .held _ => 1
def uptoBulkAll {H : Type} : List (DataW H) → Nat
  | [] => 0
  | d :: r => uptoBulk d + uptoBulkAll r
def uptoBulkEntries {H : Type} : List (Lit × DataW H) → Nat
  | [] => 0
  | x :: r => uptoBulkEntry x + uptoBulkEntries r
def uptoBulkEntry {H : Type} : Lit × DataW H → Nat
  | (.string bytes, d) => bytes.length + uptoBulk d + 1
  | (_, d) => uptoBulk d + 1
 end
def uptoSmall : (H : Type) → List (DataW H) → Bool := fun _ ds => decide (uptoBulkAll ds ≤ 1048576)
def OpenSpec.upto (s : _root_.Go.ChangeSpec) : _root_.Go.OpenSpec := { _root_.Go.OpenSpec.ofChange s with cond := some uptoSmall }

/-- 'laws.FnGivers', WHERE WHAT IT READS IS OF BULK AT MOST 1048576: true; the input reads as it did. -/
def fnGiversUptoRow : OpenClaim := { program := "ytagpgjojfglkjaa", sum := "8336a55a38eb1534f3c5019120204ef06945b149e85529d6f4a887ab18ed7f6f", func := "loop.example/g00450/laws.FnGivers", spec := "fnGivers", apart := false, narrowed := true }
def FnGiversUptoSaid : Prop := fnGiversUptoRow.holds Try.pinned (OpenSpec.upto fnGiversSpec)

/-- 'laws.FnOffers', WHERE WHAT IT READS IS OF BULK AT MOST 1048576: true; the input reads as it did. -/
def fnOffersUptoRow : OpenClaim := { program := "ytagpgjojfglkjaa", sum := "8336a55a38eb1534f3c5019120204ef06945b149e85529d6f4a887ab18ed7f6f", func := "loop.example/g00450/laws.FnOffers", spec := "fnOffers", apart := false, narrowed := true }
def FnOffersUptoSaid : Prop := fnOffersUptoRow.holds Try.pinned (OpenSpec.upto fnOffersSpec)

/-- 'laws.FnHears', WHERE WHAT IT READS IS OF BULK AT MOST 1048576: true; the input reads as it did. -/
def fnHearsUptoRow : OpenClaim := { program := "ytagpgjojfglkjaa", sum := "8336a55a38eb1534f3c5019120204ef06945b149e85529d6f4a887ab18ed7f6f", func := "loop.example/g00450/laws.FnHears", spec := "fnHears", apart := false, narrowed := true }
def FnHearsUptoSaid : Prop := fnHearsUptoRow.holds Try.pinned (OpenSpec.upto fnHearsSpec)

/-- 'laws.FnExactGiverOk', WHERE WHAT IT READS IS OF BULK AT MOST 1048576: true; the input reads as it did. -/
def fnExactGiverOkUptoRow : OpenClaim := { program := "ytagpgjojfglkjaa", sum := "8336a55a38eb1534f3c5019120204ef06945b149e85529d6f4a887ab18ed7f6f", func := "loop.example/g00450/laws.FnExactGiverOk", spec := "fnExactGiverOk", apart := false, narrowed := true }
def FnExactGiverOkUptoSaid : Prop := fnExactGiverOkUptoRow.holds Try.pinned (OpenSpec.upto fnExactGiverOkSpec)

/-- 'laws.FnExactNewGiver', WHERE WHAT IT READS IS OF BULK AT MOST 1048576: true; the input reads as it did. -/
def fnExactNewGiverUptoRow : OpenClaim := { program := "ytagpgjojfglkjaa", sum := "8336a55a38eb1534f3c5019120204ef06945b149e85529d6f4a887ab18ed7f6f", func := "loop.example/g00450/laws.FnExactNewGiver", spec := "fnExactNewGiver", apart := false, narrowed := true }
def FnExactNewGiverUptoSaid : Prop := fnExactNewGiverUptoRow.holds Try.pinned (OpenSpec.upto fnExactNewGiverSpec)

/-- 'laws.FnExactWrites', WHERE WHAT IT READS IS OF BULK AT MOST 1048576: true; the input reads as it did. -/
def fnExactWritesUptoRow : OpenClaim := { program := "ytagpgjojfglkjaa", sum := "8336a55a38eb1534f3c5019120204ef06945b149e85529d6f4a887ab18ed7f6f", func := "loop.example/g00450/laws.FnExactWrites", spec := "fnExactWrites", apart := false, narrowed := true }
def FnExactWritesUptoSaid : Prop := fnExactWritesUptoRow.holds Try.pinned (OpenSpec.upto fnExactWritesSpec)

end Rows
end Go.Proofs.Ytagpgjojfglkjaa
