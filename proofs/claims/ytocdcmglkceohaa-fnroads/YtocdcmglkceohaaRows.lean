/-
  No cell of these rows narrows 'for every input' (looked for: loops, veiled, ifaces, maps, wideKeys, modest, calm, conditions, laid).
  DERIVED. THE GIVEN ROWS OF THIS SEAT. 5 by the template 'for every input the law returns true; each argument reads behind the call as it read before'; 0 by the template 'total and deterministic' (their statements: YtocdcmglkceohaaTotals.lean).
  GIVEN WITH THE SEED: the statements are not yours to turn. If you find one false, say at which input.
  Laid BY PROGRAM, IN A SANDBOX (cutbox-rows.mjs): the forced cells as the released guide's own fill.sh prints them over the translation adba799f349d6942… (all of the seat's roots in one cut). By AI agents, Wed Nov 11 2026. No macro, syntax, notation, axiom, sorry.
-/
import Derived.Test.YtocdcmglkceohaaChecked
import GoSem.Claim
import GoSem.ClaimJoined
import GoSem.ClaimMapViews
import Derived.JoinedTies
import Derived.KernelRfl
namespace Go.Proofs.Ytocdcmglkceohaa
/- THE CELL 'sum', in the pinned program and in every row, IS THE sha256 OF THE DUMP (.gsa) THAT YtocdcmglkceohaaProg.lean LOADS. Nothing in Lean hashes anything: it is a label: what it is worth is what the hold of that sum in a sandbox is worth. -/
noncomputable def Try.pinned : Pinned := { name := "ytocdcmglkceohaa", sum := "adba799f349d69425b72b92377041c979860834e8b2e6802232937a9652e2afb", checked := Try.checked }
namespace Rows
def none {H : Type} : Left H := { results := [], args := [] }

/-- 'laws.FnRoads': WHATEVER THE INPUT: true; the input reads as it did. -/
def fnRoadsSpec : ChangeSpec := { name := "fnRoads", fn := fun _ => fun
  | [d] => { results := [.lit (.bool true)], args := [d] }
  | _ => none }
def fnRoadsRow : OpenClaim := { program := "ytocdcmglkceohaa", sum := "adba799f349d69425b72b92377041c979860834e8b2e6802232937a9652e2afb", func := "loop.example/g00450/laws.FnRoads", spec := "fnRoads", unfollowed := true, recurses := true, plainKeys := false, apart := false }
def FnRoadsSaid : Prop := fnRoadsRow.holds Try.pinned (OpenSpec.ofChange fnRoadsSpec)

/-- ITS FALSE NEIGHBOUR: 'it returns false'. Refute it at one input. -/
def fnRoadsWrong : ChangeSpec := { name := "fnRoads", fn := fun _ => fun
  | [d] => { results := [.lit (.bool false)], args := [d] }
  | _ => none }
def FnRoadsWrongFalsely : Prop := fnRoadsRow.holds Try.pinned (OpenSpec.ofChange fnRoadsWrong)

/-- 'laws.FnExactRoadsOk': WHATEVER THE INPUT: true; the input reads as it did. -/
def fnExactRoadsOkSpec : ChangeSpec := { name := "fnExactRoadsOk", fn := fun _ => fun
  | [d] => { results := [.lit (.bool true)], args := [d] }
  | _ => none }
def fnExactRoadsOkRow : OpenClaim := { program := "ytocdcmglkceohaa", sum := "adba799f349d69425b72b92377041c979860834e8b2e6802232937a9652e2afb", func := "loop.example/g00450/laws.FnExactRoadsOk", spec := "fnExactRoadsOk", plainKeys := false, apart := false }
def FnExactRoadsOkSaid : Prop := fnExactRoadsOkRow.holds Try.pinned (OpenSpec.ofChange fnExactRoadsOkSpec)

/-- ITS FALSE NEIGHBOUR: 'it returns false'. Refute it at one input. -/
def fnExactRoadsOkWrong : ChangeSpec := { name := "fnExactRoadsOk", fn := fun _ => fun
  | [d] => { results := [.lit (.bool false)], args := [d] }
  | _ => none }
def FnExactRoadsOkWrongFalsely : Prop := fnExactRoadsOkRow.holds Try.pinned (OpenSpec.ofChange fnExactRoadsOkWrong)

/-- 'laws.FnExactTurn': WHATEVER THE INPUT: true; the input reads as it did. -/
def fnExactTurnSpec : ChangeSpec := { name := "fnExactTurn", fn := fun _ => fun
  | [d1, d2, d3] => { results := [.lit (.bool true)], args := [d1, d2, d3] }
  | _ => none }
def fnExactTurnRow : OpenClaim := { program := "ytocdcmglkceohaa", sum := "adba799f349d69425b72b92377041c979860834e8b2e6802232937a9652e2afb", func := "loop.example/g00450/laws.FnExactTurn", spec := "fnExactTurn", unfollowed := true, recurses := true, plainKeys := false, apart := false }
def FnExactTurnSaid : Prop := fnExactTurnRow.holds Try.pinned (OpenSpec.ofChange fnExactTurnSpec)

/-- ITS FALSE NEIGHBOUR: 'it returns false'. Refute it at one input. -/
def fnExactTurnWrong : ChangeSpec := { name := "fnExactTurn", fn := fun _ => fun
  | [d1, d2, d3] => { results := [.lit (.bool false)], args := [d1, d2, d3] }
  | _ => none }
def FnExactTurnWrongFalsely : Prop := fnExactTurnRow.holds Try.pinned (OpenSpec.ofChange fnExactTurnWrong)

/-- 'laws.FnExactUsed': WHATEVER THE INPUT: true; the input reads as it did. -/
def fnExactUsedSpec : ChangeSpec := { name := "fnExactUsed", fn := fun _ => fun
  | [d1, d2, d3] => { results := [.lit (.bool true)], args := [d1, d2, d3] }
  | _ => none }
def fnExactUsedRow : OpenClaim := { program := "ytocdcmglkceohaa", sum := "adba799f349d69425b72b92377041c979860834e8b2e6802232937a9652e2afb", func := "loop.example/g00450/laws.FnExactUsed", spec := "fnExactUsed", unfollowed := true, recurses := true, plainKeys := false, apart := false }
def FnExactUsedSaid : Prop := fnExactUsedRow.holds Try.pinned (OpenSpec.ofChange fnExactUsedSpec)

/-- ITS FALSE NEIGHBOUR: 'it returns false'. Refute it at one input. -/
def fnExactUsedWrong : ChangeSpec := { name := "fnExactUsed", fn := fun _ => fun
  | [d1, d2, d3] => { results := [.lit (.bool false)], args := [d1, d2, d3] }
  | _ => none }
def FnExactUsedWrongFalsely : Prop := fnExactUsedRow.holds Try.pinned (OpenSpec.ofChange fnExactUsedWrong)

/-- 'laws.FnExactOpenOnes': WHATEVER THE INPUT: true; the input reads as it did. -/
def fnExactOpenOnesSpec : ChangeSpec := { name := "fnExactOpenOnes", fn := fun _ => fun
  | [d] => { results := [.lit (.bool true)], args := [d] }
  | _ => none }
def fnExactOpenOnesRow : OpenClaim := { program := "ytocdcmglkceohaa", sum := "adba799f349d69425b72b92377041c979860834e8b2e6802232937a9652e2afb", func := "loop.example/g00450/laws.FnExactOpenOnes", spec := "fnExactOpenOnes", recurses := true, plainKeys := false, apart := false }
def FnExactOpenOnesSaid : Prop := fnExactOpenOnesRow.holds Try.pinned (OpenSpec.ofChange fnExactOpenOnesSpec)

/-- ITS FALSE NEIGHBOUR: 'it returns false'. Refute it at one input. -/
def fnExactOpenOnesWrong : ChangeSpec := { name := "fnExactOpenOnes", fn := fun _ => fun
  | [d] => { results := [.lit (.bool false)], args := [d] }
  | _ => none }
def FnExactOpenOnesWrongFalsely : Prop := fnExactOpenOnesRow.holds Try.pinned (OpenSpec.ofChange fnExactOpenOnesWrong)

/- THE SECOND FORM. 'bulk': how many values and letters a reading holds, each counted each time it is reached (what is shared counts as often as it is met; a slice's spare places count too). A statement '..UptoSaid' is the law's where the arguments, and the package variables that the reading takes, are together of bulk at most 1048576: NARROWER than '..Said'. Prove '..Said' where nothing that the law and all that it calls make is longer than what came in: it says more and counts as full. Else prove '..UptoSaid'. A law counts once. -/
mutual
def uptoBulk {H : Type} : DataW H → Nat
  | .lit (.string bytes) => bytes.length + 1
  | .lit _ => 1
  | .nil => 1
  | .ptr d => uptoBulk d + 1
  | .slice elems spare => uptoBulkAll elems + uptoBulkAll spare + 1
  | .agg parts => uptoBulkAll parts + 1
  | .iface _ d => uptoBulk d + 1
  | .map entries => uptoBulkEntries entries + 1
  | .held _ => 1
def uptoBulkAll {H : Type} : List (DataW H) → Nat
  | [] => 0
  | d :: r => uptoBulk d + uptoBulkAll r
def uptoBulkEntries {H : Type} : List (Lit × DataW H) → Nat
  | [] => 0
  | x :: r => uptoBulkEntry x + uptoBulkEntries r
def uptoBulkEntry {H : Type} : Lit × DataW H → Nat
  | (.string bytes, d) => bytes.length + uptoBulk d + 1
  | (_, d) => uptoBulk d + 1
 end
def uptoSmall : (H : Type) → List (DataW H) → Bool := fun _ ds => decide (uptoBulkAll ds ≤ 1048576)
def OpenSpec.upto (s : _root_.Go.ChangeSpec) : _root_.Go.OpenSpec := { _root_.Go.OpenSpec.ofChange s with cond := some uptoSmall }

/-- 'laws.FnRoads', WHERE WHAT IT READS IS OF BULK AT MOST 1048576: true; the input reads as it did. -/
def fnRoadsUptoRow : OpenClaim := { program := "ytocdcmglkceohaa", sum := "adba799f349d69425b72b92377041c979860834e8b2e6802232937a9652e2afb", func := "loop.example/g00450/laws.FnRoads", spec := "fnRoads", unfollowed := true, recurses := true, plainKeys := false, apart := false, narrowed := true }
def FnRoadsUptoSaid : Prop := fnRoadsUptoRow.holds Try.pinned (OpenSpec.upto fnRoadsSpec)

/-- 'laws.FnExactRoadsOk', WHERE WHAT IT READS IS OF BULK AT MOST 1048576: true; the input reads as it did. -/
def fnExactRoadsOkUptoRow : OpenClaim := { program := "ytocdcmglkceohaa", sum := "adba799f349d69425b72b92377041c979860834e8b2e6802232937a9652e2afb", func := "loop.example/g00450/laws.FnExactRoadsOk", spec := "fnExactRoadsOk", plainKeys := false, apart := false, narrowed := true }
def FnExactRoadsOkUptoSaid : Prop := fnExactRoadsOkUptoRow.holds Try.pinned (OpenSpec.upto fnExactRoadsOkSpec)

/-- 'laws.FnExactTurn', WHERE WHAT IT READS IS OF BULK AT MOST 1048576: true; the input reads as it did. -/
def fnExactTurnUptoRow : OpenClaim := { program := "ytocdcmglkceohaa", sum := "adba799f349d69425b72b92377041c979860834e8b2e6802232937a9652e2afb", func := "loop.example/g00450/laws.FnExactTurn", spec := "fnExactTurn", unfollowed := true, recurses := true, plainKeys := false, apart := false, narrowed := true }
def FnExactTurnUptoSaid : Prop := fnExactTurnUptoRow.holds Try.pinned (OpenSpec.upto fnExactTurnSpec)

/-- 'laws.FnExactUsed', WHERE WHAT IT READS IS OF BULK AT MOST 1048576: true; the input reads as it did. -/
def fnExactUsedUptoRow : OpenClaim := { program := "ytocdcmglkceohaa", sum := "adba799f349d69425b72b92377041c979860834e8b2e6802232937a9652e2afb", func := "loop.example/g00450/laws.FnExactUsed", spec := "fnExactUsed", unfollowed := true, recurses := true, plainKeys := false, apart := false, narrowed := true }
def FnExactUsedUptoSaid : Prop := fnExactUsedUptoRow.holds Try.pinned (OpenSpec.upto fnExactUsedSpec)

/-- 'laws.FnExactOpenOnes', WHERE WHAT IT READS IS OF BULK AT MOST 1048576: true; the input reads as it did. -/
def fnExactOpenOnesUptoRow : OpenClaim := { program := "ytocdcmglkceohaa", sum := "adba799f349d69425b72b92377041c979860834e8b2e6802232937a9652e2afb", func := "loop.example/g00450/laws.FnExactOpenOnes", spec := "fnExactOpenOnes", recurses := true, plainKeys := false, apart := false, narrowed := true }
def FnExactOpenOnesUptoSaid : Prop := fnExactOpenOnesUptoRow.holds Try.pinned (OpenSpec.upto fnExactOpenOnesSpec)

end Rows
end Go.Proofs.Ytocdcmglkceohaa
