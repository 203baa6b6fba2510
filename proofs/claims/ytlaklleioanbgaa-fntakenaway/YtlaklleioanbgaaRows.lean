/-
  No cell of these rows narrows 'for every input' (looked for: loops, veiled, ifaces, maps, wideKeys, modest, calm, conditions, laid).
  DERIVED. THE GIVEN ROWS OF THIS SEAT. 6 by the template 'for every input the law returns true; each argument reads behind the call as it read before'; 0 by the template 'total and deterministic' (their statements: YtlaklleioanbgaaTotals.lean).
  GIVEN WITH THE SEED: the statements are not yours to turn. If you find one false, say at which input.
  Laid BY PROGRAM, IN A SANDBOX (cutbox-rows.mjs): the forced cells as the released guide's own fill.sh prints them over the translation bf70bba41a075d5e… (all of the seat's roots in one cut). By AI agents, Wed Nov 11 2026. No macro, syntax, notation, axiom, sorry.
-/
import Derived.Test.YtlaklleioanbgaaChecked
import GoSem.Claim
import GoSem.ClaimJoined
import GoSem.ClaimMapViews
import Derived.JoinedTies
import Derived.KernelRfl
namespace Go.Proofs.Ytlaklleioanbgaa
/- THE CELL 'sum', in the pinned program and in every row, IS THE sha256 OF THE DUMP (.gsa) THAT YtlaklleioanbgaaProg.lean LOADS. Nothing in Lean hashes anything: it is a label: what it is worth is what the hold of that sum in a sandbox is worth. -/
noncomputable def Try.pinned : Pinned := { name := "ytlaklleioanbgaa", sum := "bf70bba41a075d5e44f54336583be7c45893902a42eb5cba2d3894816e8f0d62", checked := Try.checked }
namespace Rows
def none {H : Type} : Left H := { results := [], args := [] }

/-- 'laws.FnTakers': WHATEVER THE INPUT: true; the input reads as it did. -/
def fnTakersSpec : ChangeSpec := { name := "fnTakers", fn := fun _ => fun
  | [d] => { results := [.lit (.bool true)], args := [d] }
  | _ => none }
def fnTakersRow : OpenClaim := { program := "ytlaklleioanbgaa", sum := "bf70bba41a075d5e44f54336583be7c45893902a42eb5cba2d3894816e8f0d62", func := "loop.example/g00450/laws.FnTakers", spec := "fnTakers", unfollowed := true, recurses := true, apart := false }
def FnTakersSaid : Prop := fnTakersRow.holds Try.pinned (OpenSpec.ofChange fnTakersSpec)

/-- ITS FALSE NEIGHBOUR: 'it returns false'. Refute it at one input. -/
def fnTakersWrong : ChangeSpec := { name := "fnTakers", fn := fun _ => fun
  | [d] => { results := [.lit (.bool false)], args := [d] }
  | _ => none }
def FnTakersWrongFalsely : Prop := fnTakersRow.holds Try.pinned (OpenSpec.ofChange fnTakersWrong)

/-- 'laws.FnOnce': WHATEVER THE INPUT: true; the input reads as it did. -/
def fnOnceSpec : ChangeSpec := { name := "fnOnce", fn := fun _ => fun
  | [d] => { results := [.lit (.bool true)], args := [d] }
  | _ => none }
def fnOnceRow : OpenClaim := { program := "ytlaklleioanbgaa", sum := "bf70bba41a075d5e44f54336583be7c45893902a42eb5cba2d3894816e8f0d62", func := "loop.example/g00450/laws.FnOnce", spec := "fnOnce", unfollowed := true, recurses := true, apart := false }
def FnOnceSaid : Prop := fnOnceRow.holds Try.pinned (OpenSpec.ofChange fnOnceSpec)

/-- ITS FALSE NEIGHBOUR: 'it returns false'. Refute it at one input. -/
def fnOnceWrong : ChangeSpec := { name := "fnOnce", fn := fun _ => fun
  | [d] => { results := [.lit (.bool false)], args := [d] }
  | _ => none }
def FnOnceWrongFalsely : Prop := fnOnceRow.holds Try.pinned (OpenSpec.ofChange fnOnceWrong)

/-- 'laws.FnTakenAway': WHATEVER THE INPUT: true; the input reads as it did. -/
def fnTakenAwaySpec : ChangeSpec := { name := "fnTakenAway", fn := fun _ => fun
  | [d] => { results := [.lit (.bool true)], args := [d] }
  | _ => none }
def fnTakenAwayRow : OpenClaim := { program := "ytlaklleioanbgaa", sum := "bf70bba41a075d5e44f54336583be7c45893902a42eb5cba2d3894816e8f0d62", func := "loop.example/g00450/laws.FnTakenAway", spec := "fnTakenAway", unfollowed := true, recurses := true, apart := false }
def FnTakenAwaySaid : Prop := fnTakenAwayRow.holds Try.pinned (OpenSpec.ofChange fnTakenAwaySpec)

/-- ITS FALSE NEIGHBOUR: 'it returns false'. Refute it at one input. -/
def fnTakenAwayWrong : ChangeSpec := { name := "fnTakenAway", fn := fun _ => fun
  | [d] => { results := [.lit (.bool false)], args := [d] }
  | _ => none }
def FnTakenAwayWrongFalsely : Prop := fnTakenAwayRow.holds Try.pinned (OpenSpec.ofChange fnTakenAwayWrong)

/-- 'laws.FnExactTakerOk': WHATEVER THE INPUT: true; the input reads as it did. -/
def fnExactTakerOkSpec : ChangeSpec := { name := "fnExactTakerOk", fn := fun _ => fun
  | [d] => { results := [.lit (.bool true)], args := [d] }
  | _ => none }
def fnExactTakerOkRow : OpenClaim := { program := "ytlaklleioanbgaa", sum := "bf70bba41a075d5e44f54336583be7c45893902a42eb5cba2d3894816e8f0d62", func := "loop.example/g00450/laws.FnExactTakerOk", spec := "fnExactTakerOk", unfollowed := true, recurses := true, apart := false }
def FnExactTakerOkSaid : Prop := fnExactTakerOkRow.holds Try.pinned (OpenSpec.ofChange fnExactTakerOkSpec)

/-- ITS FALSE NEIGHBOUR: 'it returns false'. Refute it at one input. -/
def fnExactTakerOkWrong : ChangeSpec := { name := "fnExactTakerOk", fn := fun _ => fun
  | [d] => { results := [.lit (.bool false)], args := [d] }
  | _ => none }
def FnExactTakerOkWrongFalsely : Prop := fnExactTakerOkRow.holds Try.pinned (OpenSpec.ofChange fnExactTakerOkWrong)

/-- 'laws.FnExactNewTaker': WHATEVER THE INPUT: true; the input reads as it did. -/
def fnExactNewTakerSpec : ChangeSpec := { name := "fnExactNewTaker", fn := fun _ => fun
  | [d] => { results := [.lit (.bool true)], args := [d] }
  | _ => none }
def fnExactNewTakerRow : OpenClaim := { program := "ytlaklleioanbgaa", sum := "bf70bba41a075d5e44f54336583be7c45893902a42eb5cba2d3894816e8f0d62", func := "loop.example/g00450/laws.FnExactNewTaker", spec := "fnExactNewTaker", apart := false }
def FnExactNewTakerSaid : Prop := fnExactNewTakerRow.holds Try.pinned (OpenSpec.ofChange fnExactNewTakerSpec)

/-- ITS FALSE NEIGHBOUR: 'it returns false'. Refute it at one input. -/
def fnExactNewTakerWrong : ChangeSpec := { name := "fnExactNewTaker", fn := fun _ => fun
  | [d] => { results := [.lit (.bool false)], args := [d] }
  | _ => none }
def FnExactNewTakerWrongFalsely : Prop := fnExactNewTakerRow.holds Try.pinned (OpenSpec.ofChange fnExactNewTakerWrong)

/-- 'laws.FnExactLimitOf': WHATEVER THE INPUT: true; the input reads as it did. -/
def fnExactLimitOfSpec : ChangeSpec := { name := "fnExactLimitOf", fn := fun _ => fun
  | [d] => { results := [.lit (.bool true)], args := [d] }
  | _ => none }
def fnExactLimitOfRow : OpenClaim := { program := "ytlaklleioanbgaa", sum := "bf70bba41a075d5e44f54336583be7c45893902a42eb5cba2d3894816e8f0d62", func := "loop.example/g00450/laws.FnExactLimitOf", spec := "fnExactLimitOf", unfollowed := true, recurses := true, apart := false }
def FnExactLimitOfSaid : Prop := fnExactLimitOfRow.holds Try.pinned (OpenSpec.ofChange fnExactLimitOfSpec)

/-- ITS FALSE NEIGHBOUR: 'it returns false'. Refute it at one input. -/
def fnExactLimitOfWrong : ChangeSpec := { name := "fnExactLimitOf", fn := fun _ => fun
  | [d] => { results := [.lit (.bool false)], args := [d] }
  | _ => none }
def FnExactLimitOfWrongFalsely : Prop := fnExactLimitOfRow.holds Try.pinned (OpenSpec.ofChange fnExactLimitOfWrong)

/- THE SECOND FORM. 'bulk': how many values and letters a reading holds, each counted each time it is reached (what is shared counts as often as it is met; a slice's spare places count too). A statement '..UptoSaid' is the law's where the arguments, and the package variables that the reading takes, are together of bulk at most 1048576: NARROWER than '..Said'. Prove '..Said' where nothing that the law and all that it calls make is longer than what came in: it says more and counts as full. Else prove '..UptoSaid'. A law counts once. -/
mutual
def uptoBulk {H : Type} : DataW H → Nat
  | .lit (.string bytes) => bytes.length + 1
  | .lit _ => 1
  | .nil => 1
  | .ptr d => uptoBulk d + 1
  | .slice elems spare => uptoBulkAll elems + uptoBulkAll spare + 1
  | .agg parts => uptoBulkAll parts + 1
  | .iface _ d => uptoBulk d + 1
  | .map entries => uptoBulkEntries entries + 1
  | .held _ => 1
def uptoBulkAll {H : Type} : List (DataW H) → Nat
  | [] => 0
  | d :: r => uptoBulk d + uptoBulkAll r
def uptoBulkEntries {H : Type} : List (Lit × DataW H) → Nat
  | [] => 0
  | x :: r => uptoBulkEntry x + uptoBulkEntries r
def uptoBulkEntry {H : Type} : Lit × DataW H → Nat
  | (.string bytes, d) => bytes.length + uptoBulk d + 1
  | (_, d) => uptoBulk d + 1
 end
def uptoSmall : (H : Type) → List (DataW H) → Bool := fun _ ds => decide (uptoBulkAll ds ≤ 1048576)
def OpenSpec.upto (s : _root_.Go.ChangeSpec) : _root_.Go.OpenSpec := { _root_.Go.OpenSpec.ofChange s with cond := some uptoSmall }

/-- 'laws.FnTakers', WHERE WHAT IT READS IS OF BULK AT MOST 1048576: true; the input reads as it did. -/
def fnTakersUptoRow : OpenClaim := { program := "ytlaklleioanbgaa", sum := "bf70bba41a075d5e44f54336583be7c45893902a42eb5cba2d3894816e8f0d62", func := "loop.example/g00450/laws.FnTakers", spec := "fnTakers", unfollowed := true, recurses := true, apart := false, narrowed := true }
def FnTakersUptoSaid : Prop := fnTakersUptoRow.holds Try.pinned (OpenSpec.upto fnTakersSpec)

/-- 'laws.FnOnce', WHERE WHAT IT READS IS OF BULK AT MOST 1048576: true; the input reads as it did. -/
def fnOnceUptoRow : OpenClaim := { program := "ytlaklleioanbgaa", sum := "bf70bba41a075d5e44f54336583be7c45893902a42eb5cba2d3894816e8f0d62", func := "loop.example/g00450/laws.FnOnce", spec := "fnOnce", unfollowed := true, recurses := true, apart := false, narrowed := true }
def FnOnceUptoSaid : Prop := fnOnceUptoRow.holds Try.pinned (OpenSpec.upto fnOnceSpec)

/-- 'laws.FnTakenAway', WHERE WHAT IT READS IS OF BULK AT MOST 1048576: true; the input reads as it did. -/
def fnTakenAwayUptoRow : OpenClaim := { program := "ytlaklleioanbgaa", sum := "bf70bba41a075d5e44f54336583be7c45893902a42eb5cba2d3894816e8f0d62", func := "loop.example/g00450/laws.FnTakenAway", spec := "fnTakenAway", unfollowed := true, recurses := true, apart := false, narrowed := true }
def FnTakenAwayUptoSaid : Prop := fnTakenAwayUptoRow.holds Try.pinned (OpenSpec.upto fnTakenAwaySpec)

/-- 'laws.FnExactTakerOk', WHERE WHAT IT READS IS OF BULK AT MOST 1048576: true; the input reads as it did. -/
def fnExactTakerOkUptoRow : OpenClaim := { program := "ytlaklleioanbgaa", sum := "bf70bba41a075d5e44f54336583be7c45893902a42eb5cba2d3894816e8f0d62", func := "loop.example/g00450/laws.FnExactTakerOk", spec := "fnExactTakerOk", unfollowed := true, recurses := true, apart := false, narrowed := true }
def FnExactTakerOkUptoSaid : Prop := fnExactTakerOkUptoRow.holds Try.pinned (OpenSpec.upto fnExactTakerOkSpec)

/-- 'laws.FnExactNewTaker', WHERE WHAT IT READS IS OF BULK AT MOST 1048576: true; the input reads as it did. -/
def fnExactNewTakerUptoRow : OpenClaim := { program := "ytlaklleioanbgaa", sum := "bf70bba41a075d5e44f54336583be7c45893902a42eb5cba2d3894816e8f0d62", func := "loop.example/g00450/laws.FnExactNewTaker", spec := "fnExactNewTaker", apart := false, narrowed := true }
def FnExactNewTakerUptoSaid : Prop := fnExactNewTakerUptoRow.holds Try.pinned (OpenSpec.upto fnExactNewTakerSpec)

/-- 'laws.FnExactLimitOf', WHERE WHAT IT READS IS OF BULK AT MOST 1048576: true; the input reads as it did. -/
def fnExactLimitOfUptoRow : OpenClaim := { program := "ytlaklleioanbgaa", sum := "bf70bba41a075d5e44f54336583be7c45893902a42eb5cba2d3894816e8f0d62", func := "loop.example/g00450/laws.FnExactLimitOf", spec := "fnExactLimitOf", unfollowed := true, recurses := true, apart := false, narrowed := true }
def FnExactLimitOfUptoSaid : Prop := fnExactLimitOfUptoRow.holds Try.pinned (OpenSpec.upto fnExactLimitOfSpec)

end Rows
end Go.Proofs.Ytlaklleioanbgaa
