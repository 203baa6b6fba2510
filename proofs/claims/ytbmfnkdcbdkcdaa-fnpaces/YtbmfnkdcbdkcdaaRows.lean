/-
  No cell of these rows narrows 'for every input' (looked for: loops, veiled, ifaces, maps, wideKeys, modest, calm, conditions, laid).
  DERIVED. THE GIVEN ROWS OF THIS SEAT. 6 by the template 'for every input the law returns true; each argument reads behind the call as it read before'; 0 by the template 'total and deterministic' (their statements: YtbmfnkdcbdkcdaaTotals.lean).
  GIVEN WITH THE SEED: the statements are not yours to turn. If you find one false, say at which input.
  Laid BY PROGRAM, IN A SANDBOX (cutbox-rows.mjs): the forced cells as the released guide's own fill.sh prints them over the translation 21fd34ba6ccce408… (all of the seat's roots in one cut). By AI agents, Wed Nov 11 2026. No macro, syntax, notation, axiom, sorry.
-/
import Derived.Test.YtbmfnkdcbdkcdaaChecked
import GoSem.Claim
import GoSem.ClaimJoined
import GoSem.ClaimMapViews
import Derived.JoinedTies
import Derived.KernelRfl
namespace Go.Proofs.Ytbmfnkdcbdkcdaa
/- THE CELL 'sum', in the pinned program and in every row, IS THE sha256 OF THE DUMP (.gsa) THAT YtbmfnkdcbdkcdaaProg.lean LOADS. Nothing in Lean hashes anything: it is a label: what it is worth is what the hold of that sum in a sandbox is worth. -/
noncomputable def Try.pinned : Pinned := { name := "ytbmfnkdcbdkcdaa", sum := "21fd34ba6ccce4080645b18553e1e645cb4254211df339ef87f7c67142c03145", checked := Try.checked }
namespace Rows
def none {H : Type} : Left H := { results := [], args := [] }

/-- 'laws.FnPaces': WHATEVER THE INPUT: true; the input reads as it did. -/
def fnPacesSpec : ChangeSpec := { name := "fnPaces", fn := fun _ => fun
  | [d] => { results := [.lit (.bool true)], args := [d] }
  | _ => none }
def fnPacesRow : OpenClaim := { program := "ytbmfnkdcbdkcdaa", sum := "21fd34ba6ccce4080645b18553e1e645cb4254211df339ef87f7c67142c03145", func := "loop.example/g00450/laws.FnPaces", spec := "fnPaces", apart := false }
def FnPacesSaid : Prop := fnPacesRow.holds Try.pinned (OpenSpec.ofChange fnPacesSpec)

/-- ITS FALSE NEIGHBOUR: 'it returns false'. Refute it at one input. -/
def fnPacesWrong : ChangeSpec := { name := "fnPaces", fn := fun _ => fun
  | [d] => { results := [.lit (.bool false)], args := [d] }
  | _ => none }
def FnPacesWrongFalsely : Prop := fnPacesRow.holds Try.pinned (OpenSpec.ofChange fnPacesWrong)

/-- 'laws.FnSteady': WHATEVER THE INPUT: true; the input reads as it did. -/
def fnSteadySpec : ChangeSpec := { name := "fnSteady", fn := fun _ => fun
  | [d] => { results := [.lit (.bool true)], args := [d] }
  | _ => none }
def fnSteadyRow : OpenClaim := { program := "ytbmfnkdcbdkcdaa", sum := "21fd34ba6ccce4080645b18553e1e645cb4254211df339ef87f7c67142c03145", func := "loop.example/g00450/laws.FnSteady", spec := "fnSteady", apart := false }
def FnSteadySaid : Prop := fnSteadyRow.holds Try.pinned (OpenSpec.ofChange fnSteadySpec)

/-- ITS FALSE NEIGHBOUR: 'it returns false'. Refute it at one input. -/
def fnSteadyWrong : ChangeSpec := { name := "fnSteady", fn := fun _ => fun
  | [d] => { results := [.lit (.bool false)], args := [d] }
  | _ => none }
def FnSteadyWrongFalsely : Prop := fnSteadyRow.holds Try.pinned (OpenSpec.ofChange fnSteadyWrong)

/-- 'laws.FnExactPaceOk': WHATEVER THE INPUT: true; the input reads as it did. -/
def fnExactPaceOkSpec : ChangeSpec := { name := "fnExactPaceOk", fn := fun _ => fun
  | [d] => { results := [.lit (.bool true)], args := [d] }
  | _ => none }
def fnExactPaceOkRow : OpenClaim := { program := "ytbmfnkdcbdkcdaa", sum := "21fd34ba6ccce4080645b18553e1e645cb4254211df339ef87f7c67142c03145", func := "loop.example/g00450/laws.FnExactPaceOk", spec := "fnExactPaceOk", apart := false }
def FnExactPaceOkSaid : Prop := fnExactPaceOkRow.holds Try.pinned (OpenSpec.ofChange fnExactPaceOkSpec)

/-- ITS FALSE NEIGHBOUR: 'it returns false'. Refute it at one input. -/
def fnExactPaceOkWrong : ChangeSpec := { name := "fnExactPaceOk", fn := fun _ => fun
  | [d] => { results := [.lit (.bool false)], args := [d] }
  | _ => none }
def FnExactPaceOkWrongFalsely : Prop := fnExactPaceOkRow.holds Try.pinned (OpenSpec.ofChange fnExactPaceOkWrong)

/-- 'laws.FnExactNewPace': WHATEVER THE INPUT: true; the input reads as it did. -/
def fnExactNewPaceSpec : ChangeSpec := { name := "fnExactNewPace", fn := fun _ => fun
  | [] => { results := [.lit (.bool true)], args := [] }
  | _ => none }
def fnExactNewPaceRow : OpenClaim := { program := "ytbmfnkdcbdkcdaa", sum := "21fd34ba6ccce4080645b18553e1e645cb4254211df339ef87f7c67142c03145", func := "loop.example/g00450/laws.FnExactNewPace", spec := "fnExactNewPace", apart := false }
def FnExactNewPaceSaid : Prop := fnExactNewPaceRow.holds Try.pinned (OpenSpec.ofChange fnExactNewPaceSpec)

/-- ITS FALSE NEIGHBOUR: 'it returns false'. Refute it at one input. -/
def fnExactNewPaceWrong : ChangeSpec := { name := "fnExactNewPace", fn := fun _ => fun
  | [] => { results := [.lit (.bool false)], args := [] }
  | _ => none }
def FnExactNewPaceWrongFalsely : Prop := fnExactNewPaceRow.holds Try.pinned (OpenSpec.ofChange fnExactNewPaceWrong)

/-- 'laws.FnExactMeasured': WHATEVER THE INPUT: true; the input reads as it did. -/
def fnExactMeasuredSpec : ChangeSpec := { name := "fnExactMeasured", fn := fun _ => fun
  | [d1, d2] => { results := [.lit (.bool true)], args := [d1, d2] }
  | _ => none }
def fnExactMeasuredRow : OpenClaim := { program := "ytbmfnkdcbdkcdaa", sum := "21fd34ba6ccce4080645b18553e1e645cb4254211df339ef87f7c67142c03145", func := "loop.example/g00450/laws.FnExactMeasured", spec := "fnExactMeasured", apart := false }
def FnExactMeasuredSaid : Prop := fnExactMeasuredRow.holds Try.pinned (OpenSpec.ofChange fnExactMeasuredSpec)

/-- ITS FALSE NEIGHBOUR: 'it returns false'. Refute it at one input. -/
def fnExactMeasuredWrong : ChangeSpec := { name := "fnExactMeasured", fn := fun _ => fun
  | [d1, d2] => { results := [.lit (.bool false)], args := [d1, d2] }
  | _ => none }
def FnExactMeasuredWrongFalsely : Prop := fnExactMeasuredRow.holds Try.pinned (OpenSpec.ofChange fnExactMeasuredWrong)

/-- 'laws.FnExactLonger': WHATEVER THE INPUT: true; the input reads as it did. -/
def fnExactLongerSpec : ChangeSpec := { name := "fnExactLonger", fn := fun _ => fun
  | [d] => { results := [.lit (.bool true)], args := [d] }
  | _ => none }
def fnExactLongerRow : OpenClaim := { program := "ytbmfnkdcbdkcdaa", sum := "21fd34ba6ccce4080645b18553e1e645cb4254211df339ef87f7c67142c03145", func := "loop.example/g00450/laws.FnExactLonger", spec := "fnExactLonger", apart := false }
def FnExactLongerSaid : Prop := fnExactLongerRow.holds Try.pinned (OpenSpec.ofChange fnExactLongerSpec)

/-- ITS FALSE NEIGHBOUR: 'it returns false'. Refute it at one input. -/
def fnExactLongerWrong : ChangeSpec := { name := "fnExactLonger", fn := fun _ => fun
  | [d] => { results := [.lit (.bool false)], args := [d] }
  | _ => none }
def FnExactLongerWrongFalsely : Prop := fnExactLongerRow.holds Try.pinned (OpenSpec.ofChange fnExactLongerWrong)

/- THE SECOND FORM. 'bulk': how many values and letters a reading holds, each counted each time it is reached (what is shared counts as often as it is met; a slice's spare places count too). A statement '..UptoSaid' is the law's where the arguments, and the package variables that the reading takes, are together of bulk at most 1048576: NARROWER than '..Said'. Prove '..Said' where nothing that the law and all that it calls make is longer than what came in: it says more and counts as full. Else prove '..UptoSaid'. A law counts once. -/
mutual
def uptoBulk {H : Type} : DataW H → Nat
  | .lit (.string bytes) => bytes.length + 1
  | .lit _ => 1
  | .nil => 1
  | .ptr d => uptoBulk d + 1
  | .slice elems spare => uptoBulkAll elems + uptoBulkAll spare + 1
  | .agg parts => uptoBulkAll parts + 1
  | .iface _ d => uptoBulk d + 1
  | .map entries => uptoBulkEntries entries + 1
  | .held _ => 1
def uptoBulkAll {H : Type} : List (DataW H) → Nat
  | [] => 0
  | d :: r => uptoBulk d + uptoBulkAll r
def uptoBulkEntries {H : Type} : List (Lit × DataW H) → Nat
  | [] => 0
  | x :: r => uptoBulkEntry x + uptoBulkEntries r
def uptoBulkEntry {H : Type} : Lit × DataW H → Nat
  | (.string bytes, d) => bytes.length + uptoBulk d + 1
  | (_, d) => uptoBulk d + 1
 end
def uptoSmall : (H : Type) → List (DataW H) → Bool := fun _ ds => decide (uptoBulkAll ds ≤ 1048576)
def OpenSpec.upto (s : _root_.Go.ChangeSpec) : _root_.Go.OpenSpec := { _root_.Go.OpenSpec.ofChange s with cond := some uptoSmall }

/-- 'laws.FnPaces', WHERE WHAT IT READS IS OF BULK AT MOST 1048576: true; the input reads as it did. -/
def fnPacesUptoRow : OpenClaim := { program := "ytbmfnkdcbdkcdaa", sum := "21fd34ba6ccce4080645b18553e1e645cb4254211df339ef87f7c67142c03145", func := "loop.example/g00450/laws.FnPaces", spec := "fnPaces", apart := false, narrowed := true }
def FnPacesUptoSaid : Prop := fnPacesUptoRow.holds Try.pinned (OpenSpec.upto fnPacesSpec)

/-- 'laws.FnSteady', WHERE WHAT IT READS IS OF BULK AT MOST 1048576: true; the input reads as it did. -/
def fnSteadyUptoRow : OpenClaim := { program := "ytbmfnkdcbdkcdaa", sum := "21fd34ba6ccce4080645b18553e1e645cb4254211df339ef87f7c67142c03145", func := "loop.example/g00450/laws.FnSteady", spec := "fnSteady", apart := false, narrowed := true }
def FnSteadyUptoSaid : Prop := fnSteadyUptoRow.holds Try.pinned (OpenSpec.upto fnSteadySpec)

/-- 'laws.FnExactPaceOk', WHERE WHAT IT READS IS OF BULK AT MOST 1048576: true; the input reads as it did. -/
def fnExactPaceOkUptoRow : OpenClaim := { program := "ytbmfnkdcbdkcdaa", sum := "21fd34ba6ccce4080645b18553e1e645cb4254211df339ef87f7c67142c03145", func := "loop.example/g00450/laws.FnExactPaceOk", spec := "fnExactPaceOk", apart := false, narrowed := true }
def FnExactPaceOkUptoSaid : Prop := fnExactPaceOkUptoRow.holds Try.pinned (OpenSpec.upto fnExactPaceOkSpec)

/-- 'laws.FnExactNewPace', WHERE WHAT IT READS IS OF BULK AT MOST 1048576: true; the input reads as it did. -/
def fnExactNewPaceUptoRow : OpenClaim := { program := "ytbmfnkdcbdkcdaa", sum := "21fd34ba6ccce4080645b18553e1e645cb4254211df339ef87f7c67142c03145", func := "loop.example/g00450/laws.FnExactNewPace", spec := "fnExactNewPace", apart := false, narrowed := true }
def FnExactNewPaceUptoSaid : Prop := fnExactNewPaceUptoRow.holds Try.pinned (OpenSpec.upto fnExactNewPaceSpec)

/-- 'laws.FnExactMeasured', WHERE WHAT IT READS IS OF BULK AT MOST 1048576: true; the input reads as it did. -/
def fnExactMeasuredUptoRow : OpenClaim := { program := "ytbmfnkdcbdkcdaa", sum := "21fd34ba6ccce4080645b18553e1e645cb4254211df339ef87f7c67142c03145", func := "loop.example/g00450/laws.FnExactMeasured", spec := "fnExactMeasured", apart := false, narrowed := true }
def FnExactMeasuredUptoSaid : Prop := fnExactMeasuredUptoRow.holds Try.pinned (OpenSpec.upto fnExactMeasuredSpec)

/-- 'laws.FnExactLonger', WHERE WHAT IT READS IS OF BULK AT MOST 1048576: true; the input reads as it did. -/
def fnExactLongerUptoRow : OpenClaim := { program := "ytbmfnkdcbdkcdaa", sum := "21fd34ba6ccce4080645b18553e1e645cb4254211df339ef87f7c67142c03145", func := "loop.example/g00450/laws.FnExactLonger", spec := "fnExactLonger", apart := false, narrowed := true }
def FnExactLongerUptoSaid : Prop := fnExactLongerUptoRow.holds Try.pinned (OpenSpec.upto fnExactLongerSpec)

end Rows
end Go.Proofs.Ytbmfnkdcbdkcdaa
