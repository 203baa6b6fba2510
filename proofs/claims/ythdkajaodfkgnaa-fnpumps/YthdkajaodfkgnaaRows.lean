/-
  No cell of these rows narrows 'for every input' (looked for: loops, veiled, ifaces, maps, wideKeys, modest, calm, conditions, laid).
  DERIVED. THE GIVEN ROWS OF THIS SEAT. 3 by the template 'for every input the law returns true; each argument reads behind the call as it read before'; 0 by the template 'total and deterministic' (their statements: YthdkajaodfkgnaaTotals.lean).
  GIVEN WITH THE SEED: the statements are not yours to turn. If you find one false, say at which input.
  Laid BY PROGRAM, IN A SANDBOX (cutbox-rows.mjs): the forced cells as the released guide's own fill.sh prints them over the translation 35e8c56943f9e42f… (all of the seat's roots in one cut). By AI agents, Wed Nov 11 2026. No macro, syntax, notation, axiom, sorry.
-/
import Derived.Test.YthdkajaodfkgnaaChecked
import GoSem.Claim
import GoSem.ClaimJoined
import GoSem.ClaimMapViews
import Derived.JoinedTies
import Derived.KernelRfl
namespace Go.Proofs.Ythdkajaodfkgnaa
/- THE CELL 'sum', in the pinned program and in every row, IS THE sha256 OF THE DUMP (.gsa) THAT YthdkajaodfkgnaaProg.lean LOADS. Nothing in Lean hashes anything: it is a label: what it is worth is what the hold of that sum in a sandbox is worth. -/
noncomputable def Try.pinned : Pinned := { name := "ythdkajaodfkgnaa", sum := "35e8c56943f9e42f88a2d311fc7511c71e0e191e0169a94d1c5594c4d80c1fb8", checked := Try.checked }
namespace Rows
def none {H : Type} : Left H := { results := [], args := [] }

/-- 'laws.FnPumps': WHATEVER THE INPUT: true; the input reads as it did. -/
def fnPumpsSpec : ChangeSpec := { name := "fnPumps", fn := fun _ => fun
  | [d] => { results := [.lit (.bool true)], args := [d] }
  | _ => none }
def fnPumpsRow : OpenClaim := { program := "ythdkajaodfkgnaa", sum := "35e8c56943f9e42f88a2d311fc7511c71e0e191e0169a94d1c5594c4d80c1fb8", func := "loop.example/g00450/laws.FnPumps", spec := "fnPumps", unfollowed := true, recurses := true, apart := false }
def FnPumpsSaid : Prop := fnPumpsRow.holds Try.pinned (OpenSpec.ofChange fnPumpsSpec)

/-- ITS FALSE NEIGHBOUR: 'it returns false'. Refute it at one input. -/
def fnPumpsWrong : ChangeSpec := { name := "fnPumps", fn := fun _ => fun
  | [d] => { results := [.lit (.bool false)], args := [d] }
  | _ => none }
def FnPumpsWrongFalsely : Prop := fnPumpsRow.holds Try.pinned (OpenSpec.ofChange fnPumpsWrong)

/-- 'laws.FnExactPumps': WHATEVER THE INPUT: true; the input reads as it did. -/
def fnExactPumpsSpec : ChangeSpec := { name := "fnExactPumps", fn := fun _ => fun
  | [d1, d2, d3] => { results := [.lit (.bool true)], args := [d1, d2, d3] }
  | _ => none }
def fnExactPumpsRow : OpenClaim := { program := "ythdkajaodfkgnaa", sum := "35e8c56943f9e42f88a2d311fc7511c71e0e191e0169a94d1c5594c4d80c1fb8", func := "loop.example/g00450/laws.FnExactPumps", spec := "fnExactPumps", unfollowed := true, recurses := true, apart := false }
def FnExactPumpsSaid : Prop := fnExactPumpsRow.holds Try.pinned (OpenSpec.ofChange fnExactPumpsSpec)

/-- ITS FALSE NEIGHBOUR: 'it returns false'. Refute it at one input. -/
def fnExactPumpsWrong : ChangeSpec := { name := "fnExactPumps", fn := fun _ => fun
  | [d1, d2, d3] => { results := [.lit (.bool false)], args := [d1, d2, d3] }
  | _ => none }
def FnExactPumpsWrongFalsely : Prop := fnExactPumpsRow.holds Try.pinned (OpenSpec.ofChange fnExactPumpsWrong)

/-- 'laws.FnExactCanPump': WHATEVER THE INPUT: true; the input reads as it did. -/
def fnExactCanPumpSpec : ChangeSpec := { name := "fnExactCanPump", fn := fun _ => fun
  | [d1, d2] => { results := [.lit (.bool true)], args := [d1, d2] }
  | _ => none }
def fnExactCanPumpRow : OpenClaim := { program := "ythdkajaodfkgnaa", sum := "35e8c56943f9e42f88a2d311fc7511c71e0e191e0169a94d1c5594c4d80c1fb8", func := "loop.example/g00450/laws.FnExactCanPump", spec := "fnExactCanPump", unfollowed := true, recurses := true, apart := false }
def FnExactCanPumpSaid : Prop := fnExactCanPumpRow.holds Try.pinned (OpenSpec.ofChange fnExactCanPumpSpec)

/-- ITS FALSE NEIGHBOUR: 'it returns false'. Refute it at one input. -/
def fnExactCanPumpWrong : ChangeSpec := { name := "fnExactCanPump", fn := fun _ => fun
  | [d1, d2] => { results := [.lit (.bool false)], args := [d1, d2] }
  | _ => none }
def FnExactCanPumpWrongFalsely : Prop := fnExactCanPumpRow.holds Try.pinned (OpenSpec.ofChange fnExactCanPumpWrong)

/- THE SECOND FORM. 'bulk': how many values and letters a reading holds, each counted each time it is reached (what is shared counts as often as it is met; a slice's spare places count too). A statement '..UptoSaid' is the law's where the arguments, and the package variables that the reading takes, are together of bulk at most 1048576: NARROWER than '..Said'. Prove '..Said' where nothing that the law and all that it calls make is longer than what came in: it says more and counts as full. Else prove '..UptoSaid'. A law counts once. -/
mutual
def uptoBulk {H : Type} : DataW H → Nat
  | .lit (.string bytes) => bytes.length + 1
  | .lit _ => 1
  | .nil => 1
  | .ptr d => uptoBulk d + 1
  | .slice elems spare => uptoBulkAll elems + uptoBulkAll spare + 1
  | .agg parts => uptoBulkAll parts + 1
  | .iface _ d => uptoBulk d + 1
  | .map entries => uptoBulkEntries entries + 1
  | .held _ => 1
def uptoBulkAll {H : Type} : List (DataW H) → Nat
  | [] => 0
  | d :: r => uptoBulk d + uptoBulkAll r
def uptoBulkEntries {H : Type} : List (Lit × DataW H) → Nat
  | [] => 0
  | x :: r => uptoBulkEntry x + uptoBulkEntries r
def uptoBulkEntry {H : Type} : Lit × DataW H → Nat
  | (.string bytes, d) => bytes.length + uptoBulk d + 1
  | (_, d) => uptoBulk d + 1
 end
def uptoSmall : (H : Type) → List (DataW H) → Bool := fun _ ds => decide (uptoBulkAll ds ≤ 1048576)
def OpenSpec.upto (s : _root_.Go.ChangeSpec) : _root_.Go.OpenSpec := { _root_.Go.OpenSpec.ofChange s with cond := some uptoSmall }

/-- 'laws.FnPumps', WHERE WHAT IT READS IS OF BULK AT MOST 1048576: true; the input reads as it did. -/
def fnPumpsUptoRow : OpenClaim := { program := "ythdkajaodfkgnaa", sum := "35e8c56943f9e42f88a2d311fc7511c71e0e191e0169a94d1c5594c4d80c1fb8", func := "loop.example/g00450/laws.FnPumps", spec := "fnPumps", unfollowed := true, recurses := true, apart := false, narrowed := true }
def FnPumpsUptoSaid : Prop := fnPumpsUptoRow.holds Try.pinned (OpenSpec.upto fnPumpsSpec)

/-- 'laws.FnExactPumps', WHERE WHAT IT READS IS OF BULK AT MOST 1048576: true; the input reads as it did. -/
def fnExactPumpsUptoRow : OpenClaim := { program := "ythdkajaodfkgnaa", sum := "35e8c56943f9e42f88a2d311fc7511c71e0e191e0169a94d1c5594c4d80c1fb8", func := "loop.example/g00450/laws.FnExactPumps", spec := "fnExactPumps", unfollowed := true, recurses := true, apart := false, narrowed := true }
def FnExactPumpsUptoSaid : Prop := fnExactPumpsUptoRow.holds Try.pinned (OpenSpec.upto fnExactPumpsSpec)

/-- 'laws.FnExactCanPump', WHERE WHAT IT READS IS OF BULK AT MOST 1048576: true; the input reads as it did. -/
def fnExactCanPumpUptoRow : OpenClaim := { program := "ythdkajaodfkgnaa", sum := "35e8c56943f9e42f88a2d311fc7511c71e0e191e0169a94d1c5594c4d80c1fb8", func := "loop.example/g00450/laws.FnExactCanPump", spec := "fnExactCanPump", unfollowed := true, recurses := true, apart := false, narrowed := true }
def FnExactCanPumpUptoSaid : Prop := fnExactCanPumpUptoRow.holds Try.pinned (OpenSpec.upto fnExactCanPumpSpec)

end Rows
end Go.Proofs.Ythdkajaodfkgnaa
