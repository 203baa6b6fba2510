/-
  NARROWER THAN 'FOR EVERY INPUT', by the rows' own cells (each row's printed sentence says how): FnStreams: ifaces, laid · FnExactGrew: ifaces, laid · FnExactWasRead: ifaces, laid · FnExactEnded: ifaces, laid · FnExactTellEnd: ifaces, laid.
  DERIVED. THE GIVEN ROWS OF THIS SEAT. 5 by the template 'for every input the law returns true; each argument reads behind the call as it read before'; 0 by the template 'total and deterministic' (their statements: YtddicibpfmjgfaaDoorTotals.lean).
  GIVEN WITH THE SEED: the statements are not yours to turn. If you find one false, say at which input.
  Laid BY PROGRAM, IN A SANDBOX (cutbox-rows.mjs): the forced cells as the released guide's own fill.sh prints them over the translation 1b838d214522c6fc… (all of the seat's roots in one cut). By AI agents, Wed Nov 11 2026. No macro, syntax, notation, axiom, sorry.
-/
import Derived.Test.YtddicibpfmjgfaaDoorChecked
import GoSem.Claim
import GoSem.ClaimJoined
import GoSem.ClaimMapViews
import Derived.JoinedTies
import Derived.KernelRfl
namespace Go.Proofs.YtddicibpfmjgfaaDoor
/- THE CELL 'sum', in the pinned program and in every row, IS THE sha256 OF THE DUMP (.gsa) THAT YtddicibpfmjgfaaDoorProg.lean LOADS. Nothing in Lean hashes anything: it is a label: what it is worth is what the hold of that sum in a sandbox is worth. -/
noncomputable def Tryd.pinned : Pinned := { name := "ytddicibpfmjgfaadoor", sum := "1b838d214522c6fc66df8b3c7acbdf49f551fcb82acedad4f8762e7fde7d185d", checked := Tryd.checked }
namespace Rows
def none {H : Type} : Left H := { results := [], args := [] }

/- WHAT THE LISTED PACKAGE-LEVEL VARIABLES READ AS WHEN THE CALL BEGINS. Each datum BY PROGRAM (the guide's laid-datum.mjs) off the statement by which the dump's own 'gosem.cut.vars' lays the variable. In a bare row this is a premise. The card (YtddicibpfmjgfaaDoorCards.lean) ties it to the program's text. -/
def laid_errors_errorType {H : Type} : DataW H := .iface "internal/reflectlite.rtype" (.agg [.ptr (.lit (.string [101, 114, 114, 111, 114]))])
def laid_loop_example_g00450_impl_errWrongStream {H : Type} : DataW H := .iface "*errors.errorString" (.ptr (.agg [.lit (.string [116, 104, 101, 32, 115, 116, 114, 101, 97, 109, 32, 105, 115, 32, 110, 111, 116, 32, 114, 105, 103, 104, 116])]))
def laid_loop_example_g00450_impl_errEnded {H : Type} : DataW H := .iface "*errors.errorString" (.ptr (.agg [.lit (.string [105, 116, 32, 105, 115, 32, 101, 110, 100, 101, 100, 32, 97, 108, 114, 101, 97, 100, 121])]))
def laid_loop_example_g00450_impl_errTooLong {H : Type} : DataW H := .iface "*errors.errorString" (.ptr (.agg [.lit (.string [116, 104, 101, 114, 101, 32, 105, 115, 32, 110, 111, 32, 114, 111, 111, 109, 32, 102, 111, 114, 32, 105, 116])]))
def laid_loop_example_g00450_impl_errOtherBytes {H : Type} : DataW H := .iface "*errors.errorString" (.ptr (.agg [.lit (.string [111, 116, 104, 101, 114, 32, 98, 121, 116, 101, 115, 32, 115, 116, 97, 110, 100, 32, 116, 104, 101, 114, 101])]))
def laid_loop_example_g00450_impl_errToldAlready {H : Type} : DataW H := .iface "*errors.errorString" (.ptr (.agg [.lit (.string [105, 116, 32, 119, 97, 115, 32, 116, 111, 108, 100, 32, 97, 108, 114, 101, 97, 100, 121])]))
def laid_loop_example_g00450_impl_errTooSoon {H : Type} : DataW H := .iface "*errors.errorString" (.ptr (.agg [.lit (.string [116, 104, 97, 116, 32, 109, 97, 121, 32, 110, 111, 116, 32, 98, 101, 32, 116, 111, 108, 100, 32, 121, 101, 116])]))

/-- 'laws.FnStreams': WHATEVER THE INPUT: true; the input reads as it did. -/
def fnStreamsSpec : ChangeSpec := { name := "fnStreams", vars := ["loop.example/g00450/impl.errWrongStream", "loop.example/g00450/impl.errOtherBytes", "loop.example/g00450/impl.errEnded", "loop.example/g00450/impl.errTooLong", "loop.example/g00450/impl.errToldAlready", "loop.example/g00450/impl.errTooSoon"], fn := fun _ => fun
  | [d, g1, g2, g3, g4, g5, g6] => { results := [.lit (.bool true)], args := [d], vars := [g1, g2, g3, g4, g5, g6] }
  | _ => none }
def fnStreamsRow : OpenClaim := { program := "ytddicibpfmjgfaadoor", sum := "1b838d214522c6fc66df8b3c7acbdf49f551fcb82acedad4f8762e7fde7d185d", func := "loop.example/g00450/laws.FnStreams", spec := "fnStreams", inPlace := ["internal/reflectlite.ValueOf", "(internal/reflectlite.Value).Type", "(internal/reflectlite.Value).IsNil", "internal/reflectlite.TypeOf", "(internal/reflectlite.Value).Elem", "(internal/reflectlite.Value).Set"], unfollowed := true, recurses := true, named := ["loop.example/g00450/impl.errWrongStream", "loop.example/g00450/impl.errOtherBytes", "errors.errorType", "loop.example/g00450/impl.errEnded", "loop.example/g00450/impl.errTooLong", "loop.example/g00450/impl.errToldAlready", "loop.example/g00450/impl.errTooSoon"], ifaces := true, apart := false, laid := [("errors.errorType", laid_errors_errorType), ("loop.example/g00450/impl.errWrongStream", laid_loop_example_g00450_impl_errWrongStream), ("loop.example/g00450/impl.errEnded", laid_loop_example_g00450_impl_errEnded), ("loop.example/g00450/impl.errTooLong", laid_loop_example_g00450_impl_errTooLong), ("loop.example/g00450/impl.errOtherBytes", laid_loop_example_g00450_impl_errOtherBytes), ("loop.example/g00450/impl.errToldAlready", laid_loop_example_g00450_impl_errToldAlready), ("loop.example/g00450/impl.errTooSoon", laid_loop_example_g00450_impl_errTooSoon)] }
def FnStreamsSaid : Prop := fnStreamsRow.holds Tryd.pinned (OpenSpec.ofChange fnStreamsSpec)

/-- ITS FALSE NEIGHBOUR: 'it returns false'. Refute it at one input. -/
def fnStreamsWrong : ChangeSpec := { name := "fnStreams", vars := ["loop.example/g00450/impl.errWrongStream", "loop.example/g00450/impl.errOtherBytes", "loop.example/g00450/impl.errEnded", "loop.example/g00450/impl.errTooLong", "loop.example/g00450/impl.errToldAlready", "loop.example/g00450/impl.errTooSoon"], fn := fun _ => fun
  | [d, g1, g2, g3, g4, g5, g6] => { results := [.lit (.bool false)], args := [d], vars := [g1, g2, g3, g4, g5, g6] }
  | _ => none }
def FnStreamsWrongFalsely : Prop := fnStreamsRow.holds Tryd.pinned (OpenSpec.ofChange fnStreamsWrong)

/-- 'laws.FnExactGrew': WHATEVER THE INPUT: true; the input reads as it did. -/
def fnExactGrewSpec : ChangeSpec := { name := "fnExactGrew", vars := ["loop.example/g00450/impl.errWrongStream", "loop.example/g00450/impl.errEnded", "loop.example/g00450/impl.errTooLong"], fn := fun _ => fun
  | [d1, d2, g1, g2, g3] => { results := [.lit (.bool true)], args := [d1, d2], vars := [g1, g2, g3] }
  | _ => none }
def fnExactGrewRow : OpenClaim := { program := "ytddicibpfmjgfaadoor", sum := "1b838d214522c6fc66df8b3c7acbdf49f551fcb82acedad4f8762e7fde7d185d", func := "loop.example/g00450/laws.FnExactGrew", spec := "fnExactGrew", inPlace := ["internal/reflectlite.ValueOf", "(internal/reflectlite.Value).Type", "(internal/reflectlite.Value).IsNil", "internal/reflectlite.TypeOf", "(internal/reflectlite.Value).Elem", "(internal/reflectlite.Value).Set"], unfollowed := true, recurses := true, named := ["loop.example/g00450/impl.errWrongStream", "loop.example/g00450/impl.errEnded", "loop.example/g00450/impl.errTooLong", "errors.errorType"], ifaces := true, apart := false, laid := [("errors.errorType", laid_errors_errorType), ("loop.example/g00450/impl.errWrongStream", laid_loop_example_g00450_impl_errWrongStream), ("loop.example/g00450/impl.errEnded", laid_loop_example_g00450_impl_errEnded), ("loop.example/g00450/impl.errTooLong", laid_loop_example_g00450_impl_errTooLong)] }
def FnExactGrewSaid : Prop := fnExactGrewRow.holds Tryd.pinned (OpenSpec.ofChange fnExactGrewSpec)

/-- ITS FALSE NEIGHBOUR: 'it returns false'. Refute it at one input. -/
def fnExactGrewWrong : ChangeSpec := { name := "fnExactGrew", vars := ["loop.example/g00450/impl.errWrongStream", "loop.example/g00450/impl.errEnded", "loop.example/g00450/impl.errTooLong"], fn := fun _ => fun
  | [d1, d2, g1, g2, g3] => { results := [.lit (.bool false)], args := [d1, d2], vars := [g1, g2, g3] }
  | _ => none }
def FnExactGrewWrongFalsely : Prop := fnExactGrewRow.holds Tryd.pinned (OpenSpec.ofChange fnExactGrewWrong)

/-- 'laws.FnExactWasRead': WHATEVER THE INPUT: true; the input reads as it did. -/
def fnExactWasReadSpec : ChangeSpec := { name := "fnExactWasRead", vars := ["loop.example/g00450/impl.errWrongStream", "loop.example/g00450/impl.errOtherBytes"], fn := fun _ => fun
  | [d1, d2, g1, g2] => { results := [.lit (.bool true)], args := [d1, d2], vars := [g1, g2] }
  | _ => none }
def fnExactWasReadRow : OpenClaim := { program := "ytddicibpfmjgfaadoor", sum := "1b838d214522c6fc66df8b3c7acbdf49f551fcb82acedad4f8762e7fde7d185d", func := "loop.example/g00450/laws.FnExactWasRead", spec := "fnExactWasRead", inPlace := ["internal/reflectlite.ValueOf", "(internal/reflectlite.Value).Type", "(internal/reflectlite.Value).IsNil", "internal/reflectlite.TypeOf", "(internal/reflectlite.Value).Elem", "(internal/reflectlite.Value).Set"], unfollowed := true, recurses := true, named := ["loop.example/g00450/impl.errWrongStream", "loop.example/g00450/impl.errOtherBytes", "errors.errorType"], ifaces := true, apart := false, laid := [("errors.errorType", laid_errors_errorType), ("loop.example/g00450/impl.errWrongStream", laid_loop_example_g00450_impl_errWrongStream), ("loop.example/g00450/impl.errOtherBytes", laid_loop_example_g00450_impl_errOtherBytes)] }
def FnExactWasReadSaid : Prop := fnExactWasReadRow.holds Tryd.pinned (OpenSpec.ofChange fnExactWasReadSpec)

/-- ITS FALSE NEIGHBOUR: 'it returns false'. Refute it at one input. -/
def fnExactWasReadWrong : ChangeSpec := { name := "fnExactWasRead", vars := ["loop.example/g00450/impl.errWrongStream", "loop.example/g00450/impl.errOtherBytes"], fn := fun _ => fun
  | [d1, d2, g1, g2] => { results := [.lit (.bool false)], args := [d1, d2], vars := [g1, g2] }
  | _ => none }
def FnExactWasReadWrongFalsely : Prop := fnExactWasReadRow.holds Tryd.pinned (OpenSpec.ofChange fnExactWasReadWrong)

/-- 'laws.FnExactEnded': WHATEVER THE INPUT: true; the input reads as it did. -/
def fnExactEndedSpec : ChangeSpec := { name := "fnExactEnded", vars := ["loop.example/g00450/impl.errWrongStream", "loop.example/g00450/impl.errEnded"], fn := fun _ => fun
  | [d, g1, g2] => { results := [.lit (.bool true)], args := [d], vars := [g1, g2] }
  | _ => none }
def fnExactEndedRow : OpenClaim := { program := "ytddicibpfmjgfaadoor", sum := "1b838d214522c6fc66df8b3c7acbdf49f551fcb82acedad4f8762e7fde7d185d", func := "loop.example/g00450/laws.FnExactEnded", spec := "fnExactEnded", inPlace := ["internal/reflectlite.ValueOf", "(internal/reflectlite.Value).Type", "(internal/reflectlite.Value).IsNil", "internal/reflectlite.TypeOf", "(internal/reflectlite.Value).Elem", "(internal/reflectlite.Value).Set"], unfollowed := true, recurses := true, named := ["loop.example/g00450/impl.errWrongStream", "loop.example/g00450/impl.errEnded", "errors.errorType"], ifaces := true, apart := false, laid := [("errors.errorType", laid_errors_errorType), ("loop.example/g00450/impl.errWrongStream", laid_loop_example_g00450_impl_errWrongStream), ("loop.example/g00450/impl.errEnded", laid_loop_example_g00450_impl_errEnded)] }
def FnExactEndedSaid : Prop := fnExactEndedRow.holds Tryd.pinned (OpenSpec.ofChange fnExactEndedSpec)

/-- ITS FALSE NEIGHBOUR: 'it returns false'. Refute it at one input. -/
def fnExactEndedWrong : ChangeSpec := { name := "fnExactEnded", vars := ["loop.example/g00450/impl.errWrongStream", "loop.example/g00450/impl.errEnded"], fn := fun _ => fun
  | [d, g1, g2] => { results := [.lit (.bool false)], args := [d], vars := [g1, g2] }
  | _ => none }
def FnExactEndedWrongFalsely : Prop := fnExactEndedRow.holds Tryd.pinned (OpenSpec.ofChange fnExactEndedWrong)

/-- 'laws.FnExactTellEnd': WHATEVER THE INPUT: true; the input reads as it did. -/
def fnExactTellEndSpec : ChangeSpec := { name := "fnExactTellEnd", vars := ["loop.example/g00450/impl.errWrongStream", "loop.example/g00450/impl.errToldAlready", "loop.example/g00450/impl.errTooSoon"], fn := fun _ => fun
  | [d1, d2, g1, g2, g3] => { results := [.lit (.bool true)], args := [d1, d2], vars := [g1, g2, g3] }
  | _ => none }
def fnExactTellEndRow : OpenClaim := { program := "ytddicibpfmjgfaadoor", sum := "1b838d214522c6fc66df8b3c7acbdf49f551fcb82acedad4f8762e7fde7d185d", func := "loop.example/g00450/laws.FnExactTellEnd", spec := "fnExactTellEnd", inPlace := ["internal/reflectlite.ValueOf", "(internal/reflectlite.Value).Type", "(internal/reflectlite.Value).IsNil", "internal/reflectlite.TypeOf", "(internal/reflectlite.Value).Elem", "(internal/reflectlite.Value).Set"], unfollowed := true, recurses := true, named := ["loop.example/g00450/impl.errWrongStream", "loop.example/g00450/impl.errToldAlready", "loop.example/g00450/impl.errTooSoon", "errors.errorType"], ifaces := true, apart := false, laid := [("errors.errorType", laid_errors_errorType), ("loop.example/g00450/impl.errWrongStream", laid_loop_example_g00450_impl_errWrongStream), ("loop.example/g00450/impl.errToldAlready", laid_loop_example_g00450_impl_errToldAlready), ("loop.example/g00450/impl.errTooSoon", laid_loop_example_g00450_impl_errTooSoon)] }
def FnExactTellEndSaid : Prop := fnExactTellEndRow.holds Tryd.pinned (OpenSpec.ofChange fnExactTellEndSpec)

/-- ITS FALSE NEIGHBOUR: 'it returns false'. Refute it at one input. -/
def fnExactTellEndWrong : ChangeSpec := { name := "fnExactTellEnd", vars := ["loop.example/g00450/impl.errWrongStream", "loop.example/g00450/impl.errToldAlready", "loop.example/g00450/impl.errTooSoon"], fn := fun _ => fun
  | [d1, d2, g1, g2, g3] => { results := [.lit (.bool false)], args := [d1, d2], vars := [g1, g2, g3] }
  | _ => none }
def FnExactTellEndWrongFalsely : Prop := fnExactTellEndRow.holds Tryd.pinned (OpenSpec.ofChange fnExactTellEndWrong)

/- THE SECOND FORM. 'bulk': how many values and letters a reading holds, each counted each time it is reached (what is shared counts as often as it is met; a slice's spare places count too). A statement '..UptoSaid' is the law's where the arguments, and the package variables that the reading takes, are together of bulk at most 1048576: NARROWER than '..Said'. Prove '..Said' where nothing that the law and all that it calls make is longer than what came in: it says more and counts as full. Else prove '..UptoSaid'. A law counts once. -/
mutual
def uptoBulk {H : Type} : DataW H → Nat
  | .lit (.string bytes) => bytes.length + 1
  | .lit _ => 1
  | .nil => 1
  | .ptr d => uptoBulk d + 1
  | .slice elems spare => uptoBulkAll elems + uptoBulkAll spare + 1
  | .agg parts => uptoBulkAll parts + 1
  | .iface _ d => uptoBulk d + 1
  | .map entries => uptoBulkEntries entries + 1
  | .held _ => 1
def uptoBulkAll {H : Type} : List (DataW H) → Nat
  | [] => 0
  | d :: r => uptoBulk d + uptoBulkAll r
def uptoBulkEntries {H : Type} : List (Lit × DataW H) → Nat
  | [] => 0
  | x :: r => uptoBulkEntry x + uptoBulkEntries r
def uptoBulkEntry {H : Type} : Lit × DataW H → Nat
  | (.string bytes, d) => bytes.length + uptoBulk d + 1
  | (_, d) => uptoBulk d + 1
 end
def uptoSmall : (H : Type) → List (DataW H) → Bool := fun _ ds => decide (uptoBulkAll ds ≤ 1048576)
def OpenSpec.upto (s : _root_.Go.ChangeSpec) : _root_.Go.OpenSpec := { _root_.Go.OpenSpec.ofChange s with cond := some uptoSmall }

/-- 'laws.FnStreams', WHERE WHAT IT READS IS OF BULK AT MOST 1048576: true; the input reads as it did. -/
def fnStreamsUptoRow : OpenClaim := { program := "ytddicibpfmjgfaadoor", sum := "1b838d214522c6fc66df8b3c7acbdf49f551fcb82acedad4f8762e7fde7d185d", func := "loop.example/g00450/laws.FnStreams", spec := "fnStreams", inPlace := ["internal/reflectlite.ValueOf", "(internal/reflectlite.Value).Type", "(internal/reflectlite.Value).IsNil", "internal/reflectlite.TypeOf", "(internal/reflectlite.Value).Elem", "(internal/reflectlite.Value).Set"], unfollowed := true, recurses := true, named := ["loop.example/g00450/impl.errWrongStream", "loop.example/g00450/impl.errOtherBytes", "errors.errorType", "loop.example/g00450/impl.errEnded", "loop.example/g00450/impl.errTooLong", "loop.example/g00450/impl.errToldAlready", "loop.example/g00450/impl.errTooSoon"], ifaces := true, apart := false, laid := [("errors.errorType", laid_errors_errorType), ("loop.example/g00450/impl.errWrongStream", laid_loop_example_g00450_impl_errWrongStream), ("loop.example/g00450/impl.errEnded", laid_loop_example_g00450_impl_errEnded), ("loop.example/g00450/impl.errTooLong", laid_loop_example_g00450_impl_errTooLong), ("loop.example/g00450/impl.errOtherBytes", laid_loop_example_g00450_impl_errOtherBytes), ("loop.example/g00450/impl.errToldAlready", laid_loop_example_g00450_impl_errToldAlready), ("loop.example/g00450/impl.errTooSoon", laid_loop_example_g00450_impl_errTooSoon)], narrowed := true }
def FnStreamsUptoSaid : Prop := fnStreamsUptoRow.holds Tryd.pinned (OpenSpec.upto fnStreamsSpec)

/-- 'laws.FnExactGrew', WHERE WHAT IT READS IS OF BULK AT MOST 1048576: true; the input reads as it did. -/
def fnExactGrewUptoRow : OpenClaim := { program := "ytddicibpfmjgfaadoor", sum := "1b838d214522c6fc66df8b3c7acbdf49f551fcb82acedad4f8762e7fde7d185d", func := "loop.example/g00450/laws.FnExactGrew", spec := "fnExactGrew", inPlace := ["internal/reflectlite.ValueOf", "(internal/reflectlite.Value).Type", "(internal/reflectlite.Value).IsNil", "internal/reflectlite.TypeOf", "(internal/reflectlite.Value).Elem", "(internal/reflectlite.Value).Set"], unfollowed := true, recurses := true, named := ["loop.example/g00450/impl.errWrongStream", "loop.example/g00450/impl.errEnded", "loop.example/g00450/impl.errTooLong", "errors.errorType"], ifaces := true, apart := false, laid := [("errors.errorType", laid_errors_errorType), ("loop.example/g00450/impl.errWrongStream", laid_loop_example_g00450_impl_errWrongStream), ("loop.example/g00450/impl.errEnded", laid_loop_example_g00450_impl_errEnded), ("loop.example/g00450/impl.errTooLong", laid_loop_example_g00450_impl_errTooLong)], narrowed := true }
def FnExactGrewUptoSaid : Prop := fnExactGrewUptoRow.holds Tryd.pinned (OpenSpec.upto fnExactGrewSpec)

/-- 'laws.FnExactWasRead', WHERE WHAT IT READS IS OF BULK AT MOST 1048576: true; the input reads as it did. -/
def fnExactWasReadUptoRow : OpenClaim := { program := "ytddicibpfmjgfaadoor", sum := "1b838d214522c6fc66df8b3c7acbdf49f551fcb82acedad4f8762e7fde7d185d", func := "loop.example/g00450/laws.FnExactWasRead", spec := "fnExactWasRead", inPlace := ["internal/reflectlite.ValueOf", "(internal/reflectlite.Value).Type", "(internal/reflectlite.Value).IsNil", "internal/reflectlite.TypeOf", "(internal/reflectlite.Value).Elem", "(internal/reflectlite.Value).Set"], unfollowed := true, recurses := true, named := ["loop.example/g00450/impl.errWrongStream", "loop.example/g00450/impl.errOtherBytes", "errors.errorType"], ifaces := true, apart := false, laid := [("errors.errorType", laid_errors_errorType), ("loop.example/g00450/impl.errWrongStream", laid_loop_example_g00450_impl_errWrongStream), ("loop.example/g00450/impl.errOtherBytes", laid_loop_example_g00450_impl_errOtherBytes)], narrowed := true }
def FnExactWasReadUptoSaid : Prop := fnExactWasReadUptoRow.holds Tryd.pinned (OpenSpec.upto fnExactWasReadSpec)

/-- 'laws.FnExactEnded', WHERE WHAT IT READS IS OF BULK AT MOST 1048576: true; the input reads as it did. -/
def fnExactEndedUptoRow : OpenClaim := { program := "ytddicibpfmjgfaadoor", sum := "1b838d214522c6fc66df8b3c7acbdf49f551fcb82acedad4f8762e7fde7d185d", func := "loop.example/g00450/laws.FnExactEnded", spec := "fnExactEnded", inPlace := ["internal/reflectlite.ValueOf", "(internal/reflectlite.Value).Type", "(internal/reflectlite.Value).IsNil", "internal/reflectlite.TypeOf", "(internal/reflectlite.Value).Elem", "(internal/reflectlite.Value).Set"], unfollowed := true, recurses := true, named := ["loop.example/g00450/impl.errWrongStream", "loop.example/g00450/impl.errEnded", "errors.errorType"], ifaces := true, apart := false, laid := [("errors.errorType", laid_errors_errorType), ("loop.example/g00450/impl.errWrongStream", laid_loop_example_g00450_impl_errWrongStream), ("loop.example/g00450/impl.errEnded", laid_loop_example_g00450_impl_errEnded)], narrowed := true }
def FnExactEndedUptoSaid : Prop := fnExactEndedUptoRow.holds Tryd.pinned (OpenSpec.upto fnExactEndedSpec)

/-- 'laws.FnExactTellEnd', WHERE WHAT IT READS IS OF BULK AT MOST 1048576: true; the input reads as it did. -/
def fnExactTellEndUptoRow : OpenClaim := { program := "ytddicibpfmjgfaadoor", sum := "1b838d214522c6fc66df8b3c7acbdf49f551fcb82acedad4f8762e7fde7d185d", func := "loop.example/g00450/laws.FnExactTellEnd", spec := "fnExactTellEnd", inPlace := ["internal/reflectlite.ValueOf", "(internal/reflectlite.Value).Type", "(internal/reflectlite.Value).IsNil", "internal/reflectlite.TypeOf", "(internal/reflectlite.Value).Elem", "(internal/reflectlite.Value).Set"], unfollowed := true, recurses := true, named := ["loop.example/g00450/impl.errWrongStream", "loop.example/g00450/impl.errToldAlready", "loop.example/g00450/impl.errTooSoon", "errors.errorType"], ifaces := true, apart := false, laid := [("errors.errorType", laid_errors_errorType), ("loop.example/g00450/impl.errWrongStream", laid_loop_example_g00450_impl_errWrongStream), ("loop.example/g00450/impl.errToldAlready", laid_loop_example_g00450_impl_errToldAlready), ("loop.example/g00450/impl.errTooSoon", laid_loop_example_g00450_impl_errTooSoon)], narrowed := true }
def FnExactTellEndUptoSaid : Prop := fnExactTellEndUptoRow.holds Tryd.pinned (OpenSpec.upto fnExactTellEndSpec)

end Rows
end Go.Proofs.YtddicibpfmjgfaaDoor
