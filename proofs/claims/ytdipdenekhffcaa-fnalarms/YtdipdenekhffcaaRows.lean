/-
  No cell of these rows narrows 'for every input' (looked for: loops, veiled, ifaces, maps, wideKeys, modest, calm, conditions, laid).
  DERIVED. THE GIVEN ROWS OF THIS SEAT. 5 by the template 'for every input the law returns true; each argument reads behind the call as it read before'; 0 by the template 'total and deterministic' (their statements: YtdipdenekhffcaaTotals.lean).
  GIVEN WITH THE SEED: the statements are not yours to turn. If you find one false, say at which input.
  Laid BY PROGRAM, IN A SANDBOX (cutbox-rows.mjs): the forced cells as the released guide's own fill.sh prints them over the translation 1b1983f72576ab8d… (all of the seat's roots in one cut). By AI agents, Wed Nov 11 2026. No macro, syntax, notation, axiom, sorry.
-/
import Derived.Test.YtdipdenekhffcaaChecked
import GoSem.Claim
import GoSem.ClaimJoined
import GoSem.ClaimMapViews
import Derived.JoinedTies
import Derived.KernelRfl
namespace Go.Proofs.Ytdipdenekhffcaa
/- THE CELL 'sum', in the pinned program and in every row, IS THE sha256 OF THE DUMP (.gsa) THAT YtdipdenekhffcaaProg.lean LOADS. Nothing in Lean hashes anything: it is a label: what it is worth is what the hold of that sum in a sandbox is worth. -/
noncomputable def Try.pinned : Pinned := { name := "ytdipdenekhffcaa", sum := "1b1983f72576ab8d4bdd5e7a6ec326632552844317297e0f2a69a76b8864663d", checked := Try.checked }
namespace Rows
def none {H : Type} : Left H := { results := [], args := [] }

/-- 'laws.FnAlarms': WHATEVER THE INPUT: true; the input reads as it did. -/
def fnAlarmsSpec : ChangeSpec := { name := "fnAlarms", fn := fun _ => fun
  | [d] => { results := [.lit (.bool true)], args := [d] }
  | _ => none }
def fnAlarmsRow : OpenClaim := { program := "ytdipdenekhffcaa", sum := "1b1983f72576ab8d4bdd5e7a6ec326632552844317297e0f2a69a76b8864663d", func := "loop.example/g00450/laws.FnAlarms", spec := "fnAlarms", unfollowed := true, recurses := true, apart := false }
def FnAlarmsSaid : Prop := fnAlarmsRow.holds Try.pinned (OpenSpec.ofChange fnAlarmsSpec)

/-- ITS FALSE NEIGHBOUR: 'it returns false'. Refute it at one input. -/
def fnAlarmsWrong : ChangeSpec := { name := "fnAlarms", fn := fun _ => fun
  | [d] => { results := [.lit (.bool false)], args := [d] }
  | _ => none }
def FnAlarmsWrongFalsely : Prop := fnAlarmsRow.holds Try.pinned (OpenSpec.ofChange fnAlarmsWrong)

/-- 'laws.FnExactAlarmsOk': WHATEVER THE INPUT: true; the input reads as it did. -/
def fnExactAlarmsOkSpec : ChangeSpec := { name := "fnExactAlarmsOk", fn := fun _ => fun
  | [d] => { results := [.lit (.bool true)], args := [d] }
  | _ => none }
def fnExactAlarmsOkRow : OpenClaim := { program := "ytdipdenekhffcaa", sum := "1b1983f72576ab8d4bdd5e7a6ec326632552844317297e0f2a69a76b8864663d", func := "loop.example/g00450/laws.FnExactAlarmsOk", spec := "fnExactAlarmsOk", apart := false }
def FnExactAlarmsOkSaid : Prop := fnExactAlarmsOkRow.holds Try.pinned (OpenSpec.ofChange fnExactAlarmsOkSpec)

/-- ITS FALSE NEIGHBOUR: 'it returns false'. Refute it at one input. -/
def fnExactAlarmsOkWrong : ChangeSpec := { name := "fnExactAlarmsOk", fn := fun _ => fun
  | [d] => { results := [.lit (.bool false)], args := [d] }
  | _ => none }
def FnExactAlarmsOkWrongFalsely : Prop := fnExactAlarmsOkRow.holds Try.pinned (OpenSpec.ofChange fnExactAlarmsOkWrong)

/-- 'laws.FnExactSetAlarm': WHATEVER THE INPUT: true; the input reads as it did. -/
def fnExactSetAlarmSpec : ChangeSpec := { name := "fnExactSetAlarm", fn := fun _ => fun
  | [d1, d2] => { results := [.lit (.bool true)], args := [d1, d2] }
  | _ => none }
def fnExactSetAlarmRow : OpenClaim := { program := "ytdipdenekhffcaa", sum := "1b1983f72576ab8d4bdd5e7a6ec326632552844317297e0f2a69a76b8864663d", func := "loop.example/g00450/laws.FnExactSetAlarm", spec := "fnExactSetAlarm", unfollowed := true, recurses := true, apart := false }
def FnExactSetAlarmSaid : Prop := fnExactSetAlarmRow.holds Try.pinned (OpenSpec.ofChange fnExactSetAlarmSpec)

/-- ITS FALSE NEIGHBOUR: 'it returns false'. Refute it at one input. -/
def fnExactSetAlarmWrong : ChangeSpec := { name := "fnExactSetAlarm", fn := fun _ => fun
  | [d1, d2] => { results := [.lit (.bool false)], args := [d1, d2] }
  | _ => none }
def FnExactSetAlarmWrongFalsely : Prop := fnExactSetAlarmRow.holds Try.pinned (OpenSpec.ofChange fnExactSetAlarmWrong)

/-- 'laws.FnExactStopAlarms': WHATEVER THE INPUT: true; the input reads as it did. -/
def fnExactStopAlarmsSpec : ChangeSpec := { name := "fnExactStopAlarms", fn := fun _ => fun
  | [d1, d2] => { results := [.lit (.bool true)], args := [d1, d2] }
  | _ => none }
def fnExactStopAlarmsRow : OpenClaim := { program := "ytdipdenekhffcaa", sum := "1b1983f72576ab8d4bdd5e7a6ec326632552844317297e0f2a69a76b8864663d", func := "loop.example/g00450/laws.FnExactStopAlarms", spec := "fnExactStopAlarms", unfollowed := true, recurses := true, apart := false }
def FnExactStopAlarmsSaid : Prop := fnExactStopAlarmsRow.holds Try.pinned (OpenSpec.ofChange fnExactStopAlarmsSpec)

/-- ITS FALSE NEIGHBOUR: 'it returns false'. Refute it at one input. -/
def fnExactStopAlarmsWrong : ChangeSpec := { name := "fnExactStopAlarms", fn := fun _ => fun
  | [d1, d2] => { results := [.lit (.bool false)], args := [d1, d2] }
  | _ => none }
def FnExactStopAlarmsWrongFalsely : Prop := fnExactStopAlarmsRow.holds Try.pinned (OpenSpec.ofChange fnExactStopAlarmsWrong)

/-- 'laws.FnExactRingBy': WHATEVER THE INPUT: true; the input reads as it did. -/
def fnExactRingBySpec : ChangeSpec := { name := "fnExactRingBy", fn := fun _ => fun
  | [d1, d2] => { results := [.lit (.bool true)], args := [d1, d2] }
  | _ => none }
def fnExactRingByRow : OpenClaim := { program := "ytdipdenekhffcaa", sum := "1b1983f72576ab8d4bdd5e7a6ec326632552844317297e0f2a69a76b8864663d", func := "loop.example/g00450/laws.FnExactRingBy", spec := "fnExactRingBy", unfollowed := true, recurses := true, apart := false }
def FnExactRingBySaid : Prop := fnExactRingByRow.holds Try.pinned (OpenSpec.ofChange fnExactRingBySpec)

/-- ITS FALSE NEIGHBOUR: 'it returns false'. Refute it at one input. -/
def fnExactRingByWrong : ChangeSpec := { name := "fnExactRingBy", fn := fun _ => fun
  | [d1, d2] => { results := [.lit (.bool false)], args := [d1, d2] }
  | _ => none }
def FnExactRingByWrongFalsely : Prop := fnExactRingByRow.holds Try.pinned (OpenSpec.ofChange fnExactRingByWrong)

/- THE SECOND FORM. 'bulk': how many values and letters a reading holds, each counted each time it is reached (what is shared counts as often as it is met; a slice's spare places count too). A statement '..UptoSaid' is the law's where the arguments, and the package variables that the reading takes, are together of bulk at most 1048576: NARROWER than '..Said'. Prove '..Said' where nothing that the law and all that it calls make is longer than what came in: it says more and counts as full. Else prove '..UptoSaid'. A law counts once. -/
mutual
def uptoBulk {H : Type} : DataW H → Nat
  | .lit (.string bytes) => bytes.length + 1
  | .lit _ => 1
  | .nil => 1
  | .ptr d => uptoBulk d + 1
  | .slice elems spare => uptoBulkAll elems + uptoBulkAll spare + 1
  | .agg parts => uptoBulkAll parts + 1
  | .iface _ d => uptoBulk d + 1
  | .map entries => uptoBulkEntries entries + 1
  | .held _ => 1
def uptoBulkAll {H : Type} : List (DataW H) → Nat
  | [] => 0
  | d :: r => uptoBulk d + uptoBulkAll r
def uptoBulkEntries {H : Type} : List (Lit × DataW H) → Nat
  | [] => 0
  | x :: r => uptoBulkEntry x + uptoBulkEntries r
def uptoBulkEntry {H : Type} : Lit × DataW H → Nat
  | (.string bytes, d) => bytes.length + uptoBulk d + 1
  | (_, d) => uptoBulk d + 1
 end
def uptoSmall : (H : Type) → List (DataW H) → Bool := fun _ ds => decide (uptoBulkAll ds ≤ 1048576)
def OpenSpec.upto (s : _root_.Go.ChangeSpec) : _root_.Go.OpenSpec := { _root_.Go.OpenSpec.ofChange s with cond := some uptoSmall }

/-- 'laws.FnAlarms', WHERE WHAT IT READS IS OF BULK AT MOST 1048576: true; the input reads as it did. -/
def fnAlarmsUptoRow : OpenClaim := { program := "ytdipdenekhffcaa", sum := "1b1983f72576ab8d4bdd5e7a6ec326632552844317297e0f2a69a76b8864663d", func := "loop.example/g00450/laws.FnAlarms", spec := "fnAlarms", unfollowed := true, recurses := true, apart := false, narrowed := true }
def FnAlarmsUptoSaid : Prop := fnAlarmsUptoRow.holds Try.pinned (OpenSpec.upto fnAlarmsSpec)

/-- 'laws.FnExactAlarmsOk', WHERE WHAT IT READS IS OF BULK AT MOST 1048576: true; the input reads as it did. -/
def fnExactAlarmsOkUptoRow : OpenClaim := { program := "ytdipdenekhffcaa", sum := "1b1983f72576ab8d4bdd5e7a6ec326632552844317297e0f2a69a76b8864663d", func := "loop.example/g00450/laws.FnExactAlarmsOk", spec := "fnExactAlarmsOk", apart := false, narrowed := true }
def FnExactAlarmsOkUptoSaid : Prop := fnExactAlarmsOkUptoRow.holds Try.pinned (OpenSpec.upto fnExactAlarmsOkSpec)

/-- 'laws.FnExactSetAlarm', WHERE WHAT IT READS IS OF BULK AT MOST 1048576: true; the input reads as it did. -/
def fnExactSetAlarmUptoRow : OpenClaim := { program := "ytdipdenekhffcaa", sum := "1b1983f72576ab8d4bdd5e7a6ec326632552844317297e0f2a69a76b8864663d", func := "loop.example/g00450/laws.FnExactSetAlarm", spec := "fnExactSetAlarm", unfollowed := true, recurses := true, apart := false, narrowed := true }
def FnExactSetAlarmUptoSaid : Prop := fnExactSetAlarmUptoRow.holds Try.pinned (OpenSpec.upto fnExactSetAlarmSpec)

/-- 'laws.FnExactStopAlarms', WHERE WHAT IT READS IS OF BULK AT MOST 1048576: true; the input reads as it did. -/
def fnExactStopAlarmsUptoRow : OpenClaim := { program := "ytdipdenekhffcaa", sum := "1b1983f72576ab8d4bdd5e7a6ec326632552844317297e0f2a69a76b8864663d", func := "loop.example/g00450/laws.FnExactStopAlarms", spec := "fnExactStopAlarms", unfollowed := true, recurses := true, apart := false, narrowed := true }
def FnExactStopAlarmsUptoSaid : Prop := fnExactStopAlarmsUptoRow.holds Try.pinned (OpenSpec.upto fnExactStopAlarmsSpec)

/-- 'laws.FnExactRingBy', WHERE WHAT IT READS IS OF BULK AT MOST 1048576: true; the input reads as it did. -/
def fnExactRingByUptoRow : OpenClaim := { program := "ytdipdenekhffcaa", sum := "1b1983f72576ab8d4bdd5e7a6ec326632552844317297e0f2a69a76b8864663d", func := "loop.example/g00450/laws.FnExactRingBy", spec := "fnExactRingBy", unfollowed := true, recurses := true, apart := false, narrowed := true }
def FnExactRingByUptoSaid : Prop := fnExactRingByUptoRow.holds Try.pinned (OpenSpec.upto fnExactRingBySpec)

end Rows
end Go.Proofs.Ytdipdenekhffcaa
