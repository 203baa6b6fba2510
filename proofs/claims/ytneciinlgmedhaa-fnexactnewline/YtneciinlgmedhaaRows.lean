/-
  No cell of these rows narrows 'for every input' (looked for: loops, veiled, ifaces, maps, wideKeys, modest, calm, conditions, laid).
  DERIVED. THE GIVEN ROWS OF THIS SEAT. 4 by the template 'for every input the law returns true; each argument reads behind the call as it read before'; 0 by the template 'total and deterministic' (their statements: YtneciinlgmedhaaTotals.lean).
  GIVEN WITH THE SEED: the statements are not yours to turn. If you find one false, say at which input.
  Laid BY PROGRAM, IN A SANDBOX (cutbox-rows.mjs): the forced cells as the released guide's own fill.sh prints them over the translation ae110fdfec462638… (all of the seat's roots in one cut). By AI agents, Wed Nov 11 2026. No macro, syntax, notation, axiom, sorry.
-/
import Derived.Test.YtneciinlgmedhaaChecked
import GoSem.Claim
import GoSem.ClaimJoined
import GoSem.ClaimMapViews
import Derived.JoinedTies
import Derived.KernelRfl
namespace Go.Proofs.Ytneciinlgmedhaa
/- THE CELL 'sum', in the pinned program and in every row, IS THE sha256 OF THE DUMP (.gsa) THAT YtneciinlgmedhaaProg.lean LOADS. Nothing in Lean hashes anything: it is a label: what it is worth is what the hold of that sum in a sandbox is worth. -/
noncomputable def Try.pinned : Pinned := { name := "ytneciinlgmedhaa", sum := "ae110fdfec4626381fd0f9ec955bc228c5b0cb0d1e6ece1cf8e593fb6739f013", checked := Try.checked }
namespace Rows
def none {H : Type} : Left H := { results := [], args := [] }

/-- 'laws.FnExactLineOk': WHATEVER THE INPUT: true; the input reads as it did. -/
def fnExactLineOkSpec : ChangeSpec := { name := "fnExactLineOk", fn := fun _ => fun
  | [d] => { results := [.lit (.bool true)], args := [d] }
  | _ => none }
def fnExactLineOkRow : OpenClaim := { program := "ytneciinlgmedhaa", sum := "ae110fdfec4626381fd0f9ec955bc228c5b0cb0d1e6ece1cf8e593fb6739f013", func := "loop.example/g00450/laws.FnExactLineOk", spec := "fnExactLineOk", unfollowed := true, recurses := true, plainKeys := false, apart := false }
def FnExactLineOkSaid : Prop := fnExactLineOkRow.holds Try.pinned (OpenSpec.ofChange fnExactLineOkSpec)

/-- ITS FALSE NEIGHBOUR: 'it returns false'. Refute it at one input. -/
def fnExactLineOkWrong : ChangeSpec := { name := "fnExactLineOk", fn := fun _ => fun
  | [d] => { results := [.lit (.bool false)], args := [d] }
  | _ => none }
def FnExactLineOkWrongFalsely : Prop := fnExactLineOkRow.holds Try.pinned (OpenSpec.ofChange fnExactLineOkWrong)

/-- 'laws.FnExactNewLine': WHATEVER THE INPUT: true; the input reads as it did. -/
def fnExactNewLineSpec : ChangeSpec := { name := "fnExactNewLine", fn := fun _ => fun
  | [d1, d2] => { results := [.lit (.bool true)], args := [d1, d2] }
  | _ => none }
def fnExactNewLineRow : OpenClaim := { program := "ytneciinlgmedhaa", sum := "ae110fdfec4626381fd0f9ec955bc228c5b0cb0d1e6ece1cf8e593fb6739f013", func := "loop.example/g00450/laws.FnExactNewLine", spec := "fnExactNewLine", plainKeys := false, apart := false }
def FnExactNewLineSaid : Prop := fnExactNewLineRow.holds Try.pinned (OpenSpec.ofChange fnExactNewLineSpec)

/-- ITS FALSE NEIGHBOUR: 'it returns false'. Refute it at one input. -/
def fnExactNewLineWrong : ChangeSpec := { name := "fnExactNewLine", fn := fun _ => fun
  | [d1, d2] => { results := [.lit (.bool false)], args := [d1, d2] }
  | _ => none }
def FnExactNewLineWrongFalsely : Prop := fnExactNewLineRow.holds Try.pinned (OpenSpec.ofChange fnExactNewLineWrong)

/-- 'laws.FnExactRoomOf': WHATEVER THE INPUT: true; the input reads as it did. -/
def fnExactRoomOfSpec : ChangeSpec := { name := "fnExactRoomOf", fn := fun _ => fun
  | [d] => { results := [.lit (.bool true)], args := [d] }
  | _ => none }
def fnExactRoomOfRow : OpenClaim := { program := "ytneciinlgmedhaa", sum := "ae110fdfec4626381fd0f9ec955bc228c5b0cb0d1e6ece1cf8e593fb6739f013", func := "loop.example/g00450/laws.FnExactRoomOf", spec := "fnExactRoomOf", unfollowed := true, recurses := true, plainKeys := false, apart := false }
def FnExactRoomOfSaid : Prop := fnExactRoomOfRow.holds Try.pinned (OpenSpec.ofChange fnExactRoomOfSpec)

/-- ITS FALSE NEIGHBOUR: 'it returns false'. Refute it at one input. -/
def fnExactRoomOfWrong : ChangeSpec := { name := "fnExactRoomOf", fn := fun _ => fun
  | [d] => { results := [.lit (.bool false)], args := [d] }
  | _ => none }
def FnExactRoomOfWrongFalsely : Prop := fnExactRoomOfRow.holds Try.pinned (OpenSpec.ofChange fnExactRoomOfWrong)

/-- 'laws.FnExactAtDesk': WHATEVER THE INPUT: true; the input reads as it did. -/
def fnExactAtDeskSpec : ChangeSpec := { name := "fnExactAtDesk", fn := fun _ => fun
  | [d] => { results := [.lit (.bool true)], args := [d] }
  | _ => none }
def fnExactAtDeskRow : OpenClaim := { program := "ytneciinlgmedhaa", sum := "ae110fdfec4626381fd0f9ec955bc228c5b0cb0d1e6ece1cf8e593fb6739f013", func := "loop.example/g00450/laws.FnExactAtDesk", spec := "fnExactAtDesk", unfollowed := true, recurses := true, plainKeys := false, apart := false }
def FnExactAtDeskSaid : Prop := fnExactAtDeskRow.holds Try.pinned (OpenSpec.ofChange fnExactAtDeskSpec)

/-- ITS FALSE NEIGHBOUR: 'it returns false'. Refute it at one input. -/
def fnExactAtDeskWrong : ChangeSpec := { name := "fnExactAtDesk", fn := fun _ => fun
  | [d] => { results := [.lit (.bool false)], args := [d] }
  | _ => none }
def FnExactAtDeskWrongFalsely : Prop := fnExactAtDeskRow.holds Try.pinned (OpenSpec.ofChange fnExactAtDeskWrong)

/- THE SECOND FORM. 'bulk': how many values and letters a reading holds, each counted each time it is reached (what is shared counts as often as it is met; a slice's spare places count too). A statement '..UptoSaid' is the law's where the arguments, and the package variables that the reading takes, are together of bulk at most 1048576: NARROWER than '..Said'. Prove '..Said' where nothing that the law and all that it calls make is longer than what came in: it says more and counts as full. Else prove '..UptoSaid'. A law counts once. -/
mutual
def uptoBulk {H : Type} : DataW H → Nat
  | .lit (.string bytes) => bytes.length + 1
  | .lit _ => 1
  | .nil => 1
  | .ptr d => uptoBulk d + 1
  | .slice elems spare => uptoBulkAll elems + uptoBulkAll spare + 1
  | .agg parts => uptoBulkAll parts + 1
  | .iface _ d => uptoBulk d + 1
  | .map entries => uptoBulkEntries entries + 1
  | .held _ => 1
def uptoBulkAll {H : Type} : List (DataW H) → Nat
  | [] => 0
  | d :: r => uptoBulk d + uptoBulkAll r
def uptoBulkEntries {H : Type} : List (Lit × DataW H) → Nat
  | [] => 0
  | x :: r => uptoBulkEntry x + uptoBulkEntries r
def uptoBulkEntry {H : Type} : Lit × DataW H → Nat
  | (.string bytes, d) => bytes.length + uptoBulk d + 1
  | (_, d) => uptoBulk d + 1
 end
def uptoSmall : (H : Type) → List (DataW H) → Bool := fun _ ds => decide (uptoBulkAll ds ≤ 1048576)
def OpenSpec.upto (s : _root_.Go.ChangeSpec) : _root_.Go.OpenSpec := { _root_.Go.OpenSpec.ofChange s with cond := some uptoSmall }

/-- 'laws.FnExactLineOk', WHERE WHAT IT READS IS OF BULK AT MOST 1048576: true; the input reads as it did. -/
def fnExactLineOkUptoRow : OpenClaim := { program := "ytneciinlgmedhaa", sum := "ae110fdfec4626381fd0f9ec955bc228c5b0cb0d1e6ece1cf8e593fb6739f013", func := "loop.example/g00450/laws.FnExactLineOk", spec := "fnExactLineOk", unfollowed := true, recurses := true, plainKeys := false, apart := false, narrowed := true }
def FnExactLineOkUptoSaid : Prop := fnExactLineOkUptoRow.holds Try.pinned (OpenSpec.upto fnExactLineOkSpec)

/-- 'laws.FnExactNewLine', WHERE WHAT IT READS IS OF BULK AT MOST 1048576: true; the input reads as it did. -/
def fnExactNewLineUptoRow : OpenClaim := { program := "ytneciinlgmedhaa", sum := "ae110fdfec4626381fd0f9ec955bc228c5b0cb0d1e6ece1cf8e593fb6739f013", func := "loop.example/g00450/laws.FnExactNewLine", spec := "fnExactNewLine", plainKeys := false, apart := false, narrowed := true }
def FnExactNewLineUptoSaid : Prop := fnExactNewLineUptoRow.holds Try.pinned (OpenSpec.upto fnExactNewLineSpec)

/-- 'laws.FnExactRoomOf', WHERE WHAT IT READS IS OF BULK AT MOST 1048576: true; the input reads as it did. -/
def fnExactRoomOfUptoRow : OpenClaim := { program := "ytneciinlgmedhaa", sum := "ae110fdfec4626381fd0f9ec955bc228c5b0cb0d1e6ece1cf8e593fb6739f013", func := "loop.example/g00450/laws.FnExactRoomOf", spec := "fnExactRoomOf", unfollowed := true, recurses := true, plainKeys := false, apart := false, narrowed := true }
def FnExactRoomOfUptoSaid : Prop := fnExactRoomOfUptoRow.holds Try.pinned (OpenSpec.upto fnExactRoomOfSpec)

/-- 'laws.FnExactAtDesk', WHERE WHAT IT READS IS OF BULK AT MOST 1048576: true; the input reads as it did. -/
def fnExactAtDeskUptoRow : OpenClaim := { program := "ytneciinlgmedhaa", sum := "ae110fdfec4626381fd0f9ec955bc228c5b0cb0d1e6ece1cf8e593fb6739f013", func := "loop.example/g00450/laws.FnExactAtDesk", spec := "fnExactAtDesk", unfollowed := true, recurses := true, plainKeys := false, apart := false, narrowed := true }
def FnExactAtDeskUptoSaid : Prop := fnExactAtDeskUptoRow.holds Try.pinned (OpenSpec.upto fnExactAtDeskSpec)

end Rows
end Go.Proofs.Ytneciinlgmedhaa
