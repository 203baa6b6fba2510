/-
  No cell of these rows narrows 'for every input' (looked for: loops, veiled, ifaces, maps, wideKeys, modest, calm, conditions, laid).
  DERIVED. THE GIVEN ROWS OF THIS SEAT. 5 by the template 'for every input the law returns true; each argument reads behind the call as it read before'; 0 by the template 'total and deterministic' (their statements: YtnfdomgibkdkcaaTotals.lean).
  GIVEN WITH THE SEED: the statements are not yours to turn. If you find one false, say at which input.
  Laid BY PROGRAM, IN A SANDBOX (cutbox-rows.mjs): the forced cells as the released guide's own fill.sh prints them over the translation 25ff351d63453731… (all of the seat's roots in one cut). By AI agents, Wed Nov 11 2026. No macro, syntax, notation, axiom, sorry.
-/
import Derived.Test.YtnfdomgibkdkcaaChecked
import GoSem.Claim
import GoSem.ClaimJoined
import GoSem.ClaimMapViews
import Derived.JoinedTies
import Derived.KernelRfl
namespace Go.Proofs.Ytnfdomgibkdkcaa
/- THE CELL 'sum', in the pinned program and in every row, IS THE sha256 OF THE DUMP (.gsa) THAT YtnfdomgibkdkcaaProg.lean LOADS. Nothing in Lean hashes anything: it is a label: what it is worth is what the hold of that sum in a sandbox is worth. -/
noncomputable def Try.pinned : Pinned := { name := "ytnfdomgibkdkcaa", sum := "25ff351d6345373189d8bc4f1b1e729667d0b0091145e6dba450d1fe36f3d554", checked := Try.checked }
namespace Rows
def none {H : Type} : Left H := { results := [], args := [] }

/-- 'laws.FnChosen': WHATEVER THE INPUT: true; the input reads as it did. -/
def fnChosenSpec : ChangeSpec := { name := "fnChosen", fn := fun _ => fun
  | [d] => { results := [.lit (.bool true)], args := [d] }
  | _ => none }
def fnChosenRow : OpenClaim := { program := "ytnfdomgibkdkcaa", sum := "25ff351d6345373189d8bc4f1b1e729667d0b0091145e6dba450d1fe36f3d554", func := "loop.example/g00450/laws.FnChosen", spec := "fnChosen", unfollowed := true, recurses := true, plainKeys := false, apart := false }
def FnChosenSaid : Prop := fnChosenRow.holds Try.pinned (OpenSpec.ofChange fnChosenSpec)

/-- ITS FALSE NEIGHBOUR: 'it returns false'. Refute it at one input. -/
def fnChosenWrong : ChangeSpec := { name := "fnChosen", fn := fun _ => fun
  | [d] => { results := [.lit (.bool false)], args := [d] }
  | _ => none }
def FnChosenWrongFalsely : Prop := fnChosenRow.holds Try.pinned (OpenSpec.ofChange fnChosenWrong)

/-- 'laws.FnExactCheapest': WHATEVER THE INPUT: true; the input reads as it did. -/
def fnExactCheapestSpec : ChangeSpec := { name := "fnExactCheapest", fn := fun _ => fun
  | [d] => { results := [.lit (.bool true)], args := [d] }
  | _ => none }
def fnExactCheapestRow : OpenClaim := { program := "ytnfdomgibkdkcaa", sum := "25ff351d6345373189d8bc4f1b1e729667d0b0091145e6dba450d1fe36f3d554", func := "loop.example/g00450/laws.FnExactCheapest", spec := "fnExactCheapest", unfollowed := true, recurses := true, plainKeys := false, apart := false }
def FnExactCheapestSaid : Prop := fnExactCheapestRow.holds Try.pinned (OpenSpec.ofChange fnExactCheapestSpec)

/-- ITS FALSE NEIGHBOUR: 'it returns false'. Refute it at one input. -/
def fnExactCheapestWrong : ChangeSpec := { name := "fnExactCheapest", fn := fun _ => fun
  | [d] => { results := [.lit (.bool false)], args := [d] }
  | _ => none }
def FnExactCheapestWrongFalsely : Prop := fnExactCheapestRow.holds Try.pinned (OpenSpec.ofChange fnExactCheapestWrong)

/-- 'laws.FnExactAfterIt': WHATEVER THE INPUT: true; the input reads as it did. -/
def fnExactAfterItSpec : ChangeSpec := { name := "fnExactAfterIt", fn := fun _ => fun
  | [d1, d2] => { results := [.lit (.bool true)], args := [d1, d2] }
  | _ => none }
def fnExactAfterItRow : OpenClaim := { program := "ytnfdomgibkdkcaa", sum := "25ff351d6345373189d8bc4f1b1e729667d0b0091145e6dba450d1fe36f3d554", func := "loop.example/g00450/laws.FnExactAfterIt", spec := "fnExactAfterIt", recurses := true, plainKeys := false, apart := false }
def FnExactAfterItSaid : Prop := fnExactAfterItRow.holds Try.pinned (OpenSpec.ofChange fnExactAfterItSpec)

/-- ITS FALSE NEIGHBOUR: 'it returns false'. Refute it at one input. -/
def fnExactAfterItWrong : ChangeSpec := { name := "fnExactAfterIt", fn := fun _ => fun
  | [d1, d2] => { results := [.lit (.bool false)], args := [d1, d2] }
  | _ => none }
def FnExactAfterItWrongFalsely : Prop := fnExactAfterItRow.holds Try.pinned (OpenSpec.ofChange fnExactAfterItWrong)

/-- 'laws.FnExactSafest': WHATEVER THE INPUT: true; the input reads as it did. -/
def fnExactSafestSpec : ChangeSpec := { name := "fnExactSafest", fn := fun _ => fun
  | [d] => { results := [.lit (.bool true)], args := [d] }
  | _ => none }
def fnExactSafestRow : OpenClaim := { program := "ytnfdomgibkdkcaa", sum := "25ff351d6345373189d8bc4f1b1e729667d0b0091145e6dba450d1fe36f3d554", func := "loop.example/g00450/laws.FnExactSafest", spec := "fnExactSafest", unfollowed := true, recurses := true, plainKeys := false, apart := false }
def FnExactSafestSaid : Prop := fnExactSafestRow.holds Try.pinned (OpenSpec.ofChange fnExactSafestSpec)

/-- ITS FALSE NEIGHBOUR: 'it returns false'. Refute it at one input. -/
def fnExactSafestWrong : ChangeSpec := { name := "fnExactSafest", fn := fun _ => fun
  | [d] => { results := [.lit (.bool false)], args := [d] }
  | _ => none }
def FnExactSafestWrongFalsely : Prop := fnExactSafestRow.holds Try.pinned (OpenSpec.ofChange fnExactSafestWrong)

/-- 'laws.FnExactChosen': WHATEVER THE INPUT: true; the input reads as it did. -/
def fnExactChosenSpec : ChangeSpec := { name := "fnExactChosen", fn := fun _ => fun
  | [d1, d2, d3] => { results := [.lit (.bool true)], args := [d1, d2, d3] }
  | _ => none }
def fnExactChosenRow : OpenClaim := { program := "ytnfdomgibkdkcaa", sum := "25ff351d6345373189d8bc4f1b1e729667d0b0091145e6dba450d1fe36f3d554", func := "loop.example/g00450/laws.FnExactChosen", spec := "fnExactChosen", unfollowed := true, recurses := true, plainKeys := false, apart := false }
def FnExactChosenSaid : Prop := fnExactChosenRow.holds Try.pinned (OpenSpec.ofChange fnExactChosenSpec)

/-- ITS FALSE NEIGHBOUR: 'it returns false'. Refute it at one input. -/
def fnExactChosenWrong : ChangeSpec := { name := "fnExactChosen", fn := fun _ => fun
  | [d1, d2, d3] => { results := [.lit (.bool false)], args := [d1, d2, d3] }
  | _ => none }
def FnExactChosenWrongFalsely : Prop := fnExactChosenRow.holds Try.pinned (OpenSpec.ofChange fnExactChosenWrong)

/- THE SECOND FORM. 'bulk': how many values and letters a reading holds, each counted each time it is reached (what is shared counts as often as it is met; a slice's spare places count too). A statement '..UptoSaid' is the law's where the arguments, and the package variables that the reading takes, are together of bulk at most 1048576: NARROWER than '..Said'. Prove '..Said' where nothing that the law and all that it calls make is longer than what came in: it says more and counts as full. Else prove '..UptoSaid'. A law counts once. -/
mutual
def uptoBulk {H : Type} : DataW H → Nat
  | .lit (.string bytes) => bytes.length + 1
  | .lit _ => 1
  | .nil => 1
  | .ptr d => uptoBulk d + 1
  | .slice elems spare => uptoBulkAll elems + uptoBulkAll spare + 1
  | .agg parts => uptoBulkAll parts + 1
  | .iface _ d => uptoBulk d + 1
  | .map entries => uptoBulkEntries entries + 1
  | .held _ => 1
def uptoBulkAll {H : Type} : List (DataW H) → Nat
  | [] => 0
  | d :: r => uptoBulk d + uptoBulkAll r
def uptoBulkEntries {H : Type} : List (Lit × DataW H) → Nat
  | [] => 0
  | x :: r => uptoBulkEntry x + uptoBulkEntries r
def uptoBulkEntry {H : Type} : Lit × DataW H → Nat
  | (.string bytes, d) => bytes.length + uptoBulk d + 1
  | (_, d) => uptoBulk d + 1
 end
def uptoSmall : (H : Type) → List (DataW H) → Bool := fun _ ds => decide (uptoBulkAll ds ≤ 1048576)
def OpenSpec.upto (s : _root_.Go.ChangeSpec) : _root_.Go.OpenSpec := { _root_.Go.OpenSpec.ofChange s with cond := some uptoSmall }

/-- 'laws.FnChosen', WHERE WHAT IT READS IS OF BULK AT MOST 1048576: true; the input reads as it did. -/
def fnChosenUptoRow : OpenClaim := { program := "ytnfdomgibkdkcaa", sum := "25ff351d6345373189d8bc4f1b1e729667d0b0091145e6dba450d1fe36f3d554", func := "loop.example/g00450/laws.FnChosen", spec := "fnChosen", unfollowed := true, recurses := true, plainKeys := false, apart := false, narrowed := true }
def FnChosenUptoSaid : Prop := fnChosenUptoRow.holds Try.pinned (OpenSpec.upto fnChosenSpec)

/-- 'laws.FnExactCheapest', WHERE WHAT IT READS IS OF BULK AT MOST 1048576: true; the input reads as it did. -/
def fnExactCheapestUptoRow : OpenClaim := { program := "ytnfdomgibkdkcaa", sum := "25ff351d6345373189d8bc4f1b1e729667d0b0091145e6dba450d1fe36f3d554", func := "loop.example/g00450/laws.FnExactCheapest", spec := "fnExactCheapest", unfollowed := true, recurses := true, plainKeys := false, apart := false, narrowed := true }
def FnExactCheapestUptoSaid : Prop := fnExactCheapestUptoRow.holds Try.pinned (OpenSpec.upto fnExactCheapestSpec)

/-- 'laws.FnExactAfterIt', WHERE WHAT IT READS IS OF BULK AT MOST 1048576: true; the input reads as it did. -/
def fnExactAfterItUptoRow : OpenClaim := { program := "ytnfdomgibkdkcaa", sum := "25ff351d6345373189d8bc4f1b1e729667d0b0091145e6dba450d1fe36f3d554", func := "loop.example/g00450/laws.FnExactAfterIt", spec := "fnExactAfterIt", recurses := true, plainKeys := false, apart := false, narrowed := true }
def FnExactAfterItUptoSaid : Prop := fnExactAfterItUptoRow.holds Try.pinned (OpenSpec.upto fnExactAfterItSpec)

/-- 'laws.FnExactSafest', WHERE WHAT IT READS IS OF BULK AT MOST 1048576: true; the input reads as it did. -/
def fnExactSafestUptoRow : OpenClaim := { program := "ytnfdomgibkdkcaa", sum := "25ff351d6345373189d8bc4f1b1e729667d0b0091145e6dba450d1fe36f3d554", func := "loop.example/g00450/laws.FnExactSafest", spec := "fnExactSafest", unfollowed := true, recurses := true, plainKeys := false, apart := false, narrowed := true }
def FnExactSafestUptoSaid : Prop := fnExactSafestUptoRow.holds Try.pinned (OpenSpec.upto fnExactSafestSpec)

/-- 'laws.FnExactChosen', WHERE WHAT IT READS IS OF BULK AT MOST 1048576: true; the input reads as it did. -/
def fnExactChosenUptoRow : OpenClaim := { program := "ytnfdomgibkdkcaa", sum := "25ff351d6345373189d8bc4f1b1e729667d0b0091145e6dba450d1fe36f3d554", func := "loop.example/g00450/laws.FnExactChosen", spec := "fnExactChosen", unfollowed := true, recurses := true, plainKeys := false, apart := false, narrowed := true }
def FnExactChosenUptoSaid : Prop := fnExactChosenUptoRow.holds Try.pinned (OpenSpec.upto fnExactChosenSpec)

end Rows
end Go.Proofs.Ytnfdomgibkdkcaa
