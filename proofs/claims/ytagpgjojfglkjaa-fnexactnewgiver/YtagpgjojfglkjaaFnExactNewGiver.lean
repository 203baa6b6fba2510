/- At every number the program's NewGiver answers as the specification's NewGiver, so FnExactNewGiver returns true; no condition. (Its frame is the guide's shell; the walk is mine.) -/
import Derived.Test.YtagpgjojfglkjaaRows
import Derived.Test.YtagpgjojfglkjaaGivP
import Derived.Test.YtagpgjojfglkjaaLawG
import Derived.WalkKit
import Derived.ProofKit
import Derived.ChangeOld
import Derived.Below
import Derived.OpenShut
import Derived.ShutString
namespace Go.Proofs.Ytagpgjojfglkjaa.fnExactNewGiver
open Go.ChangeShapes Go.WideShapes Go.ChangeAt Go.RowKit
open Go.ChangeMaps (open_string shut_string)
set_option linter.unusedVariables false      -- a walk need not use every 'w<i>' (that an integer argument fits its kind)

theorem own : ownKnob Try.prog.godebug = none := by kernel_rfl

/-! ### STEP 1: THE WALK: the Go text returns true. 'Grown w w'': the world has at most new blocks (Derived/RowKit3.lean). Part the cases AHEAD of 'go_enter' where a test parts the walk; take each callee by a contract of your own. -/
set_option linter.unusedSimpArgs false in
set_option maxRecDepth 20000 in
set_option maxHeartbeats 4000000 in
theorem walk (a0 : Int) (w0 : (Lit.int .i64 a0).wf = true) (w : World) :
    Calls Try.prog 7 #[.int .i64 a0] w fun e w' => e = .returned (.bool true) ∧ Below w.heap.size w w' := by
  have hS := fun w' => Giv.specNewGiver a0 w'
  have hI := fun w' => Giv.implNewGiver a0 w'
  generalize Giv.newG a0 = R at *
  obtain ⟨⟨ra, rb, rc, rl, re, rd⟩, rt⟩ := R
  have hE := fun w' => Giv.eqGiver ⟨ra, rb, rc, rl, re, rd⟩ w'
  dsimp only [Giv.Gv.v] at *
  go_enter Try.func7, Try.ntmps7
  go_wp2_with fail
  refine (hS _).mono ?_
  rintro x w1 ⟨rfl, b1⟩
  have v1 : RowG.Var 25 (w1.alloc (.cells #[.int .i64 ra, .string rb, .int .i64 rc, .int .i64 rl, .bool re, .bool rd] 25)) w1.heap.size [.int .i64 ra, .string rb, .int .i64 rc, .int .i64 rl, .bool re, .bool rd] := RowG.Var.new w1 _
  have B1 : Below w.heap.size w (w1.alloc (.cells #[.int .i64 ra, .string rb, .int .i64 rc, .int .i64 rl, .bool re, .bool rd] 25)) := b1.alloc b1.size _
  clear b1
  go_upto_region 2 with (fail)
  generalize w1.alloc (.cells #[.int .i64 ra, .string rb, .int .i64 rc, .int .i64 rl, .bool re, .bool rd] 25) = W1 at *
  generalize w1.heap.size = k1 at *
  go_wp2_with fail
  refine (hI _).mono ?_
  rintro x w2 ⟨rfl, b2⟩
  have B2 := B1.trans (b2.mono B1.size)
  replace v1 := v1.later b2
  have v2 : RowG.Var 25 (w2.alloc (.cells #[.int .i64 ra, .string rb, .int .i64 rc, .int .i64 rl, .bool re, .bool rd] 25)) w2.heap.size [.int .i64 ra, .string rb, .int .i64 rc, .int .i64 rl, .bool re, .bool rd] := RowG.Var.new w2 _
  replace v1 := v1.alloc (.cells #[.int .i64 ra, .string rb, .int .i64 rc, .int .i64 rl, .bool re, .bool rd] 25)
  have B3 : Below w.heap.size w (w2.alloc (.cells #[.int .i64 ra, .string rb, .int .i64 rc, .int .i64 rl, .bool re, .bool rd] 25)) := B2.alloc B2.size _
  clear b2 B1 B2
  go_upto_region 3 with (fail)
  generalize w2.alloc (.cells #[.int .i64 ra, .string rb, .int .i64 rc, .int .i64 rl, .bool re, .bool rd] 25) = W2 at *
  generalize w2.heap.size = k2 at *
  have c0 := v1.cell (i := 0) rfl
  have c1 := v1.cell (i := 1) rfl
  have c2 := v1.cell (i := 2) rfl
  have c3 := v1.cell (i := 3) rfl
  have c4 := v1.cell (i := 4) rfl
  have c5 := v1.cell (i := 5) rfl
  have d0 := v2.cell (i := 0) rfl
  have d1 := v2.cell (i := 1) rfl
  have d2 := v2.cell (i := 2) rfl
  have d3 := v2.cell (i := 3) rfl
  have d4 := v2.cell (i := 4) rfl
  have d5 := v2.cell (i := 5) rfl
  go_wp2_with fail
  refine (hE _).mono ?_
  rintro x w8 ⟨rfl, hB8⟩
  have B8 := B3.trans (hB8.mono B3.size)
  go_wp2_with fail
  go_ret
  exact ⟨rfl, B8⟩

/-! ### THE ROW's STEP: WRITTEN OUT: LEAVE IT -/
set_option maxRecDepth 100000 in
theorem lifted (os : Os) (started : os.Started) (H : Type) (enc : TypeId × Value → H) :
    ReturnsInHanded {} Try.checked os 7 .any (Rows.fnExactNewGiverSpec.pre6 enc Try.prog Try.f7 Rows.fnExactNewGiverRow.domain false) (Rows.fnExactNewGiverSpec.post enc Try.prog Try.f7 false true false false) := by
  refine returnsInHanded_of_change (C := Try.checked) own started (by kernel_rfl) Try.func7
    (ChangeSpec.witness6 (enc := enc) (C := Try.checked) false ⟨#[], #[.int .i64 0], []⟩ 8 (by kernel_rfl) (by kernel_rfl) (by kernel_rfl) (by kernel_rfl)) ?_
  intro W base args ds gs before hval0 hW hcnd _
  have hval : ∀ (j : Nat) t v, Try.f7.params[j]? = some t → args[j]? = some v → Value.okWide Try.prog W .any base t v := hval0
  have hW' := hW
  obtain ⟨p, q, hA0, hV, rfl, hfz, hnd⟩ := hW
  have hA : DataW.TrodAll enc Try.prog W 0 (fun _ => true) true Try.f7.params.toList args.toList ds p := hA0
  rw [Try.params7] at hA hval
  obtain ⟨v0, vs0, d0, ds0, p0, q0, hargs, rfl, rfl, h0, r0⟩ := trodAll_cons hA
  obtain ⟨rfl, rfl, rfl⟩ := trodAll_nil r0
  obtain rfl : args = #[v0] := by cases args; simp_all
  obtain ⟨rfl, rfl⟩ := trodVars_none hV
  obtain ⟨a0, rfl, rfl, rfl, w0⟩ := open_int Try.underlying2 (hval 0 2 v0 rfl rfl) h0
  clear hA0 hval0
  refine (walk a0 w0 W).mono fun e W' ⟨he, hg⟩ => ?_
  subst he
  exact ⟨_, rfl, _, _, _, [], _, [], hW', (trodAll_cons_mk (shut_bool Try.underlying4 _) trodAll_mk0), (trodAll_cons_mk (shut_int Try.underlying2 w0) trodAll_mk0), rfl, hg.frame _, fun h => by cases h⟩

theorem over : Rows.fnExactNewGiverRow.holds Try.pinned (OpenSpec.ofChange Rows.fnExactNewGiverSpec) :=
  OpenClaim.holds_of_wide 7 Try.f7 rfl rfl rfl rfl rfl rfl rfl ⟨rfl, rfl, rfl, rfl, rfl⟩ rfl rfl rfl rfl rfl (by kernel_rfl) Try.func7 (by kernel_rfl)
    (of_decide_eq_true (by kernel_rfl)) (by unfold Func.isWrapper; first | (rw [if_pos (by decide +kernel)]; kernel_rfl) | (rw [if_neg (by decide +kernel)]; exact ⟨rfl, rfl⟩))
    (fun os started H enc _ => lifted os started H enc)

/-- THE STATEMENT. -/
theorem proved : Rows.FnExactNewGiverSaid :=
  over
end Go.Proofs.Ytagpgjojfglkjaa.fnExactNewGiver
namespace Go.Proofs.Ytagpgjojfglkjaa
theorem fnExactNewGiver_holds : Rows.FnExactNewGiverSaid := fnExactNewGiver.proved
#print axioms fnExactNewGiver_holds
end Go.Proofs.Ytagpgjojfglkjaa
