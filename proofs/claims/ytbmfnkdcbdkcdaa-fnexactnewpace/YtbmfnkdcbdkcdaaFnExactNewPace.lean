/- The program's NewPace answers as the specification's NewPace, so FnExactNewPace returns true; no condition. (Its frame is the guide's shell; the walk is mine.) -/
import Derived.Test.YtbmfnkdcbdkcdaaRows
import Derived.Test.YtbmfnkdcbdkcdaaPacP
import Derived.Test.YtbmfnkdcbdkcdaaLawP
import Derived.WalkKit
import Derived.ProofKit
import Derived.ChangeOld
import Derived.Below
import Derived.OpenShut
import Derived.ShutString
namespace Go.Proofs.Ytbmfnkdcbdkcdaa.fnExactNewPace
open Go.ChangeShapes Go.WideShapes Go.ChangeAt Go.RowKit
open Go.ChangeMaps (open_string shut_string)
set_option linter.unusedVariables false      -- a walk need not use every 'w<i>' (that an integer argument fits its kind)

theorem own : ownKnob Try.prog.godebug = none := by kernel_rfl

/-! ### STEP 1: THE WALK: the Go text returns true. 'Grown w w'': the world has at most new blocks (Derived/RowKit3.lean). Part the cases AHEAD of 'go_enter' where a test parts the walk; take each callee by a contract of your own. -/
set_option linter.unusedSimpArgs false in
set_option maxRecDepth 20000 in
set_option maxHeartbeats 4000000 in
theorem walk  (w : World) :
    Calls Try.prog 6 #[] w fun e w' => e = .returned (.bool true) ∧ Below w.heap.size w w' := by
  have hS := fun w' => Pac.specNewPace w'
  have hI := fun w' => Pac.implNewPace w'
  have hE := fun w' => Pac.eqPace ⟨0, 0, 1000, 0⟩ w'
  dsimp only [Pac.Pc.v] at *
  go_enter Try.func6, Try.ntmps6
  go_wp2_with fail
  refine (hS _).mono ?_
  rintro x w1 ⟨rfl, B1⟩
  have z1 : RowG.Var 25 (w1.alloc (.cells #[.int .i64 0, .int .i64 0, .int .i64 1000, .int .i64 0] 25)) w1.heap.size [.int .i64 0, .int .i64 0, .int .i64 1000, .int .i64 0] := RowG.Var.new w1 _
  replace B1 := B1.alloc B1.size (.cells #[.int .i64 0, .int .i64 0, .int .i64 1000, .int .i64 0] 25)
  clear hS
  go_upto_region 2 with (fail)
  generalize w1.alloc (.cells #[.int .i64 0, .int .i64 0, .int .i64 1000, .int .i64 0] 25) = V1 at *
  generalize w1.heap.size = k1 at *
  go_wp2_with fail
  refine (hI _).mono ?_
  rintro x w2 ⟨rfl, hB2⟩
  have z2 := (z1.later hB2).alloc (.cells #[.int .i64 0, .int .i64 0, .int .i64 1000, .int .i64 0] 25)
  have y2 : RowG.Var 25 (w2.alloc (.cells #[.int .i64 0, .int .i64 0, .int .i64 1000, .int .i64 0] 25)) w2.heap.size [.int .i64 0, .int .i64 0, .int .i64 1000, .int .i64 0] := RowG.Var.new w2 _
  have B2 := B1.trans (hB2.mono B1.size)
  replace B2 := B2.alloc B2.size (.cells #[.int .i64 0, .int .i64 0, .int .i64 1000, .int .i64 0] 25)
  clear hI z1 B1 hB2
  go_upto_region 3 with (fail)
  generalize w2.alloc (.cells #[.int .i64 0, .int .i64 0, .int .i64 1000, .int .i64 0] 25) = V2 at *
  generalize w2.heap.size = k2 at *
  have c0 := z2.cell (i := 0) rfl
  have c1 := z2.cell (i := 1) rfl
  have c2 := z2.cell (i := 2) rfl
  have c3 := z2.cell (i := 3) rfl
  have d0 := y2.cell (i := 0) rfl
  have d1 := y2.cell (i := 1) rfl
  have d2 := y2.cell (i := 2) rfl
  have d3 := y2.cell (i := 3) rfl
  go_wp2_with fail
  refine (hE _).mono ?_
  rintro x w5 ⟨rfl, hB5⟩
  have B5 := B2.trans (hB5.mono B2.size)
  clear B2 hB5 hE z2 y2 c0 c1 c2 c3 d0 d1 d2 d3
  go_wp2_with fail
  go_ret
  exact ⟨rfl, B5⟩

/-! ### THE ROW's STEP: WRITTEN OUT: LEAVE IT -/
set_option maxRecDepth 100000 in
theorem lifted (os : Os) (started : os.Started) (H : Type) (enc : TypeId × Value → H) :
    ReturnsInHanded {} Try.checked os 6 .any (Rows.fnExactNewPaceSpec.pre6 enc Try.prog Try.f6 Rows.fnExactNewPaceRow.domain false) (Rows.fnExactNewPaceSpec.post enc Try.prog Try.f6 false true false false) := by
  refine returnsInHanded_of_change (C := Try.checked) own started (by kernel_rfl) Try.func6
    (ChangeSpec.witness6 (enc := enc) (C := Try.checked) false ⟨#[], #[], []⟩ 8 (by kernel_rfl) (by kernel_rfl) (by kernel_rfl) (by kernel_rfl)) ?_
  intro W base args ds gs before hval0 hW hcnd _
  have hval : ∀ (j : Nat) t v, Try.f6.params[j]? = some t → args[j]? = some v → Value.okWide Try.prog W .any base t v := hval0
  have hW' := hW
  obtain ⟨p, q, hA0, hV, rfl, hfz, hnd⟩ := hW
  have hA : DataW.TrodAll enc Try.prog W 0 (fun _ => true) true Try.f6.params.toList args.toList ds p := hA0
  rw [Try.params6] at hA hval
  obtain ⟨rfl, rfl, rfl⟩ := trodAll_none hA
  obtain ⟨rfl, rfl⟩ := trodVars_none hV
  clear hA0 hval0
  refine (walk  W).mono fun e W' ⟨he, hg⟩ => ?_
  subst he
  exact ⟨_, rfl, _, _, _, [], _, [], hW', (trodAll_cons_mk (shut_bool Try.underlying4 _) trodAll_mk0), rfl, rfl, hg.frame _, fun h => by cases h⟩

theorem over : Rows.fnExactNewPaceRow.holds Try.pinned (OpenSpec.ofChange Rows.fnExactNewPaceSpec) :=
  OpenClaim.holds_of_wide 6 Try.f6 rfl rfl rfl rfl rfl rfl rfl ⟨rfl, rfl, rfl, rfl, rfl⟩ rfl rfl rfl rfl rfl (by kernel_rfl) Try.func6 (by kernel_rfl)
    (of_decide_eq_true (by kernel_rfl)) (by unfold Func.isWrapper; first | (rw [if_pos (by decide +kernel)]; kernel_rfl) | (rw [if_neg (by decide +kernel)]; exact ⟨rfl, rfl⟩))
    (fun os started H enc _ => lifted os started H enc)

/-- THE STATEMENT. -/
theorem proved : Rows.FnExactNewPaceSaid :=
  over
end Go.Proofs.Ytbmfnkdcbdkcdaa.fnExactNewPace
namespace Go.Proofs.Ytbmfnkdcbdkcdaa
theorem fnExactNewPace_holds : Rows.FnExactNewPaceSaid := fnExactNewPace.proved
#print axioms fnExactNewPace_holds
end Go.Proofs.Ytbmfnkdcbdkcdaa
