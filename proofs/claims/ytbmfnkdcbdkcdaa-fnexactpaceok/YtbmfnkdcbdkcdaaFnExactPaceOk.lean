/- At every pace the program's PaceOk answers as the specification's PaceOk, so FnExactPaceOk returns true; no condition. (Its frame is the guide's shell; the walk is mine.) -/
import Derived.Test.YtbmfnkdcbdkcdaaRows
import Derived.Test.YtbmfnkdcbdkcdaaPacP
import Derived.Test.YtbmfnkdcbdkcdaaLawP
import Derived.WalkKit
import Derived.ProofKit
import Derived.OpenShut
import Derived.ShutString
import Derived.ChangeOld
import Derived.Below
import Derived.Test.YtbmfnkdcbdkcdaaShape
namespace Go.Proofs.Ytbmfnkdcbdkcdaa.fnExactPaceOk
open Go.ChangeShapes Go.WideShapes Go.ChangeAt Go.RowKit
open Go.ChangeMaps (open_string shut_string)
set_option linter.unusedVariables false
set_option linter.unusedSimpArgs false

theorem own : ownKnob Try.prog.godebug = none := by kernel_rfl
theorem laidOut : laidOutB Try.prog = true := by kernel_rfl

set_option linter.unusedSimpArgs false in
set_option maxRecDepth 20000 in
set_option maxHeartbeats 4000000 in
theorem walk (cs0 : Array Value) (w : World) (w0 : Shp.Shape.Holds w (.struct (.cons (.int .i64) (.cons (.int .i64) (.cons (.int .i64) (.cons (.int .i64) (.nil)))))) cs0.toList) :
    Calls Try.prog 5 #[.agg cs0] w fun e w' => e = .returned (.bool true) ∧ Below w.heap.size w w' := by
  obtain ⟨p, rfl⟩ := Pac.pace_of w0
  clear w0
  have hT := fun w' => Pac.toPace p w'
  have hS := fun w' => Pac.specPaceOk p w'
  have hI := fun w' => Pac.implPaceOk p w'
  generalize Pac.paceB p = q at *
  obtain ⟨mn, sp, wt, tm⟩ := p
  dsimp only [Pac.Pc.v] at *
  have v0 : RowG.Var 34 (w.alloc (.cells #[.int .i64 mn, .int .i64 sp, .int .i64 wt, .int .i64 tm] 34)) w.heap.size [.int .i64 mn, .int .i64 sp, .int .i64 wt, .int .i64 tm] := RowG.Var.new w _
  have b0 : Below w.heap.size w (w.alloc (.cells #[.int .i64 mn, .int .i64 sp, .int .i64 wt, .int .i64 tm] 34)) := (Below.refl _ _).alloc (Nat.le_refl _) _
  go_enter Try.func5, Try.ntmps5
  go_upto_region 1 with (fail)
  generalize w.alloc (.cells #[.int .i64 mn, .int .i64 sp, .int .i64 wt, .int .i64 tm] 34) = V at *
  have c0 := v0.cell (i := 0) rfl
  have c1 := v0.cell (i := 1) rfl
  have c2 := v0.cell (i := 2) rfl
  have c3 := v0.cell (i := 3) rfl
  go_wp2_with fail
  refine (hT _).mono ?_
  rintro x w1 ⟨rfl, hB1⟩
  have v1 := v0.later hB1
  have B1 := b0.trans (hB1.mono b0.size)
  clear v0 b0 hB1 c0 c1 c2 c3
  go_wp2_with fail
  refine (hS _).mono ?_
  rintro x w2 ⟨rfl, hB2⟩
  have v2 := v1.later hB2
  have B2 := B1.trans (hB2.mono B1.size)
  clear v1 B1 hB2 hS
  go_upto_region 2 with (fail)
  have c0 := v2.cell (i := 0) rfl
  have c1 := v2.cell (i := 1) rfl
  have c2 := v2.cell (i := 2) rfl
  have c3 := v2.cell (i := 3) rfl
  go_wp2_with fail
  refine (hT _).mono ?_
  rintro x w3 ⟨rfl, hB3⟩
  have B3 := B2.trans (hB3.mono B2.size)
  clear v2 B2 hB3 hT c0 c1 c2 c3
  go_wp2_with fail
  refine (hI _).mono ?_
  rintro x w4 ⟨rfl, hB4⟩
  have B4 := B3.trans (hB4.mono B3.size)
  clear B3 hB4 hI
  cases q
  all_goals
    go_wp2_with fail
    go_ret
    exact ⟨rfl, B4⟩

set_option maxRecDepth 100000 in
theorem lifted (os : Os) (started : os.Started) (H : Type) (enc : TypeId × Value → H) :
    ReturnsInHanded {} Try.checked os 5 .any (Rows.fnExactPaceOkSpec.pre6 enc Try.prog Try.f5 Rows.fnExactPaceOkRow.domain false) (Rows.fnExactPaceOkSpec.post enc Try.prog Try.f5 false true false false) := by
  refine returnsInHanded_of_change (C := Try.checked) own started (by kernel_rfl) Try.func5
    (ChangeSpec.witness6 (enc := enc) (C := Try.checked) false ⟨#[], #[.agg #[.int .i64 0, .int .i64 0, .int .i64 0, .int .i64 0]], []⟩ 8 (by kernel_rfl) (by kernel_rfl) (by kernel_rfl) (by kernel_rfl)) ?_
  intro W base args ds gs before hval0 hW hcnd _
  have hval : ∀ (j : Nat) t v, Try.f5.params[j]? = some t → args[j]? = some v → Value.okWide Try.prog W .any base t v := hval0
  have hW' := hW
  obtain ⟨p, q, hA0, hV, rfl, hfz, hnd⟩ := hW
  have hA : DataW.TrodAll enc Try.prog W 0 (fun _ => true) true Try.f5.params.toList args.toList ds p := hA0
  rw [Try.params5] at hA hval
  obtain ⟨v0, vs0, d0, ds0, p0, q0, hargs, rfl, rfl, h0, r0⟩ := trodAll_cons hA
  obtain ⟨rfl, rfl, rfl⟩ := trodAll_nil r0
  obtain rfl : args = #[v0] := by cases args; simp_all
  obtain ⟨rfl, rfl⟩ := trodVars_none hV
  obtain ⟨cs0, rfl, _⟩ := okWide_struct Try.underlying34 (hval 0 34 v0 rfl rfl)
  have k0 := h0
  have lt0 : ∀ x ∈ p0, x.block < W.heap.size := by obtain ⟨m, hm⟩ := k0; exact DataW.trod_lt m _ _ _ hm
  have w0 : Shp.Shape.Holds W (.struct (.cons (.int .i64) (.cons (.int .i64) (.cons (.int .i64) (.cons (.int .i64) (.nil)))))) cs0.toList := by obtain ⟨fuel, hf⟩ := h0; exact (Shp.Shape.reads _ (by kernel_rfl) hf).1
  clear hA0 hval0
  refine (walk cs0 W w0).mono fun e W' ⟨he, bel⟩ => ?_
  subst he
  exact ⟨_, rfl, _, _, _, [], _, [], hW', (trodAll_cons_mk (shut_bool Try.underlying4 _) trodAll_mk0), (trodAll_cons_mk (Below.trod laidOut (by kernel_rfl) (of_decide_eq_true (by kernel_rfl)) k0 bel lt0) trodAll_mk0), rfl, bel.frame _, fun h => by cases h⟩

theorem over : Rows.fnExactPaceOkRow.holds Try.pinned (OpenSpec.ofChange Rows.fnExactPaceOkSpec) :=
  OpenClaim.holds_of_wide 5 Try.f5 rfl rfl rfl rfl rfl rfl rfl ⟨rfl, rfl, rfl, rfl, rfl⟩ rfl rfl rfl rfl rfl (by kernel_rfl) Try.func5 (by kernel_rfl)
    (of_decide_eq_true (by kernel_rfl)) (by unfold Func.isWrapper; first | (rw [if_pos (by decide +kernel)]; kernel_rfl) | (rw [if_neg (by decide +kernel)]; exact ⟨rfl, rfl⟩))
    (fun os started H enc _ => lifted os started H enc)

/-- THE STATEMENT. -/
theorem proved : Rows.FnExactPaceOkSaid := over
end Go.Proofs.Ytbmfnkdcbdkcdaa.fnExactPaceOk
namespace Go.Proofs.Ytbmfnkdcbdkcdaa
theorem fnExactPaceOk_holds : Rows.FnExactPaceOkSaid := fnExactPaceOk.proved
#print axioms fnExactPaceOk_holds
end Go.Proofs.Ytbmfnkdcbdkcdaa
