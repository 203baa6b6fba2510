/- At every list of roads the program's Safest answers as the specification's Safest and leaves the list as it was (lists of more than 2^20 roads the law itself lets by), so FnExactSafest returns true; no condition. (Its frame is the guide's shell; the walk is mine.) -/
import Derived.Test.YtnfdomgibkdkcaaRows
import Derived.Test.YtnfdomgibkdkcaaChoQ
import Derived.Test.YtnfdomgibkdkcaaLawRq
import Derived.WalkKit
import Derived.ProofKit
import Derived.OpenShut
import Derived.ShutString
import Derived.ChangeOld
import Derived.Below
import Derived.Test.YtnfdomgibkdkcaaShape
namespace Go.Proofs.Ytnfdomgibkdkcaa.fnExactSafest
open Go.ChangeShapes Go.WideShapes Go.ChangeAt Go.RowKit
open Go.ChangeMaps (open_string shut_string)
set_option linter.unusedVariables false
set_option linter.unusedSimpArgs false

theorem own : ownKnob Try.prog.godebug = none := by kernel_rfl
theorem laidOut : laidOutB Try.prog = true := by kernel_rfl

set_option linter.unusedSimpArgs false in
set_option maxRecDepth 20000 in
set_option maxHeartbeats 40000000 in
theorem walk (a0 : Option Addr) (len0 cap0 : Nat) (w : World) (w0 : Shp.Shape.Holds w (.slice (.struct (.cons (.bool) (.cons (.int .i64) (.cons (.int .i64) (.cons (.int .i64) (.nil))))))) [.slice a0 len0 cap0]) :
    Calls Try.prog 6 #[.slice a0 len0 cap0] w fun e w' => e = .returned (.bool true) ∧ Below w.heap.size w w' := by
  obtain ⟨l, rfl, hmax, hs, ha⟩ := Roa.roads_of w0
  clear w0
  by_cases h : l.length ≤ 1048576
  case neg =>
    have hif : Hid ((if (1048576 : Int) < (l.length : Int) then (-1 : Int) else 1048576 - (l.length : Int)) = -1) := if_pos (by omega)
    go_enter Try.func6, Try.ntmps6
    go_wp2_with fail
    refine (Roa.szRoadS a0 _ cap0 _ _ hmax (by decide) (by decide)).mono ?_
    rintro x w1 ⟨rfl, rfl⟩
    rw [hif.out]
    go_wp2_with fail
    go_ret
    exact ⟨rfl, Below.refl _ _⟩
  have hif : Hid ((if (1048576 : Int) < (l.length : Int) then (-1 : Int) else 1048576 - (l.length : Int)) = 1048576 - (l.length : Int)) := if_neg (by omega)
  have hpos : ¬ (1048576 : Int) - (l.length : Int) < 0 := by omega
  have hl : l.length ≤ 2097152 := by omega
  have hl4 : l.length ≤ 4194304 := by omega
  go_enter Try.func6, Try.ntmps6
  go_wp2_with fail
  refine (Roa.szRoadS a0 _ cap0 _ _ hmax (by decide) (by decide)).mono ?_
  rintro x w1 ⟨rfl, rfl⟩
  rw [hif.out]
  go_wp2_with fail
  refine (Roa.toRoadS _ _ _ l _ rfl hs hl).mono ?_
  rintro x w1 ⟨g1, c1, rfl, o1, b1⟩
  go_wp2_with fail
  refine (Roa.specSafest _ _ _ l _ rfl o1.lies hl).mono ?_
  rintro x w2 ⟨rfl, b2⟩
  have B2 := b1.trans (b2.mono b1.size)
  clear b1 b2 o1
  go_wp2_with fail
  refine (Roa.toRoadS _ _ _ l _ rfl (hs.later B2) hl).mono ?_
  rintro x w3 ⟨g3, c3, rfl, o3, b3⟩
  have B3 := B2.trans (b3.mono B2.size)
  clear b3 B2
  go_wp2_with fail
  refine (Roa.implSafest _ _ _ l _ rfl o3.lies hl).mono ?_
  rintro x w4 ⟨rfl, b4⟩
  have B4 := B3.trans (b4.mono B3.size)
  have o4 := o3.later b4
  clear b4 B3 o3
  generalize Roa.best Roa.saB l = q
  go_wp2_with fail
  refine (Roa.toRoadS _ _ _ l _ rfl (hs.later B4) hl).mono ?_
  rintro x w5 ⟨g5, c5, rfl, o5, b5⟩
  have B5 := B4.trans (b5.mono B4.size)
  go_wp2_with fail
  refine (Roa.eqRoadS _ _ _ _ _ _ l l _ rfl rfl (o4.later b5).lies o5.lies hl4 hl4).mono ?_
  rintro x w6 ⟨rfl, b6⟩
  rw [decide_eq_true rfl]
  go_wp2_with fail
  go_ret
  exact ⟨rfl, B5.trans (b6.mono B5.size)⟩

set_option maxRecDepth 100000 in
theorem lifted (os : Os) (started : os.Started) (H : Type) (enc : TypeId × Value → H) :
    ReturnsInHanded {} Try.checked os 6 .any (Rows.fnExactSafestSpec.pre6 enc Try.prog Try.f6 Rows.fnExactSafestRow.domain false) (Rows.fnExactSafestSpec.post enc Try.prog Try.f6 false true false false) := by
  refine returnsInHanded_of_change (C := Try.checked) own started (by kernel_rfl) Try.func6
    (ChangeSpec.witness6 (enc := enc) (C := Try.checked) false ⟨#[], #[.slice none 0 0], []⟩ 8 (by kernel_rfl) (by kernel_rfl) (by kernel_rfl) (by kernel_rfl)) ?_
  intro W base args ds gs before hval0 hW hcnd _
  have hval : ∀ (j : Nat) t v, Try.f6.params[j]? = some t → args[j]? = some v → Value.okWide Try.prog W .any base t v := hval0
  have hW' := hW
  obtain ⟨p, q, hA0, hV, rfl, hfz, hnd⟩ := hW
  have hA : DataW.TrodAll enc Try.prog W 0 (fun _ => true) true Try.f6.params.toList args.toList ds p := hA0
  rw [Try.params6] at hA hval
  obtain ⟨v0, vs0, d0, ds0, p0, q0, hargs, rfl, rfl, h0, r0⟩ := trodAll_cons hA
  obtain ⟨rfl, rfl, rfl⟩ := trodAll_nil r0
  obtain rfl : args = #[v0] := by cases args; simp_all
  obtain ⟨rfl, rfl⟩ := trodVars_none hV
  obtain ⟨a0, len0, cap0, rfl⟩ := okWide_slice Try.underlying37 (hval 0 37 v0 rfl rfl)
  have k0 := h0
  have lt0 : ∀ x ∈ p0, x.block < W.heap.size := by obtain ⟨m, hm⟩ := k0; exact DataW.trod_lt m _ _ _ hm
  have w0 : Shp.Shape.Holds W (.slice (.struct (.cons (.bool) (.cons (.int .i64) (.cons (.int .i64) (.cons (.int .i64) (.nil))))))) [.slice a0 len0 cap0] := by obtain ⟨fuel, hf⟩ := h0; exact (Shp.Shape.reads _ (by kernel_rfl) hf).1
  clear hA0 hval0
  refine (walk a0 len0 cap0 W w0).mono fun e W' ⟨he, bel⟩ => ?_
  subst he
  exact ⟨_, rfl, _, _, _, [], _, [], hW', (trodAll_cons_mk (shut_bool Try.underlying4 _) trodAll_mk0), (trodAll_cons_mk (Below.trod laidOut (by kernel_rfl) (of_decide_eq_true (by kernel_rfl)) k0 bel lt0) trodAll_mk0), rfl, bel.frame _, fun h => by cases h⟩

theorem over : Rows.fnExactSafestRow.holds Try.pinned (OpenSpec.ofChange Rows.fnExactSafestSpec) :=
  OpenClaim.holds_of_wide 6 Try.f6 rfl rfl rfl rfl rfl rfl rfl ⟨rfl, rfl, rfl, rfl, rfl⟩ rfl rfl rfl rfl rfl (by kernel_rfl) Try.func6 (by kernel_rfl)
    (of_decide_eq_true (by kernel_rfl)) (by unfold Func.isWrapper; first | (rw [if_pos (by decide +kernel)]; kernel_rfl) | (rw [if_neg (by decide +kernel)]; exact ⟨rfl, rfl⟩))
    (fun os started H enc _ => lifted os started H enc)

/-- THE STATEMENT. -/
theorem proved : Rows.FnExactSafestSaid := over
end Go.Proofs.Ytnfdomgibkdkcaa.fnExactSafest
namespace Go.Proofs.Ytnfdomgibkdkcaa
theorem fnExactSafest_holds : Rows.FnExactSafestSaid := fnExactSafest.proved
#print axioms fnExactSafest_holds
end Go.Proofs.Ytnfdomgibkdkcaa
