/- At every list of roads the program's OpenOnes answers as the specification's OpenOnes, in memory of its own, behind another call too, and leaves the list as it was (lists of more than 2^20 roads the law itself lets by), so FnExactOpenOnes returns true; no condition. (Its frame is the guide's shell; the walk is mine.) -/
import Derived.Test.YtocdcmglkceohaaRows
import Derived.Test.YtocdcmglkceohaaRoaT
import Derived.Test.YtocdcmglkceohaaLawRq
import Derived.WalkKit
import Derived.ProofKit
import Derived.OpenShut
import Derived.ShutString
import Derived.ChangeOld
import Derived.Below
import Derived.Test.YtocdcmglkceohaaShape
namespace Go.Proofs.Ytocdcmglkceohaa.fnExactOpenOnes
open Go.ChangeShapes Go.WideShapes Go.ChangeAt Go.RowKit
open Go.ChangeMaps (open_string shut_string)
set_option linter.unusedVariables false
set_option linter.unusedSimpArgs false

theorem own : ownKnob Try.prog.godebug = none := by kernel_rfl
theorem laidOut : laidOutB Try.prog = true := by kernel_rfl

set_option linter.unusedSimpArgs false in
set_option maxRecDepth 20000 in
set_option maxHeartbeats 4000000 in
theorem walk (a0 : Option Addr) (len0 cap0 : Nat) (w : World) (w0 : Shp.Shape.Holds w (.slice (.struct (.cons (.bool) (.cons (.int .i64) (.cons (.int .i64) (.cons (.int .i64) (.nil))))))) [.slice a0 len0 cap0]) :
    Calls Try.prog 7 #[.slice a0 len0 cap0] w fun e w' => e = .returned (.bool true) ∧ Below w.heap.size w w' := by
  obtain ⟨l, rfl, hmax, hs, ha⟩ := Roa.roads_of w0
  clear w0
  by_cases h : l.length ≤ 1048576
  case neg =>
    have hif : Hid ((if (1048576 : Int) < (l.length : Int) then (-1 : Int) else 1048576 - (l.length : Int)) = -1) := if_pos (by omega)
    go_enter Try.func7, Try.ntmps7
    go_wp2_with fail
    refine (Roa.szRoadS a0 _ cap0 _ _ hmax (by decide) (by decide)).mono ?_
    rintro x w1 ⟨rfl, rfl⟩
    rw [hif.out]
    go_wp2_with fail
    go_ret
    exact ⟨rfl, Below.refl _ _⟩
  have hif : Hid ((if (1048576 : Int) < (l.length : Int) then (-1 : Int) else 1048576 - (l.length : Int)) = 1048576 - (l.length : Int)) := if_neg (by omega)
  have hpos : ¬ (1048576 : Int) - (l.length : Int) < 0 := by omega
  have hl : l.length ≤ 2097152 := by omega
  have hl4 : l.length ≤ 4194304 := by omega
  have HC : Hid ((Roa.openL l).length ≤ 4) := Roa.openL_len l
  go_enter Try.func7, Try.ntmps7
  go_wp2_with fail
  refine (Roa.szRoadS a0 _ cap0 _ _ hmax (by decide) (by decide)).mono ?_
  rintro x w1 ⟨rfl, rfl⟩
  rw [hif.out]
  go_wp2_with fail
  refine (Roa.toRoadS _ _ _ l _ rfl hs hl).mono ?_
  rintro x w1 ⟨g1, c1, rfl, o1, b1⟩
  go_wp2_with fail
  refine (Roa.specOpenOnes _ _ _ l _ rfl o1.lies hl).mono ?_
  rintro x w2 ⟨g2, c2, rfl, o2, b2⟩
  have B2 := b1.trans (b2.mono b1.size)
  clear b1 b2 o1
  go_wp2_with fail
  refine (Roa.toRoadS _ _ _ l _ rfl (hs.later B2) hl).mono ?_
  rintro x w3 ⟨g3, c3, rfl, o3, b3⟩
  have B3 := B2.trans (b3.mono B2.size)
  have n23 : g2 < g3 := by have := o2.lt; have := o3.lt; omega
  have n3 : w.heap.size ≤ g3 := Nat.le_trans B2.size o3.lt.1
  have o2 := o2.later b3
  clear b3 B2
  go_wp2_with fail
  refine (Roa.implOpenOnes _ _ _ l _ rfl o3.lies hl).mono ?_
  rintro x w4 ⟨g4, c4, rfl, o4, b4⟩
  have B4 := B3.trans (b4.mono B3.size)
  have n34 : g3 < g4 := by have := o3.lt; have := o4.lt; omega
  have o2 := o2.later b4
  have o3 := o3.later b4
  clear b4 B3
  generalize hq : Roa.openL l = C at *
  have HQ : Hid (Roa.openL l = C) := hq
  clear hq
  have hC := HC.out
  have hC4 : C.length ≤ 4194304 := by omega
  go_wp2_with fail
  refine (Roa.eqInts _ _ _ _ _ _ _ _ C _ rfl rfl o4 o2 hC4).mono ?_
  rintro x w5 ⟨rfl, b5⟩
  have B5 := B4.trans (b5.mono B4.size)
  have o2 := o2.later b5
  have o3 := o3.later b5
  have o4 := o4.later b5
  clear b5 B4
  go_wp2_with fail
  refine (Roa.toRoadS _ _ _ l _ rfl (hs.later B5) hl).mono ?_
  rintro x w6 ⟨g6, c6, rfl, o6, b6⟩
  have B6 := B5.trans (b6.mono B5.size)
  have o2 := o2.later b6
  have o3 := o3.later b6
  have o4 := o4.later b6
  clear b6 B5
  go_wp2_with fail
  refine (Roa.eqRoadS _ _ _ _ _ _ l l _ rfl rfl o3.lies o6.lies hl4 hl4).mono ?_
  rintro x w7 ⟨rfl, b7⟩
  rw [decide_eq_true rfl]
  have B7 := B6.trans (b7.mono B6.size)
  have o2 := o2.later b7
  have o3 := o3.later b7
  have o4 := o4.later b7
  clear b7 B6 o6
  go_wp2_with fail
  refine (Roa.markRoadS _ _ _ _ l _ _ rfl o3 hl4 (by decide) (by decide)).mono ?_
  rintro x w8 ⟨rfl, o3', k8⟩
  have B8 := B7.trans (k8.below n3 B7.size)
  have o2 := o2.other k8 (by omega)
  have o4 := o4.other k8 (by omega)
  clear k8 B7 o3 o3'
  have i8 : ¬ (1 : Int) + 4 * (l.length : Int) < 0 := by omega
  go_wp2_with fail
  refine (Roa.eqInts _ _ _ _ _ _ _ _ C _ rfl rfl o4 o2 hC4).mono ?_
  rintro x w9 ⟨rfl, b9⟩
  have B9 := B8.trans (b9.mono B8.size)
  have o2 := o2.later b9
  have o4 := o4.later b9
  clear b9 B8 i8
  go_wp2_with fail
  refine (Roa.markInts _ _ _ _ C _ _ rfl o4 hC4 (by decide) (by decide)).mono ?_
  rintro x wA ⟨rfl, oA, kA⟩
  have BA := B9.trans (kA.below (by omega) B9.size)
  have o2 := o2.other kA (by omega)
  clear kA B9 o4
  go_wp2_with fail
  refine (Roa.heldInts _ _ _ _ C.length _ _ rfl oA hC4 (by decide) (by decide)).mono ?_
  rintro x wB ⟨rfl, rfl⟩
  have iA : ¬ (1 : Int) + (C.length : Int) < 0 := by omega
  go_wp2_with fail
  refine (Roa.toRoadS _ _ _ l _ rfl (hs.later BA) hl).mono ?_
  rintro x wB ⟨gB, cB, rfl, oB, bB⟩
  have BB := BA.trans (bB.mono BA.size)
  have o2 := o2.later bB
  have oA := oA.later bB
  clear bB BA
  go_wp2_with fail
  refine (Roa.implOpenOnes _ _ _ l _ rfl oB.lies hl).mono ?_
  rintro x wC ⟨gC, cC, rfl, oC, bC⟩
  rw [HQ.out] at oC ⊢
  have BC := BB.trans (bC.mono BB.size)
  have o2 := o2.later bC
  have oA := oA.later bC
  clear bC BB oB
  go_wp2_with fail
  refine (Roa.eqInts _ _ _ _ _ _ _ _ C _ rfl rfl oC o2 hC4).mono ?_
  rintro x wD ⟨rfl, bD⟩
  have BD := BC.trans (bD.mono BC.size)
  have oA := oA.later bD
  clear bD BC o2 oC
  go_wp2_with fail
  refine (Roa.heldInts _ _ _ _ C.length _ _ rfl oA hC4 (by decide) (by decide)).mono ?_
  rintro x wE ⟨rfl, rfl⟩
  go_wp2_with fail
  go_ret
  exact ⟨rfl, BD⟩

set_option maxRecDepth 100000 in
theorem lifted (os : Os) (started : os.Started) (H : Type) (enc : TypeId × Value → H) :
    ReturnsInHanded {} Try.checked os 7 .any (Rows.fnExactOpenOnesSpec.pre6 enc Try.prog Try.f7 Rows.fnExactOpenOnesRow.domain false) (Rows.fnExactOpenOnesSpec.post enc Try.prog Try.f7 false true false false) := by
  refine returnsInHanded_of_change (C := Try.checked) own started (by kernel_rfl) Try.func7
    (ChangeSpec.witness6 (enc := enc) (C := Try.checked) false ⟨#[], #[.slice none 0 0], []⟩ 8 (by kernel_rfl) (by kernel_rfl) (by kernel_rfl) (by kernel_rfl)) ?_
  intro W base args ds gs before hval0 hW hcnd _
  have hval : ∀ (j : Nat) t v, Try.f7.params[j]? = some t → args[j]? = some v → Value.okWide Try.prog W .any base t v := hval0
  have hW' := hW
  obtain ⟨p, q, hA0, hV, rfl, hfz, hnd⟩ := hW
  have hA : DataW.TrodAll enc Try.prog W 0 (fun _ => true) true Try.f7.params.toList args.toList ds p := hA0
  rw [Try.params7] at hA hval
  obtain ⟨v0, vs0, d0, ds0, p0, q0, hargs, rfl, rfl, h0, r0⟩ := trodAll_cons hA
  obtain ⟨rfl, rfl, rfl⟩ := trodAll_nil r0
  obtain rfl : args = #[v0] := by cases args; simp_all
  obtain ⟨rfl, rfl⟩ := trodVars_none hV
  obtain ⟨a0, len0, cap0, rfl⟩ := okWide_slice Try.underlying39 (hval 0 39 v0 rfl rfl)
  have k0 := h0
  have lt0 : ∀ x ∈ p0, x.block < W.heap.size := by obtain ⟨m, hm⟩ := k0; exact DataW.trod_lt m _ _ _ hm
  have w0 : Shp.Shape.Holds W (.slice (.struct (.cons (.bool) (.cons (.int .i64) (.cons (.int .i64) (.cons (.int .i64) (.nil))))))) [.slice a0 len0 cap0] := by obtain ⟨fuel, hf⟩ := h0; exact (Shp.Shape.reads _ (by kernel_rfl) hf).1
  clear hA0 hval0
  refine (walk a0 len0 cap0 W w0).mono fun e W' ⟨he, bel⟩ => ?_
  subst he
  exact ⟨_, rfl, _, _, _, [], _, [], hW', (trodAll_cons_mk (shut_bool Try.underlying4 _) trodAll_mk0), (trodAll_cons_mk (Below.trod laidOut (by kernel_rfl) (of_decide_eq_true (by kernel_rfl)) k0 bel lt0) trodAll_mk0), rfl, bel.frame _, fun h => by cases h⟩

theorem over : Rows.fnExactOpenOnesRow.holds Try.pinned (OpenSpec.ofChange Rows.fnExactOpenOnesSpec) :=
  OpenClaim.holds_of_wide 7 Try.f7 rfl rfl rfl rfl rfl rfl rfl ⟨rfl, rfl, rfl, rfl, rfl⟩ rfl rfl rfl rfl rfl (by kernel_rfl) Try.func7 (by kernel_rfl)
    (of_decide_eq_true (by kernel_rfl)) (by unfold Func.isWrapper; first | (rw [if_pos (by decide +kernel)]; kernel_rfl) | (rw [if_neg (by decide +kernel)]; exact ⟨rfl, rfl⟩))
    (fun os started H enc _ => lifted os started H enc)

/-- THE STATEMENT. -/
theorem proved : Rows.FnExactOpenOnesSaid := over
end Go.Proofs.Ytocdcmglkceohaa.fnExactOpenOnes
namespace Go.Proofs.Ytocdcmglkceohaa
theorem fnExactOpenOnes_holds : Rows.FnExactOpenOnesSaid := fnExactOpenOnes.proved
#print axioms fnExactOpenOnes_holds
end Go.Proofs.Ytocdcmglkceohaa
