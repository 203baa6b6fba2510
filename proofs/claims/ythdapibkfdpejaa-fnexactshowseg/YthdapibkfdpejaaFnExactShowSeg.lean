/- At every letter the program's ShowSeg answers as the specification's ShowSeg (letters of more than 2^20 bytes the law itself lets by), so FnExactShowSeg returns true; no condition. (Its frame is the guide's shell; the walk is mine.) -/
import Derived.Test.YthdapibkfdpejaaRows
import Derived.Test.YthdapibkfdpejaaSegQ
import Derived.Test.YthdapibkfdpejaaLawL
import Derived.WalkKit
import Derived.ProofKit
import Derived.OpenShut
import Derived.ShutString
import Derived.ChangeOld
import Derived.Below
import Derived.Test.YthdapibkfdpejaaShape
namespace Go.Proofs.Ythdapibkfdpejaa.fnExactShowSeg
open Go.ChangeShapes Go.WideShapes Go.ChangeAt Go.RowKit
open Go.ChangeMaps (open_string shut_string)
set_option linter.unusedVariables false

theorem own : ownKnob Try.prog.godebug = none := by kernel_rfl
theorem laidOut : laidOutB Try.prog = true := by kernel_rfl

set_option maxHeartbeats 4000000 in
theorem walk (cs0 : Array Value) (w : World) (w0 : Shp.Shape.Holds w (.struct (.cons (.int .i64) (.cons (.int .i64) (.cons (.str) (.cons (.bool) (.cons (.int .i64) (.cons (.int .i64) (.nil)))))))) cs0.toList) :
    Calls Try.prog 5 #[.agg cs0] w fun e w' => e = .returned (.bool true) ∧ Below w.heap.size w w' := by
  obtain ⟨f, t, b, e, a, r, rfl, hb⟩ := Seg.seg_of w0
  clear w0
  by_cases h : (b.size : Int) ≤ 1048576
  · have hs : b.size ≤ 1048576 := by omega
    have hif : Hid ((if (1048576 : Int) < (b.size : Int) then (-1 : Int) else 1048576 - (b.size : Int)) = 1048576 - (b.size : Int)) := if_neg (by omega)
    have hpos : ¬ (1048576 : Int) - (b.size : Int) < 0 := by omega
    go_enter Try.func5, Try.ntmps5
    go_wp2_with fail
    refine (Seg.szSeg f t b e a r _ _ hb (by decide) (by decide)).mono ?_
    rintro x w1 ⟨rfl, hB1⟩
    rw [hif.out]
    obtain ⟨c0, c1, c2, c3, c4, c5⟩ := Seg.agg6 hB1
    have hB01 : Below w.heap.size w w1 := ((Below.refl _ _).alloc (Nat.le_refl _) _).trans (hB1.mono (by simp))
    have HB1 : Hid (Below (w.heap.size + 1) _ w1) := hB1.mono (by simp)
    clear hB1
    go_wp2_with fail
    refine (Seg.toSeg f t b e a r _).mono ?_
    rintro x w2 ⟨rfl, hB2⟩
    have hB02 : Below w.heap.size w w2 := hB01.trans (hB2.mono hB01.size)
    go_wp2_with fail
    refine (Seg.specShowSeg f t b e a r _ hs).mono ?_
    rintro x w3 ⟨rfl, hB3⟩
    have hB03 : Below w.heap.size w w3 := hB02.trans (hB3.mono hB02.size)
    have hlt : w.heap.size < w1.heap.size := by have := HB1.out.size; simp at this; omega
    have hB13 : Below w1.heap.size w1 w3 := hB2.trans (hB3.mono hB2.size)
    have k0 := (hB13.cell (p := ⟨w.heap.size, 0, none⟩) hlt).trans c0
    have k1 := (hB13.cell (p := ⟨w.heap.size, 1, none⟩) hlt).trans c1
    have k2 := (hB13.cell (p := ⟨w.heap.size, 2, none⟩) hlt).trans c2
    have k3 := (hB13.cell (p := ⟨w.heap.size, 3, none⟩) hlt).trans c3
    have k4 := (hB13.cell (p := ⟨w.heap.size, 4, none⟩) hlt).trans c4
    have k5 := (hB13.cell (p := ⟨w.heap.size, 5, none⟩) hlt).trans c5
    clear hB01 hB02 hB2 hB3 HB1 hB13 c0 c1 c2 c3 c4 c5
    generalize hq : Seg.showSegL f t b.data.toList e a r = q
    have HQ : Hid _ := hq
    clear hq
    go_wp2_with fail
    refine (Seg.toSeg f t b e a r _).mono ?_
    rintro x w4 ⟨rfl, hB4⟩
    have hB04 : Below w.heap.size w w4 := hB03.trans (hB4.mono hB03.size)
    clear hB4 hB03
    go_wp2_with fail
    refine (Seg.implShowSeg f t b e a r _ hs).mono ?_
    rintro x w5 ⟨rfl, hB5⟩
    have hB05 : Below w.heap.size w w5 := hB04.trans (hB5.mono hB04.size)
    rw [HQ.out]
    clear hB5 hB04
    go_wp2_with fail
    go_ret
    exact ⟨rfl, hB05⟩
  · have hif : Hid ((if (1048576 : Int) < (b.size : Int) then (-1 : Int) else 1048576 - (b.size : Int)) = -1) := if_pos (by omega)
    go_enter Try.func5, Try.ntmps5
    go_wp2_with fail
    refine (Seg.szSeg f t b e a r _ _ hb (by decide) (by decide)).mono ?_
    rintro x w1 ⟨rfl, hB1⟩
    rw [hif.out]
    go_wp2_with fail
    go_ret
    exact ⟨rfl, ((Below.refl _ _).alloc (Nat.le_refl _) _).trans (hB1.mono (by simp))⟩

set_option maxRecDepth 100000 in
theorem lifted (os : Os) (started : os.Started) (H : Type) (enc : TypeId × Value → H) :
    ReturnsInHanded {} Try.checked os 5 .any (Rows.fnExactShowSegSpec.pre6 enc Try.prog Try.f5 Rows.fnExactShowSegRow.domain false) (Rows.fnExactShowSegSpec.post enc Try.prog Try.f5 false true false false) := by
  refine returnsInHanded_of_change (C := Try.checked) own started (by kernel_rfl) Try.func5
    (ChangeSpec.witness6 (enc := enc) (C := Try.checked) false ⟨#[], #[.agg #[.int .i64 0, .int .i64 0, .string ByteArray.empty, .bool false, .int .i64 0, .int .i64 0]], []⟩ 8 (by kernel_rfl) (by kernel_rfl) (by kernel_rfl) (by kernel_rfl)) ?_
  intro W base args ds gs before hval0 hW hcnd _
  have hval : ∀ (j : Nat) t v, Try.f5.params[j]? = some t → args[j]? = some v → Value.okWide Try.prog W .any base t v := hval0
  have hW' := hW
  obtain ⟨p, q, hA0, hV, rfl, hfz, hnd⟩ := hW
  have hA : DataW.TrodAll enc Try.prog W 0 (fun _ => true) true Try.f5.params.toList args.toList ds p := hA0
  rw [Try.params5] at hA hval
  obtain ⟨v0, vs0, d0, ds0, p0, q0, hargs, rfl, rfl, h0, r0⟩ := trodAll_cons hA
  obtain ⟨rfl, rfl, rfl⟩ := trodAll_nil r0
  obtain rfl : args = #[v0] := by cases args; simp_all
  obtain ⟨rfl, rfl⟩ := trodVars_none hV
  obtain ⟨cs0, rfl, _⟩ := okWide_struct Try.underlying31 (hval 0 31 v0 rfl rfl)
  have k0 := h0
  have lt0 : ∀ x ∈ p0, x.block < W.heap.size := by obtain ⟨m, hm⟩ := k0; exact DataW.trod_lt m _ _ _ hm
  have w0 : Shp.Shape.Holds W (.struct (.cons (.int .i64) (.cons (.int .i64) (.cons (.str) (.cons (.bool) (.cons (.int .i64) (.cons (.int .i64) (.nil)))))))) cs0.toList := by obtain ⟨fuel, hf⟩ := h0; exact (Shp.Shape.reads _ (by kernel_rfl) hf).1
  clear hA0 hval0
  refine (walk cs0 W w0).mono fun e W' ⟨he, bel⟩ => ?_
  subst he
  exact ⟨_, rfl, _, _, _, [], _, [], hW', (trodAll_cons_mk (shut_bool Try.underlying4 _) trodAll_mk0), (trodAll_cons_mk (Below.trod laidOut (by kernel_rfl) (of_decide_eq_true (by kernel_rfl)) k0 bel lt0) trodAll_mk0), rfl, bel.frame _, fun h => by cases h⟩

theorem over : Rows.fnExactShowSegRow.holds Try.pinned (OpenSpec.ofChange Rows.fnExactShowSegSpec) :=
  OpenClaim.holds_of_wide 5 Try.f5 rfl rfl rfl rfl rfl rfl rfl ⟨rfl, rfl, rfl, rfl, rfl⟩ rfl rfl rfl rfl rfl (by kernel_rfl) Try.func5 (by kernel_rfl)
    (of_decide_eq_true (by kernel_rfl)) (by unfold Func.isWrapper; first | (rw [if_pos (by decide +kernel)]; kernel_rfl) | (rw [if_neg (by decide +kernel)]; exact ⟨rfl, rfl⟩))
    (fun os started H enc _ => lifted os started H enc)

/-- THE STATEMENT. -/
theorem proved : Rows.FnExactShowSegSaid := over
end Go.Proofs.Ythdapibkfdpejaa.fnExactShowSeg
namespace Go.Proofs.Ythdapibkfdpejaa
theorem fnExactShowSeg_holds : Rows.FnExactShowSegSaid := fnExactShowSeg.proved
#print axioms fnExactShowSeg_holds
end Go.Proofs.Ythdapibkfdpejaa
