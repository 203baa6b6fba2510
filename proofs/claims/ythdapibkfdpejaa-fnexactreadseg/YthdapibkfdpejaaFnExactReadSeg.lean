/- At every text the program's ReadSeg answers as the specification's ReadSeg, field by field (texts longer than 2^20 bytes the law itself lets by), so FnExactReadSeg returns true; no condition. (Its frame is the guide's shell; the walk is mine.) -/
import Derived.Test.YthdapibkfdpejaaRows
import Derived.Test.YthdapibkfdpejaaSegS
import Derived.Test.YthdapibkfdpejaaLawL
import Derived.WalkKit
import Derived.ProofKit
import Derived.ChangeOld
import Derived.Below
import Derived.OpenShut
import Derived.ShutString
namespace Go.Proofs.Ythdapibkfdpejaa.fnExactReadSeg
open Go.ChangeShapes Go.WideShapes Go.ChangeAt Go.RowKit
open Go.ChangeMaps (open_string shut_string)
set_option linter.unusedVariables false      -- a walk need not use every 'w<i>' (that an integer argument fits its kind)

theorem own : ownKnob Try.prog.godebug = none := by kernel_rfl

/-! ### STEP 1: THE WALK: the Go text returns true. 'Grown w w'': the world has at most new blocks (Derived/RowKit3.lean). Part the cases AHEAD of 'go_enter' where a test parts the walk; take each callee by a contract of your own. -/
set_option maxHeartbeats 4000000 in
theorem walk (a0 : ByteArray) (w0 : a0.size ≤ maxLen) (w : World) :
    Calls Try.prog 6 #[.string a0] w fun e w' => e = .returned (.bool true) ∧ Below w.heap.size w w' := by
  unfold maxLen at w0
  by_cases h : a0.size ≤ 1048576
  · go_enter Try.func6, Try.ntmps6
    go_wp2_with fail
    refine (Seg.specReadSeg _ _ h).mono ?_
    rintro x w1 ⟨rfl, hB1⟩
    obtain ⟨f, t, b, e, a, r, hV⟩ := Seg.segV_six a0.data.toList
    rw [hV]
    generalize hq : Seg.rdL a0.data.toList = q
    have HV : Hid _ := hV
    have HQ : Hid _ := hq
    clear hV hq
    go_wp2_with fail
    refine (Seg.implReadSeg _ _ h).mono ?_
    rintro x w2 ⟨rfl, hB2⟩
    rw [HV.out, HQ.out]
    obtain ⟨c0, c1, c2, c3, c4, c5⟩ := Seg.agg6 hB2
    have hB02 : Below w.heap.size w w2 := (hB1.alloc hB1.size _).trans (hB2.mono (by have := hB1.size; simp; omega))
    have hlt : w1.heap.size < w2.heap.size := by have := hB2.size; simp at this; omega
    have hne : ¬ w1.heap.size = w2.heap.size := by omega
    have hne' : ¬ w2.heap.size = w1.heap.size := by omega
    clear hB1 hB2
    go_wp2_with fail
    refine (Seg.eqSegSame _ _ _ _ _ _ _).mono ?_
    rintro x w3 ⟨rfl, hB3⟩
    have hB03 : Below w.heap.size w w3 := (hB02.alloc hB02.size _).trans (hB3.mono (by have := hB02.size; simp; omega))
    clear hB02 hB3
    cases q
    · go_wp2_with fail
      go_ret
      exact ⟨rfl, hB03⟩
    · go_wp2_with fail
      go_ret
      exact ⟨rfl, hB03⟩
  · go_enter Try.func6, Try.ntmps6
    go_wp2_with fail
    go_ret
    exact ⟨rfl, Below.refl _ _⟩

/-! ### THE ROW's STEP: WRITTEN OUT: LEAVE IT -/
set_option maxRecDepth 100000 in
theorem lifted (os : Os) (started : os.Started) (H : Type) (enc : TypeId × Value → H) :
    ReturnsInHanded {} Try.checked os 6 .any (Rows.fnExactReadSegSpec.pre6 enc Try.prog Try.f6 Rows.fnExactReadSegRow.domain false) (Rows.fnExactReadSegSpec.post enc Try.prog Try.f6 false true false false) := by
  refine returnsInHanded_of_change (C := Try.checked) own started (by kernel_rfl) Try.func6
    (ChangeSpec.witness6 (enc := enc) (C := Try.checked) false ⟨#[], #[.string ByteArray.empty], []⟩ 8 (by kernel_rfl) (by kernel_rfl) (by kernel_rfl) (by kernel_rfl)) ?_
  intro W base args ds gs before hval0 hW hcnd _
  have hval : ∀ (j : Nat) t v, Try.f6.params[j]? = some t → args[j]? = some v → Value.okWide Try.prog W .any base t v := hval0
  have hW' := hW
  obtain ⟨p, q, hA0, hV, rfl, hfz, hnd⟩ := hW
  have hA : DataW.TrodAll enc Try.prog W 0 (fun _ => true) true Try.f6.params.toList args.toList ds p := hA0
  rw [Try.params6] at hA hval
  obtain ⟨v0, vs0, d0, ds0, p0, q0, hargs, rfl, rfl, h0, r0⟩ := trodAll_cons hA
  obtain ⟨rfl, rfl, rfl⟩ := trodAll_nil r0
  obtain rfl : args = #[v0] := by cases args; simp_all
  obtain ⟨rfl, rfl⟩ := trodVars_none hV
  obtain ⟨a0, rfl, rfl, rfl, w0⟩ := open_string Try.underlying9 (hval 0 9 v0 rfl rfl) h0
  clear hA0 hval0
  refine (walk a0 w0 W).mono fun e W' ⟨he, hg⟩ => ?_
  subst he
  exact ⟨_, rfl, _, _, _, [], _, [], hW', (trodAll_cons_mk (shut_bool Try.underlying4 _) trodAll_mk0), (trodAll_cons_mk (shut_string Try.underlying9 w0) trodAll_mk0), rfl, hg.frame _, fun h => by cases h⟩

theorem over : Rows.fnExactReadSegRow.holds Try.pinned (OpenSpec.ofChange Rows.fnExactReadSegSpec) :=
  OpenClaim.holds_of_wide 6 Try.f6 rfl rfl rfl rfl rfl rfl rfl ⟨rfl, rfl, rfl, rfl, rfl⟩ rfl rfl rfl rfl rfl (by kernel_rfl) Try.func6 (by kernel_rfl)
    (of_decide_eq_true (by kernel_rfl)) (by unfold Func.isWrapper; first | (rw [if_pos (by decide +kernel)]; kernel_rfl) | (rw [if_neg (by decide +kernel)]; exact ⟨rfl, rfl⟩))
    (fun os started H enc _ => lifted os started H enc)

/-- THE STATEMENT. -/
theorem proved : Rows.FnExactReadSegSaid :=
  over
end Go.Proofs.Ythdapibkfdpejaa.fnExactReadSeg
namespace Go.Proofs.Ythdapibkfdpejaa
theorem fnExactReadSeg_holds : Rows.FnExactReadSegSaid := fnExactReadSeg.proved
#print axioms fnExactReadSeg_holds
end Go.Proofs.Ythdapibkfdpejaa
