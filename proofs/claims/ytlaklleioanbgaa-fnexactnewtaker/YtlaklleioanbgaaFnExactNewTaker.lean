/- At every whole number of 64 bits the program's NewTaker answers as the specification's NewTaker, in memory of its own, behind another call too, so FnExactNewTaker returns true; no condition. (Its frame is the guide's shell; the walk is mine.) -/
import Derived.Test.YtlaklleioanbgaaRows
import Derived.Test.YtlaklleioanbgaaLawV
import Derived.WalkKit
import Derived.ProofKit
import Derived.ChangeOld
import Derived.Below
import Derived.OpenShut
import Derived.ShutString
namespace Go.Proofs.Ytlaklleioanbgaa.fnExactNewTaker
open Go.ChangeShapes Go.WideShapes Go.ChangeAt Go.RowKit
open Go.ChangeMaps (open_string shut_string)
set_option linter.unusedVariables false      -- a walk need not use every 'w<i>' (that an integer argument fits its kind)

theorem own : ownKnob Try.prog.godebug = none := by kernel_rfl

/-! ### STEP 1: THE WALK: the Go text returns true. 'Grown w w'': the world has at most new blocks (Derived/RowKit3.lean). Part the cases AHEAD of 'go_enter' where a test parts the walk; take each callee by a contract of your own. -/
set_option maxHeartbeats 4000000 in
theorem walk (a0 : Int) (w0 : (Lit.int .i64 a0).wf = true) (w : World) :
    Calls Try.prog 7 #[.int .i64 a0] w fun e w' => e = .returned (.bool true) ∧ Below w.heap.size w w' := by
  obtain ⟨cp, fi, b, hS, hI⟩ : ∃ cp fi : Int, ∃ b : Bool, (∀ w, Calls Try.prog 21 #[.int .i64 a0] w fun x w' => x = .returned (.tuple #[.agg #[.int .i64 0, .string ⟨#[]⟩, .slice none 0 0, .int .i64 cp, .int .i64 fi, .bool false], .bool b]) ∧ Below w.heap.size w w') ∧ (∀ w, Calls Try.prog 13 #[.int .i64 a0] w fun x w' => x = .returned (.tuple #[.agg #[.int .i64 0, .string ⟨#[]⟩, .slice none 0 0, .int .i64 cp, .int .i64 fi, .bool false], .bool b]) ∧ Below w.heap.size w w') := by
    cases h : Tak.capB a0
    · refine ⟨0, 0, false, fun w => ?_, fun w => ?_⟩
      · have e := Tak.specNewTaker a0 w
        rw [h] at e
        exact e
      · have e := Tak.implNewTaker a0 w
        rw [h] at e
        exact e
    · refine ⟨a0, -1, true, fun w => ?_, fun w => ?_⟩
      · have e := Tak.specNewTaker a0 w
        rw [h] at e
        exact e
      · have e := Tak.implNewTaker a0 w
        rw [h] at e
        exact e
  go_enter Try.func7, Try.ntmps7
  go_wp2_with fail
  refine (hS _).mono ?_
  rintro x w1 ⟨rfl, b1⟩
  have v3 : RowG.Var 26 (w1.alloc (.cells #[.int .i64 0, .string ⟨#[]⟩, .slice none 0 0, .int .i64 cp, .int .i64 fi, .bool false] 26)) w1.heap.size [.int .i64 0, .string ⟨#[]⟩, .slice none 0 0, .int .i64 cp, .int .i64 fi, .bool false] := RowG.Var.new _ _
  have B3 : Below _ _ (w1.alloc (.cells #[.int .i64 0, .string ⟨#[]⟩, .slice none 0 0, .int .i64 cp, .int .i64 fi, .bool false] 26)) := b1.alloc b1.size _
  go_wp2_with fail
  refine (hI _).mono ?_
  rintro x w2 ⟨rfl, b2⟩
  have v3 := v3.later b2
  have B2 := B3.trans (b2.mono B3.size)
  have v5 : RowG.Var 26 (w2.alloc (.cells #[.int .i64 0, .string ⟨#[]⟩, .slice none 0 0, .int .i64 cp, .int .i64 fi, .bool false] 26)) w2.heap.size [.int .i64 0, .string ⟨#[]⟩, .slice none 0 0, .int .i64 cp, .int .i64 fi, .bool false] := RowG.Var.new _ _
  have v3 := v3.alloc (.cells #[.int .i64 0, .string ⟨#[]⟩, .slice none 0 0, .int .i64 cp, .int .i64 fi, .bool false] 26)
  have B5 : Below _ _ (w2.alloc (.cells #[.int .i64 0, .string ⟨#[]⟩, .slice none 0 0, .int .i64 cp, .int .i64 fi, .bool false] 26)) := B2.alloc B2.size _
  clear b2 B2 B3 b1
  have p0 := v3.cell (i := 0) rfl
  have p1 := v3.cell (i := 1) rfl
  have p2 := v3.cell (i := 2) rfl
  have p3 := v3.cell (i := 3) rfl
  have p4 := v3.cell (i := 4) rfl
  have p5 := v3.cell (i := 5) rfl
  have q0 := v5.cell (i := 0) rfl
  have q1 := v5.cell (i := 1) rfl
  have q2 := v5.cell (i := 2) rfl
  have q3 := v5.cell (i := 3) rfl
  have q4 := v5.cell (i := 4) rfl
  have q5 := v5.cell (i := 5) rfl
  go_upto_region 3 with (fail)
  generalize w2.alloc (.cells #[.int .i64 0, .string ⟨#[]⟩, .slice none 0 0, .int .i64 cp, .int .i64 fi, .bool false] 26) = W at *
  generalize w2.heap.size = k5 at *
  generalize w1.heap.size = k3 at *
  go_wp2_with fail
  refine (Tak.eqTaker0 _ _ _ _ _ _).mono ?_
  rintro x w6 ⟨rfl, b6⟩
  have v3 := v3.later b6
  have v5 := v5.later b6
  have B6 := B5.trans (b6.mono B5.size)
  clear b6 B5 p0 p1 p2 p3 p4 p5 q0 q1 q2 q3 q4 q5
  have q0 := v5.cell (i := 0) rfl
  have q1 := v5.cell (i := 1) rfl
  have q2 := v5.cell (i := 2) rfl
  have q3 := v5.cell (i := 3) rfl
  have q4 := v5.cell (i := 4) rfl
  have q5 := v5.cell (i := 5) rfl
  go_wp2_with fail
  refine (Tak.markTaker0 _ _ _ _ _ _ _).mono ?_
  rintro x w7 ⟨rfl, b7⟩
  have v3 := v3.later b7
  have v5 := v5.later b7
  have B7 := B6.trans (b7.mono B6.size)
  clear b7 B6 q0 q1 q2 q3 q4 q5
  have q0 := v5.cell (i := 0) rfl
  have q1 := v5.cell (i := 1) rfl
  have q2 := v5.cell (i := 2) rfl
  have q3 := v5.cell (i := 3) rfl
  have q4 := v5.cell (i := 4) rfl
  have q5 := v5.cell (i := 5) rfl
  go_wp2_with fail
  refine (Tak.heldTaker0 _ _ _ _ _ _ (by decide) _).mono ?_
  rintro x w8 ⟨rfl, b8⟩
  have v3 := v3.later b8
  have v5 := v5.later b8
  have B8 := B7.trans (b8.mono B7.size)
  clear b8 B7 q0 q1 q2 q3 q4 q5
  go_wp2_with fail
  refine (hI _).mono ?_
  rintro x w9 ⟨rfl, b9⟩
  have v3 := v3.later b9
  have v5 := v5.later b9
  have B9 := B8.trans (b9.mono B8.size)
  have v9 : RowG.Var 26 (w9.alloc (.cells #[.int .i64 0, .string ⟨#[]⟩, .slice none 0 0, .int .i64 cp, .int .i64 fi, .bool false] 26)) w9.heap.size [.int .i64 0, .string ⟨#[]⟩, .slice none 0 0, .int .i64 cp, .int .i64 fi, .bool false] := RowG.Var.new _ _
  have v3 := v3.alloc (.cells #[.int .i64 0, .string ⟨#[]⟩, .slice none 0 0, .int .i64 cp, .int .i64 fi, .bool false] 26)
  have v5 := v5.alloc (.cells #[.int .i64 0, .string ⟨#[]⟩, .slice none 0 0, .int .i64 cp, .int .i64 fi, .bool false] 26)
  have BA : Below _ _ (w9.alloc (.cells #[.int .i64 0, .string ⟨#[]⟩, .slice none 0 0, .int .i64 cp, .int .i64 fi, .bool false] 26)) := B9.alloc B9.size _
  clear b9 B9 B8
  have p0 := v3.cell (i := 0) rfl
  have p1 := v3.cell (i := 1) rfl
  have p2 := v3.cell (i := 2) rfl
  have p3 := v3.cell (i := 3) rfl
  have p4 := v3.cell (i := 4) rfl
  have p5 := v3.cell (i := 5) rfl
  have q0 := v9.cell (i := 0) rfl
  have q1 := v9.cell (i := 1) rfl
  have q2 := v9.cell (i := 2) rfl
  have q3 := v9.cell (i := 3) rfl
  have q4 := v9.cell (i := 4) rfl
  have q5 := v9.cell (i := 5) rfl
  go_upto_region 14 with (fail)
  generalize w9.alloc (.cells #[.int .i64 0, .string ⟨#[]⟩, .slice none 0 0, .int .i64 cp, .int .i64 fi, .bool false] 26) = X at *
  generalize w9.heap.size = k9 at *
  go_wp2_with fail
  refine (Tak.eqTaker0 _ _ _ _ _ _).mono ?_
  rintro x wb ⟨rfl, bb⟩
  have v5 := v5.later bb
  have BB := BA.trans (bb.mono BA.size)
  clear bb BA p0 p1 p2 p3 p4 p5 q0 q1 q2 q3 q4 q5 v3 v9
  have q0 := v5.cell (i := 0) rfl
  have q1 := v5.cell (i := 1) rfl
  have q2 := v5.cell (i := 2) rfl
  have q3 := v5.cell (i := 3) rfl
  have q4 := v5.cell (i := 4) rfl
  have q5 := v5.cell (i := 5) rfl
  go_wp2_with fail
  refine (Tak.heldTaker0 _ _ _ _ _ _ (by decide) _).mono ?_
  rintro x wc ⟨rfl, bc⟩
  have BC := BB.trans (bc.mono BB.size)
  go_wp2_with fail
  go_ret
  exact ⟨rfl, BC⟩

/-! ### THE ROW's STEP: WRITTEN OUT: LEAVE IT -/
set_option maxRecDepth 100000 in
theorem lifted (os : Os) (started : os.Started) (H : Type) (enc : TypeId × Value → H) :
    ReturnsInHanded {} Try.checked os 7 .any (Rows.fnExactNewTakerSpec.pre6 enc Try.prog Try.f7 Rows.fnExactNewTakerRow.domain false) (Rows.fnExactNewTakerSpec.post enc Try.prog Try.f7 false true false false) := by
  refine returnsInHanded_of_change (C := Try.checked) own started (by kernel_rfl) Try.func7
    (ChangeSpec.witness6 (enc := enc) (C := Try.checked) false ⟨#[], #[.int .i64 0], []⟩ 8 (by kernel_rfl) (by kernel_rfl) (by kernel_rfl) (by kernel_rfl)) ?_
  intro W base args ds gs before hval0 hW hcnd _
  have hval : ∀ (j : Nat) t v, Try.f7.params[j]? = some t → args[j]? = some v → Value.okWide Try.prog W .any base t v := hval0
  have hW' := hW
  obtain ⟨p, q, hA0, hV, rfl, hfz, hnd⟩ := hW
  have hA : DataW.TrodAll enc Try.prog W 0 (fun _ => true) true Try.f7.params.toList args.toList ds p := hA0
  rw [Try.params7] at hA hval
  obtain ⟨v0, vs0, d0, ds0, p0, q0, hargs, rfl, rfl, h0, r0⟩ := trodAll_cons hA
  obtain ⟨rfl, rfl, rfl⟩ := trodAll_nil r0
  obtain rfl : args = #[v0] := by cases args; simp_all
  obtain ⟨rfl, rfl⟩ := trodVars_none hV
  obtain ⟨a0, rfl, rfl, rfl, w0⟩ := open_int Try.underlying2 (hval 0 2 v0 rfl rfl) h0
  clear hA0 hval0
  refine (walk a0 w0 W).mono fun e W' ⟨he, hg⟩ => ?_
  subst he
  exact ⟨_, rfl, _, _, _, [], _, [], hW', (trodAll_cons_mk (shut_bool Try.underlying4 _) trodAll_mk0), (trodAll_cons_mk (shut_int Try.underlying2 w0) trodAll_mk0), rfl, hg.frame _, fun h => by cases h⟩

theorem over : Rows.fnExactNewTakerRow.holds Try.pinned (OpenSpec.ofChange Rows.fnExactNewTakerSpec) :=
  OpenClaim.holds_of_wide 7 Try.f7 rfl rfl rfl rfl rfl rfl rfl ⟨rfl, rfl, rfl, rfl, rfl⟩ rfl rfl rfl rfl rfl (by kernel_rfl) Try.func7 (by kernel_rfl)
    (of_decide_eq_true (by kernel_rfl)) (by unfold Func.isWrapper; first | (rw [if_pos (by decide +kernel)]; kernel_rfl) | (rw [if_neg (by decide +kernel)]; exact ⟨rfl, rfl⟩))
    (fun os started H enc _ => lifted os started H enc)

/-- THE STATEMENT. -/
theorem proved : Rows.FnExactNewTakerSaid :=
  over
end Go.Proofs.Ytlaklleioanbgaa.fnExactNewTaker
namespace Go.Proofs.Ytlaklleioanbgaa
theorem fnExactNewTaker_holds : Rows.FnExactNewTakerSaid := fnExactNewTaker.proved
#print axioms fnExactNewTaker_holds
end Go.Proofs.Ytlaklleioanbgaa
