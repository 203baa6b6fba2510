/- At every two whole numbers of 64 bits the program's NewHop answers as the specification's NewHop, in memory of its own, behind another call too, so FnExactNewHop returns true; no condition. (Its frame is the guide's shell; the walk is mine.) -/
import Derived.Test.YthgmfdgiinbgaaaRows
import Derived.Test.YthgmfdgiinbgaaaHopA
import Derived.WalkKit
import Derived.ProofKit
import Derived.ChangeOld
import Derived.Below
import Derived.OpenShut
import Derived.ShutString
namespace Go.Proofs.Ythgmfdgiinbgaaa.fnExactNewHop
open Go.ChangeShapes Go.WideShapes Go.ChangeAt Go.RowKit
open Go.ChangeMaps (open_string shut_string)
set_option linter.unusedVariables false      -- a walk need not use every 'w<i>' (that an integer argument fits its kind)

theorem own : ownKnob Try.prog.godebug = none := by kernel_rfl

/-! ### STEP 1: THE WALK: the Go text returns true. 'Grown w w'': the world has at most new blocks (Derived/RowKit3.lean). Part the cases AHEAD of 'go_enter' where a test parts the walk; take each callee by a contract of your own. -/
set_option linter.unusedSimpArgs false in
set_option maxRecDepth 20000 in
set_option maxHeartbeats 4000000 in
theorem walk (a0 : Int) (a1 : Int) (w0 : (Lit.int .i64 a0).wf = true) (w1 : (Lit.int .i64 a1).wf = true) (w : World) :
    Calls Try.prog 4 #[.int .i64 a0, .int .i64 a1] w fun e w' => e = .returned (.bool true) ∧ Below w.heap.size w w' := by
  obtain ⟨cg, ct, fi, b, hS, hI⟩ : ∃ cg ct fi : Int, ∃ b : Bool, (∀ w, Calls Try.prog 17 #[.int .i64 a0, .int .i64 a1] w fun x w' => x = .returned (.tuple #[Hop.hopV cg ct fi, .bool b]) ∧ Below w.heap.size w w') ∧ (∀ w, Calls Try.prog 11 #[.int .i64 a0, .int .i64 a1] w fun x w' => x = .returned (.tuple #[Hop.hopV cg ct fi, .bool b]) ∧ Below w.heap.size w w') := ⟨_, _, _, _, fun w => Hop.specNewHop a0 a1 w, fun w => Hop.implNewHop a0 a1 w⟩
  dsimp only [Hop.hopV] at hS hI
  go_enter Try.func4, Try.ntmps4
  go_wp2_with fail
  refine (hS _).mono ?_
  rintro x w1 ⟨rfl, b1⟩
  have v3 : RowG.Var 31 (w1.alloc (.cells #[.int .i64 0, .string ⟨#[]⟩, .int .i64 cg, .int .i64 0, .bool false, .bool false, .int .i64 0, .string ⟨#[]⟩, .slice none 0 0, .int .i64 ct, .int .i64 fi, .bool false, .slice none 0 0] 31)) w1.heap.size [.int .i64 0, .string ⟨#[]⟩, .int .i64 cg, .int .i64 0, .bool false, .bool false, .int .i64 0, .string ⟨#[]⟩, .slice none 0 0, .int .i64 ct, .int .i64 fi, .bool false, .slice none 0 0] := RowG.Var.new _ _
  have B3 : Below _ _ (w1.alloc (.cells #[.int .i64 0, .string ⟨#[]⟩, .int .i64 cg, .int .i64 0, .bool false, .bool false, .int .i64 0, .string ⟨#[]⟩, .slice none 0 0, .int .i64 ct, .int .i64 fi, .bool false, .slice none 0 0] 31)) := b1.alloc b1.size _
  clear b1
  go_upto_region 2 with (fail)
  generalize w1.alloc (.cells #[.int .i64 0, .string ⟨#[]⟩, .int .i64 cg, .int .i64 0, .bool false, .bool false, .int .i64 0, .string ⟨#[]⟩, .slice none 0 0, .int .i64 ct, .int .i64 fi, .bool false, .slice none 0 0] 31) = W1 at *
  generalize w1.heap.size = k3 at *
  go_wp2_with fail
  refine (hI _).mono ?_
  rintro x w2 ⟨rfl, b2⟩
  replace v3 := v3.later b2
  have B2 := B3.trans (b2.mono B3.size)
  have v5 : RowG.Var 31 (w2.alloc (.cells #[.int .i64 0, .string ⟨#[]⟩, .int .i64 cg, .int .i64 0, .bool false, .bool false, .int .i64 0, .string ⟨#[]⟩, .slice none 0 0, .int .i64 ct, .int .i64 fi, .bool false, .slice none 0 0] 31)) w2.heap.size [.int .i64 0, .string ⟨#[]⟩, .int .i64 cg, .int .i64 0, .bool false, .bool false, .int .i64 0, .string ⟨#[]⟩, .slice none 0 0, .int .i64 ct, .int .i64 fi, .bool false, .slice none 0 0] := RowG.Var.new _ _
  replace v3 := v3.alloc (.cells #[.int .i64 0, .string ⟨#[]⟩, .int .i64 cg, .int .i64 0, .bool false, .bool false, .int .i64 0, .string ⟨#[]⟩, .slice none 0 0, .int .i64 ct, .int .i64 fi, .bool false, .slice none 0 0] 31)
  have B5 : Below _ _ (w2.alloc (.cells #[.int .i64 0, .string ⟨#[]⟩, .int .i64 cg, .int .i64 0, .bool false, .bool false, .int .i64 0, .string ⟨#[]⟩, .slice none 0 0, .int .i64 ct, .int .i64 fi, .bool false, .slice none 0 0] 31)) := B2.alloc B2.size _
  clear b2 B2 B3
  have p0 := v3.cell (i := 0) rfl
  have p1 := v3.cell (i := 1) rfl
  have p2 := v3.cell (i := 2) rfl
  have p3 := v3.cell (i := 3) rfl
  have p4 := v3.cell (i := 4) rfl
  have p5 := v3.cell (i := 5) rfl
  have p6 := v3.cell (i := 6) rfl
  have p7 := v3.cell (i := 7) rfl
  have p8 := v3.cell (i := 8) rfl
  have p9 := v3.cell (i := 9) rfl
  have p10 := v3.cell (i := 10) rfl
  have p11 := v3.cell (i := 11) rfl
  have p12 := v3.cell (i := 12) rfl
  have q0 := v5.cell (i := 0) rfl
  have q1 := v5.cell (i := 1) rfl
  have q2 := v5.cell (i := 2) rfl
  have q3 := v5.cell (i := 3) rfl
  have q4 := v5.cell (i := 4) rfl
  have q5 := v5.cell (i := 5) rfl
  have q6 := v5.cell (i := 6) rfl
  have q7 := v5.cell (i := 7) rfl
  have q8 := v5.cell (i := 8) rfl
  have q9 := v5.cell (i := 9) rfl
  have q10 := v5.cell (i := 10) rfl
  have q11 := v5.cell (i := 11) rfl
  have q12 := v5.cell (i := 12) rfl
  go_upto_region 3 with (fail)
  generalize w2.alloc (.cells #[.int .i64 0, .string ⟨#[]⟩, .int .i64 cg, .int .i64 0, .bool false, .bool false, .int .i64 0, .string ⟨#[]⟩, .slice none 0 0, .int .i64 ct, .int .i64 fi, .bool false, .slice none 0 0] 31) = W at *
  generalize w2.heap.size = k5 at *
  go_wp2_with fail
  refine (Hop.eqHop0 _ _ _ _).mono ?_
  rintro x w6 ⟨rfl, b6⟩
  replace v3 := v3.later b6
  replace v5 := v5.later b6
  have B6 := B5.trans (b6.mono B5.size)
  clear b6 B5 p0 p1 p2 p3 p4 p5 p6 p7 p8 p9 p10 p11 p12 q0 q1 q2 q3 q4 q5 q6 q7 q8 q9 q10 q11 q12
  have q0 := v5.cell (i := 0) rfl
  have q1 := v5.cell (i := 1) rfl
  have q2 := v5.cell (i := 2) rfl
  have q3 := v5.cell (i := 3) rfl
  have q4 := v5.cell (i := 4) rfl
  have q5 := v5.cell (i := 5) rfl
  have q6 := v5.cell (i := 6) rfl
  have q7 := v5.cell (i := 7) rfl
  have q8 := v5.cell (i := 8) rfl
  have q9 := v5.cell (i := 9) rfl
  have q10 := v5.cell (i := 10) rfl
  have q11 := v5.cell (i := 11) rfl
  have q12 := v5.cell (i := 12) rfl
  go_wp2_with fail
  refine (Hop.markHop0 _ _ _ _ (by decide) _).mono ?_
  rintro x w7 ⟨rfl, b7⟩
  replace v3 := v3.later b7
  replace v5 := v5.later b7
  have B7 := B6.trans (b7.mono B6.size)
  clear b7 B6 q0 q1 q2 q3 q4 q5 q6 q7 q8 q9 q10 q11 q12
  have q0 := v5.cell (i := 0) rfl
  have q1 := v5.cell (i := 1) rfl
  have q2 := v5.cell (i := 2) rfl
  have q3 := v5.cell (i := 3) rfl
  have q4 := v5.cell (i := 4) rfl
  have q5 := v5.cell (i := 5) rfl
  have q6 := v5.cell (i := 6) rfl
  have q7 := v5.cell (i := 7) rfl
  have q8 := v5.cell (i := 8) rfl
  have q9 := v5.cell (i := 9) rfl
  have q10 := v5.cell (i := 10) rfl
  have q11 := v5.cell (i := 11) rfl
  have q12 := v5.cell (i := 12) rfl
  go_wp2_with fail
  refine (Hop.heldHop0 _ _ _ _ (by decide) _).mono ?_
  rintro x w8 ⟨rfl, b8⟩
  replace v3 := v3.later b8
  replace v5 := v5.later b8
  have B8 := B7.trans (b8.mono B7.size)
  clear b8 B7 q0 q1 q2 q3 q4 q5 q6 q7 q8 q9 q10 q11 q12
  go_wp2_with fail
  refine (hI _).mono ?_
  rintro x w9 ⟨rfl, b9⟩
  replace v3 := v3.later b9
  replace v5 := v5.later b9
  have B9 := B8.trans (b9.mono B8.size)
  have v9 : RowG.Var 31 (w9.alloc (.cells #[.int .i64 0, .string ⟨#[]⟩, .int .i64 cg, .int .i64 0, .bool false, .bool false, .int .i64 0, .string ⟨#[]⟩, .slice none 0 0, .int .i64 ct, .int .i64 fi, .bool false, .slice none 0 0] 31)) w9.heap.size [.int .i64 0, .string ⟨#[]⟩, .int .i64 cg, .int .i64 0, .bool false, .bool false, .int .i64 0, .string ⟨#[]⟩, .slice none 0 0, .int .i64 ct, .int .i64 fi, .bool false, .slice none 0 0] := RowG.Var.new _ _
  replace v3 := v3.alloc (.cells #[.int .i64 0, .string ⟨#[]⟩, .int .i64 cg, .int .i64 0, .bool false, .bool false, .int .i64 0, .string ⟨#[]⟩, .slice none 0 0, .int .i64 ct, .int .i64 fi, .bool false, .slice none 0 0] 31)
  replace v5 := v5.alloc (.cells #[.int .i64 0, .string ⟨#[]⟩, .int .i64 cg, .int .i64 0, .bool false, .bool false, .int .i64 0, .string ⟨#[]⟩, .slice none 0 0, .int .i64 ct, .int .i64 fi, .bool false, .slice none 0 0] 31)
  have BA : Below _ _ (w9.alloc (.cells #[.int .i64 0, .string ⟨#[]⟩, .int .i64 cg, .int .i64 0, .bool false, .bool false, .int .i64 0, .string ⟨#[]⟩, .slice none 0 0, .int .i64 ct, .int .i64 fi, .bool false, .slice none 0 0] 31)) := B9.alloc B9.size _
  clear b9 B9 B8
  have p0 := v3.cell (i := 0) rfl
  have p1 := v3.cell (i := 1) rfl
  have p2 := v3.cell (i := 2) rfl
  have p3 := v3.cell (i := 3) rfl
  have p4 := v3.cell (i := 4) rfl
  have p5 := v3.cell (i := 5) rfl
  have p6 := v3.cell (i := 6) rfl
  have p7 := v3.cell (i := 7) rfl
  have p8 := v3.cell (i := 8) rfl
  have p9 := v3.cell (i := 9) rfl
  have p10 := v3.cell (i := 10) rfl
  have p11 := v3.cell (i := 11) rfl
  have p12 := v3.cell (i := 12) rfl
  have q0 := v9.cell (i := 0) rfl
  have q1 := v9.cell (i := 1) rfl
  have q2 := v9.cell (i := 2) rfl
  have q3 := v9.cell (i := 3) rfl
  have q4 := v9.cell (i := 4) rfl
  have q5 := v9.cell (i := 5) rfl
  have q6 := v9.cell (i := 6) rfl
  have q7 := v9.cell (i := 7) rfl
  have q8 := v9.cell (i := 8) rfl
  have q9 := v9.cell (i := 9) rfl
  have q10 := v9.cell (i := 10) rfl
  have q11 := v9.cell (i := 11) rfl
  have q12 := v9.cell (i := 12) rfl
  go_upto_region 14 with (fail)
  generalize w9.alloc (.cells #[.int .i64 0, .string ⟨#[]⟩, .int .i64 cg, .int .i64 0, .bool false, .bool false, .int .i64 0, .string ⟨#[]⟩, .slice none 0 0, .int .i64 ct, .int .i64 fi, .bool false, .slice none 0 0] 31) = X at *
  generalize w9.heap.size = k9 at *
  go_wp2_with fail
  refine (Hop.eqHop0 _ _ _ _).mono ?_
  rintro x wb ⟨rfl, bb⟩
  replace v5 := v5.later bb
  have BB := BA.trans (bb.mono BA.size)
  clear bb BA p0 p1 p2 p3 p4 p5 p6 p7 p8 p9 p10 p11 p12 q0 q1 q2 q3 q4 q5 q6 q7 q8 q9 q10 q11 q12 v3 v9
  have q0 := v5.cell (i := 0) rfl
  have q1 := v5.cell (i := 1) rfl
  have q2 := v5.cell (i := 2) rfl
  have q3 := v5.cell (i := 3) rfl
  have q4 := v5.cell (i := 4) rfl
  have q5 := v5.cell (i := 5) rfl
  have q6 := v5.cell (i := 6) rfl
  have q7 := v5.cell (i := 7) rfl
  have q8 := v5.cell (i := 8) rfl
  have q9 := v5.cell (i := 9) rfl
  have q10 := v5.cell (i := 10) rfl
  have q11 := v5.cell (i := 11) rfl
  have q12 := v5.cell (i := 12) rfl
  go_wp2_with fail
  refine (Hop.heldHop0 _ _ _ _ (by decide) _).mono ?_
  rintro x wc ⟨rfl, bc⟩
  have BC := BB.trans (bc.mono BB.size)
  go_wp2_with fail
  go_ret
  exact ⟨rfl, BC⟩

/-! ### THE ROW's STEP: WRITTEN OUT: LEAVE IT -/
set_option maxRecDepth 100000 in
theorem lifted (os : Os) (started : os.Started) (H : Type) (enc : TypeId × Value → H) :
    ReturnsInHanded {} Try.checked os 4 .any (Rows.fnExactNewHopSpec.pre6 enc Try.prog Try.f4 Rows.fnExactNewHopRow.domain false) (Rows.fnExactNewHopSpec.post enc Try.prog Try.f4 false true false false) := by
  refine returnsInHanded_of_change (C := Try.checked) own started (by kernel_rfl) Try.func4
    (ChangeSpec.witness6 (enc := enc) (C := Try.checked) false ⟨#[], #[.int .i64 0, .int .i64 0], []⟩ 8 (by kernel_rfl) (by kernel_rfl) (by kernel_rfl) (by kernel_rfl)) ?_
  intro W base args ds gs before hval0 hW hcnd _
  have hval : ∀ (j : Nat) t v, Try.f4.params[j]? = some t → args[j]? = some v → Value.okWide Try.prog W .any base t v := hval0
  have hW' := hW
  obtain ⟨p, q, hA0, hV, rfl, hfz, hnd⟩ := hW
  have hA : DataW.TrodAll enc Try.prog W 0 (fun _ => true) true Try.f4.params.toList args.toList ds p := hA0
  rw [Try.params4] at hA hval
  obtain ⟨v0, vs0, d0, ds0, p0, q0, hargs, rfl, rfl, h0, r0⟩ := trodAll_cons hA
  obtain ⟨v1, vs1, d1, ds1, p1, q1, rfl, rfl, rfl, h1, r1⟩ := trodAll_cons r0
  obtain ⟨rfl, rfl, rfl⟩ := trodAll_nil r1
  obtain rfl : args = #[v0, v1] := by cases args; simp_all
  obtain ⟨rfl, rfl⟩ := trodVars_none hV
  obtain ⟨a0, rfl, rfl, rfl, w0⟩ := open_int Try.underlying2 (hval 0 2 v0 rfl rfl) h0
  obtain ⟨a1, rfl, rfl, rfl, w1⟩ := open_int Try.underlying2 (hval 1 2 v1 rfl rfl) h1
  clear hA0 hval0
  refine (walk a0 a1 w0 w1 W).mono fun e W' ⟨he, hg⟩ => ?_
  subst he
  exact ⟨_, rfl, _, _, _, [], _, [], hW', (trodAll_cons_mk (shut_bool Try.underlying4 _) trodAll_mk0), (trodAll_cons_mk (shut_int Try.underlying2 w0) (trodAll_cons_mk (shut_int Try.underlying2 w1) trodAll_mk0)), rfl, hg.frame _, fun h => by cases h⟩

theorem over : Rows.fnExactNewHopRow.holds Try.pinned (OpenSpec.ofChange Rows.fnExactNewHopSpec) :=
  OpenClaim.holds_of_wide 4 Try.f4 rfl rfl rfl rfl rfl rfl rfl ⟨rfl, rfl, rfl, rfl, rfl⟩ rfl rfl rfl rfl rfl (by kernel_rfl) Try.func4 (by kernel_rfl)
    (of_decide_eq_true (by kernel_rfl)) (by unfold Func.isWrapper; first | (rw [if_pos (by decide +kernel)]; kernel_rfl) | (rw [if_neg (by decide +kernel)]; exact ⟨rfl, rfl⟩))
    (fun os started H enc _ => lifted os started H enc)

/-- THE STATEMENT. -/
theorem proved : Rows.FnExactNewHopSaid :=
  over
end Go.Proofs.Ythgmfdgiinbgaaa.fnExactNewHop
namespace Go.Proofs.Ythgmfdgiinbgaaa
theorem fnExactNewHop_holds : Rows.FnExactNewHopSaid := fnExactNewHop.proved
#print axioms fnExactNewHop_holds
end Go.Proofs.Ythgmfdgiinbgaaa
