/- At every giver, place and number the program's Offers answers as the specification's Offers (givers of more than 2^20 bytes the law itself lets by), so FnExactOffers returns true; no condition. (Its frame is the guide's shell; the walk is mine.) -/
import Derived.Test.YtagpgjojfglkjabRows
import Derived.Test.YtagpgjojfglkjabGivD
import Derived.Test.YtagpgjojfglkjabGivU
import Derived.Test.YtagpgjojfglkjabLawG
import Derived.WalkKit
import Derived.ProofKit
import Derived.OpenShut
import Derived.ShutString
import Derived.ChangeOld
import Derived.Below
import Derived.Test.YtagpgjojfglkjabShape
namespace Go.Proofs.Ytagpgjojfglkjab.fnExactOffers
open Go.ChangeShapes Go.WideShapes Go.ChangeAt Go.RowKit
open Go.ChangeMaps (open_string shut_string)
set_option linter.unusedVariables false
set_option linter.unusedSimpArgs false

theorem own : ownKnob Try.prog.godebug = none := by kernel_rfl
theorem laidOut : laidOutB Try.prog = true := by kernel_rfl

set_option linter.unusedSimpArgs false in
set_option maxRecDepth 20000 in
set_option maxHeartbeats 4000000 in
theorem walk (cs0 : Array Value) (a1 : Int) (a2 : Int) (w : World) (w0 : Shp.Shape.Holds w (.struct (.cons (.int .i64) (.cons (.str) (.cons (.int .i64) (.cons (.int .i64) (.cons (.bool) (.cons (.bool) (.nil)))))))) cs0.toList) (w1 : (Lit.int .i64 a1).wf = true) (w2 : (Lit.int .i64 a2).wf = true) :
    Calls Try.prog 4 #[.agg cs0, .int .i64 a1, .int .i64 a2] w fun e w' => e = .returned (.bool true) ∧ Below w.heap.size w w' := by
  obtain ⟨g, rfl, hb⟩ := Giv.giver_of w0
  clear w0
  by_cases h : (g.bs.size : Int) ≤ 1048576
  case neg =>
    have hif : Hid ((if (1048576 : Int) < (g.bs.size : Int) then (-1 : Int) else 1048576 - (g.bs.size : Int)) = -1) := if_pos (by omega)
    have hZ := fun w' => Giv.szGiver g 1048576 w' hb (by decide) (by decide)
    rw [hif.out] at hZ
    obtain ⟨ba, bs, cp, lm, en, dn⟩ := g
    dsimp only [Giv.Gv.v] at *
    go_enter Try.func4, Try.ntmps4
    go_wp2_with fail
    refine (hZ _).mono ?_
    rintro x w1 ⟨rfl, hB1⟩
    go_wp2_with fail
    go_ret
    exact ⟨rfl, ((Below.refl _ _).alloc (Nat.le_refl _) _).trans (hB1.mono (by simp))⟩
  have hs : g.bs.size ≤ 2097152 := by omega
  have hif : Hid ((if (1048576 : Int) < (g.bs.size : Int) then (-1 : Int) else 1048576 - (g.bs.size : Int)) = 1048576 - (g.bs.size : Int)) := if_neg (by omega)
  have hpos : ¬ (1048576 : Int) - (g.bs.size : Int) < 0 := by omega
  have hZ := fun w' => Giv.szGiver g 1048576 w' hb (by decide) (by decide)
  have hT := fun w' => Giv.toGiver g w'
  have hS := fun w' => Giv.specOffers g a1 a2 w' hs
  have hI := fun w' => Giv.implOffers g a1 a2 w' hs
  rw [hif.out] at hZ
  generalize Giv.offersG g a1 a2 = R at *
  obtain ⟨⟨ra, rb⟩, rt, ru⟩ := R
  have hE := fun w' => Giv.eqPart ra rb w'
  obtain ⟨ba, bs, cp, lm, en, dn⟩ := g
  dsimp only [Giv.Gv.v, Giv.offV] at *
  have v0 : RowG.Var 23 (w.alloc (.cells #[.int .i64 ba, .string bs, .int .i64 cp, .int .i64 lm, .bool en, .bool dn] 23)) w.heap.size [.int .i64 ba, .string bs, .int .i64 cp, .int .i64 lm, .bool en, .bool dn] := RowG.Var.new w _
  have b0 : Below w.heap.size w (w.alloc (.cells #[.int .i64 ba, .string bs, .int .i64 cp, .int .i64 lm, .bool en, .bool dn] 23)) := (Below.refl _ _).alloc (Nat.le_refl _) _
  go_enter Try.func4, Try.ntmps4
  go_wp2_with fail
  generalize w.alloc (.cells #[.int .i64 ba, .string bs, .int .i64 cp, .int .i64 lm, .bool en, .bool dn] 23) = V at *
  refine (hZ _).mono ?_
  rintro x w1 ⟨rfl, hB1⟩
  have v1 := v0.later hB1
  have B1 := b0.trans (hB1.mono b0.size)
  clear v0 b0 hB1 hif hb hZ
  have c0 := v1.cell (i := 0) rfl
  have c1 := v1.cell (i := 1) rfl
  have c2 := v1.cell (i := 2) rfl
  have c3 := v1.cell (i := 3) rfl
  have c4 := v1.cell (i := 4) rfl
  have c5 := v1.cell (i := 5) rfl
  go_wp2_with fail
  refine (hT _).mono ?_
  rintro x w2 ⟨rfl, hB2⟩
  have v2 := v1.later hB2
  have B2 := B1.trans (hB2.mono B1.size)
  clear v1 B1 hB2 c0 c1 c2 c3 c4 c5
  go_wp2_with fail
  refine (hS _).mono ?_
  rintro x w3 ⟨rfl, hB3⟩
  have v3 := v2.later hB3
  have B3 := B2.trans (hB3.mono B2.size)
  clear v2 B2 hB3 hS
  have v4 : RowG.Var 32 (w3.alloc (.cells #[.int .i64 ra, .string rb] 32)) w3.heap.size [.int .i64 ra, .string rb] := RowG.Var.new w3 _
  have v3 := v3.alloc (.cells #[.int .i64 ra, .string rb] 32)
  have B4 : Below w.heap.size w (w3.alloc (.cells #[.int .i64 ra, .string rb] 32)) := B3.alloc B3.size _
  clear B3
  go_upto_region 6 with (fail)
  generalize w3.alloc (.cells #[.int .i64 ra, .string rb] 32) = W4 at *
  generalize w3.heap.size = k4 at *
  have c0 := v3.cell (i := 0) rfl
  have c1 := v3.cell (i := 1) rfl
  have c2 := v3.cell (i := 2) rfl
  have c3 := v3.cell (i := 3) rfl
  have c4 := v3.cell (i := 4) rfl
  have c5 := v3.cell (i := 5) rfl
  go_wp2_with fail
  refine (hT _).mono ?_
  rintro x w5 ⟨rfl, hB5⟩
  have v5 := v4.later hB5
  have B5 := B4.trans (hB5.mono B4.size)
  clear v3 v4 B4 hB5 hT c0 c1 c2 c3 c4 c5
  go_wp2_with fail
  refine (hI _).mono ?_
  rintro x w6 ⟨rfl, hB6⟩
  have v6 := v5.later hB6
  have B6 := B5.trans (hB6.mono B5.size)
  clear v5 B5 hB6 hI
  have v7 : RowG.Var 32 (w6.alloc (.cells #[.int .i64 ra, .string rb] 32)) w6.heap.size [.int .i64 ra, .string rb] := RowG.Var.new w6 _
  have v6 := v6.alloc (.cells #[.int .i64 ra, .string rb] 32)
  have B7 : Below w.heap.size w (w6.alloc (.cells #[.int .i64 ra, .string rb] 32)) := B6.alloc B6.size _
  clear B6
  go_upto_region 7 with (fail)
  generalize w6.alloc (.cells #[.int .i64 ra, .string rb] 32) = W7 at *
  generalize w6.heap.size = k7 at *
  have c0 := v6.cell (i := 0) rfl
  have c1 := v6.cell (i := 1) rfl
  have d0 := v7.cell (i := 0) rfl
  have d1 := v7.cell (i := 1) rfl
  go_wp2_with fail
  refine (hE _).mono ?_
  rintro x w8 ⟨rfl, hB8⟩
  have B8 := B7.trans (hB8.mono B7.size)
  go_wp2_with fail
  go_ret
  exact ⟨rfl, B8⟩

set_option maxRecDepth 100000 in
theorem lifted (os : Os) (started : os.Started) (H : Type) (enc : TypeId × Value → H) :
    ReturnsInHanded {} Try.checked os 4 .any (Rows.fnExactOffersSpec.pre6 enc Try.prog Try.f4 Rows.fnExactOffersRow.domain false) (Rows.fnExactOffersSpec.post enc Try.prog Try.f4 false true false false) := by
  refine returnsInHanded_of_change (C := Try.checked) own started (by kernel_rfl) Try.func4
    (ChangeSpec.witness6 (enc := enc) (C := Try.checked) false ⟨#[], #[.agg #[.int .i64 0, .string ByteArray.empty, .int .i64 0, .int .i64 0, .bool false, .bool false], .int .i64 0, .int .i64 0], []⟩ 8 (by kernel_rfl) (by kernel_rfl) (by kernel_rfl) (by kernel_rfl)) ?_
  intro W base args ds gs before hval0 hW hcnd _
  have hval : ∀ (j : Nat) t v, Try.f4.params[j]? = some t → args[j]? = some v → Value.okWide Try.prog W .any base t v := hval0
  have hW' := hW
  obtain ⟨p, q, hA0, hV, rfl, hfz, hnd⟩ := hW
  have hA : DataW.TrodAll enc Try.prog W 0 (fun _ => true) true Try.f4.params.toList args.toList ds p := hA0
  rw [Try.params4] at hA hval
  obtain ⟨v0, vs0, d0, ds0, p0, q0, hargs, rfl, rfl, h0, r0⟩ := trodAll_cons hA
  obtain ⟨v1, vs1, d1, ds1, p1, q1, rfl, rfl, rfl, h1, r1⟩ := trodAll_cons r0
  obtain ⟨v2, vs2, d2, ds2, p2, q2, rfl, rfl, rfl, h2, r2⟩ := trodAll_cons r1
  obtain ⟨rfl, rfl, rfl⟩ := trodAll_nil r2
  obtain rfl : args = #[v0, v1, v2] := by cases args; simp_all
  obtain ⟨rfl, rfl⟩ := trodVars_none hV
  obtain ⟨cs0, rfl, _⟩ := okWide_struct Try.underlying23 (hval 0 23 v0 rfl rfl)
  have k0 := h0
  have lt0 : ∀ x ∈ p0, x.block < W.heap.size := by obtain ⟨m, hm⟩ := k0; exact DataW.trod_lt m _ _ _ hm
  have w0 : Shp.Shape.Holds W (.struct (.cons (.int .i64) (.cons (.str) (.cons (.int .i64) (.cons (.int .i64) (.cons (.bool) (.cons (.bool) (.nil)))))))) cs0.toList := by obtain ⟨fuel, hf⟩ := h0; exact (Shp.Shape.reads _ (by kernel_rfl) hf).1
  obtain ⟨a1, rfl, rfl, rfl, w1⟩ := open_int Try.underlying2 (hval 1 2 v1 rfl rfl) h1
  obtain ⟨a2, rfl, rfl, rfl, w2⟩ := open_int Try.underlying2 (hval 2 2 v2 rfl rfl) h2
  clear hA0 hval0
  refine (walk cs0 a1 a2 W w0 w1 w2).mono fun e W' ⟨he, bel⟩ => ?_
  subst he
  exact ⟨_, rfl, _, _, _, [], _, [], hW', (trodAll_cons_mk (shut_bool Try.underlying4 _) trodAll_mk0), (trodAll_cons_mk (Below.trod laidOut (by kernel_rfl) (of_decide_eq_true (by kernel_rfl)) k0 bel lt0) (trodAll_cons_mk (shut_int Try.underlying2 w1) (trodAll_cons_mk (shut_int Try.underlying2 w2) trodAll_mk0))), rfl, bel.frame _, fun h => by cases h⟩

theorem over : Rows.fnExactOffersRow.holds Try.pinned (OpenSpec.ofChange Rows.fnExactOffersSpec) :=
  OpenClaim.holds_of_wide 4 Try.f4 rfl rfl rfl rfl rfl rfl rfl ⟨rfl, rfl, rfl, rfl, rfl⟩ rfl rfl rfl rfl rfl (by kernel_rfl) Try.func4 (by kernel_rfl)
    (of_decide_eq_true (by kernel_rfl)) (by unfold Func.isWrapper; first | (rw [if_pos (by decide +kernel)]; kernel_rfl) | (rw [if_neg (by decide +kernel)]; exact ⟨rfl, rfl⟩))
    (fun os started H enc _ => lifted os started H enc)

/-- THE STATEMENT. -/
theorem proved : Rows.FnExactOffersSaid := over
end Go.Proofs.Ytagpgjojfglkjab.fnExactOffers
namespace Go.Proofs.Ytagpgjojfglkjab
theorem fnExactOffers_holds : Rows.FnExactOffersSaid := fnExactOffers.proved
#print axioms fnExactOffers_holds
end Go.Proofs.Ytagpgjojfglkjab
