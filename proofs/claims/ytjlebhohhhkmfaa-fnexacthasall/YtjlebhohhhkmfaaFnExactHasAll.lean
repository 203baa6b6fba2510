/- At every list of spans and every span the program's HasAll answers as the specification's HasAll and leaves the list as it was (lists of more than 2^20 spans the law itself lets by), so FnExactHasAll returns true; no condition. (Its frame is the guide's shell; the walk is mine.) -/
import Derived.Test.YtjlebhohhhkmfaaRows
import Derived.Test.YtjlebhohhhkmfaaHoleQ
import Derived.Test.YtjlebhohhhkmfaaLawS
import Derived.Test.YtjlebhohhhkmfaaTake
import Derived.WalkKit
import Derived.ProofKit
import Derived.OpenShut
import Derived.ShutString
import Derived.ChangeOld
import Derived.Below
import Derived.Test.YtjlebhohhhkmfaaShape
namespace Go.Proofs.Ytjlebhohhhkmfaa.fnExactHasAll
open Go.ChangeShapes Go.WideShapes Go.ChangeAt Go.RowKit
open Go.ChangeMaps (open_string shut_string)
set_option linter.unusedVariables false
set_option linter.unusedSimpArgs false

theorem own : ownKnob Try.prog.godebug = none := by kernel_rfl
theorem laidOut : laidOutB Try.prog = true := by kernel_rfl

set_option maxHeartbeats 4000000 in
theorem walk (a0 : Option Addr) (len0 cap0 : Nat) (cs1 : Array Value) (w : World) (w0 : Shp.Shape.Holds w (.slice (.struct (.cons (.int .i64) (.cons (.int .i64) (.nil))))) [.slice a0 len0 cap0]) (w1 : Shp.Shape.Holds w (.struct (.cons (.int .i64) (.cons (.int .i64) (.nil)))) cs1.toList) :
    Calls Try.prog 8 #[.slice a0 len0 cap0, .agg cs1] w fun e w' => e = .returned (.bool true) ∧ Below w.heap.size w w' := by
  obtain ⟨l, rfl, hmax, hs, ha⟩ := Hole.spans_of w0
  obtain ⟨f, t, rfl⟩ := Hole.span_of w1
  clear w0 w1
  have e0 := (Hole.box2 (w := w) (v0 := .int .i64 f) (v1 := .int .i64 t) (T := 42) (Below.refl _ _)).1
  have e1 := (Hole.box2 (w := w) (v0 := .int .i64 f) (v1 := .int .i64 t) (T := 42) (Below.refl _ _)).2
  have BW : Below w.heap.size w (w.alloc (.cells #[.int .i64 f, .int .i64 t] 42)) := (Below.refl _ _).alloc (Nat.le_refl _) _
  have hlt : w.heap.size < (w.alloc (.cells #[.int .i64 f, .int .i64 t] 42)).heap.size := by simp
  by_cases h : l.length ≤ 1048576
  case neg =>
    have hif : Hid ((if (1048576 : Int) < (l.length : Int) then (-1 : Int) else 1048576 - (l.length : Int)) = -1) := if_pos (by omega)
    go_enter Try.func8, Try.ntmps8
    go_wp2_with fail
    refine (Hole.szSpanS a0 _ cap0 _ _ hmax (by decide) (by decide)).mono ?_
    rintro x w1 ⟨rfl, rfl⟩
    rw [hif.out]
    go_wp2_with fail
    go_ret
    exact ⟨rfl, BW⟩
  have hif : Hid ((if (1048576 : Int) < (l.length : Int) then (-1 : Int) else 1048576 - (l.length : Int)) = 1048576 - (l.length : Int)) := if_neg (by omega)
  have hpos : ¬ (1048576 : Int) - (l.length : Int) < 0 := by omega
  have hl : l.length ≤ 2097152 := by omega
  have hl4 : l.length ≤ 4194304 := by omega
  have hsW := hs.below BW
  go_enter Try.func8, Try.ntmps8
  go_wp2_with fail
  refine (Hole.szSpanS a0 _ cap0 _ _ hmax (by decide) (by decide)).mono ?_
  rintro x w1 ⟨rfl, rfl⟩
  rw [hif.out]
  go_wp2_with fail
  generalize w.alloc (.cells #[.int .i64 f, .int .i64 t] 42) = W at *
  have hsD : Hole.Spans W.drew a0 l := hsW
  refine wp_region_held_drew (S := (fun w' => w'.cell? ⟨w.heap.size, 0, none⟩ = some (.int .i64 f) ∧ w'.cell? ⟨w.heap.size, 1, none⟩ = some (.int .i64 t))) (by kernel_rfl) ?_ (fun hHeld => ?_)
  focus ((try dsimp only) <;> (first | exact ⟨e0, e1⟩ | exact ⟨p0, p1⟩ | exact ⟨q0, q1⟩ | exact ⟨r0, r1⟩))
  refine wpAnyH_take (i := 0) (v := ?_) rfl (by kernel_rfl) (by kernel_rfl) (by kernel_rfl) (fun _ _ _ h => h) (Or.inl ⟨by rfl, ?_⟩) (by assumption) ?_
  rotate_left 1
  focus (intro wS hSw; (try dsimp only at hSw); go_simp; first | done | (constructor <;> with_reducible rfl) | with_reducible rfl)
  (try simp only [Act.put, List.getElem_toArray, List.getElem_cons_zero, List.getElem_cons_succ, List.setIfInBounds_toArray, List.set_cons_zero, List.set_cons_succ])
  refine wpAnyH_take (i := 2) (v := ?_) rfl (by kernel_rfl) (by kernel_rfl) (by kernel_rfl) (fun _ _ _ h => h) (Or.inl ⟨by rfl, ?_⟩) (by assumption) ?_
  rotate_left 1
  focus (intro wS hSw; (try dsimp only at hSw); go_simp; first | done | (constructor <;> with_reducible rfl) | with_reducible rfl)
  (try simp only [Act.put, List.getElem_toArray, List.getElem_cons_zero, List.getElem_cons_succ, List.setIfInBounds_toArray, List.set_cons_zero, List.set_cons_succ])
  refine wpAnyH_ready (rs := [1]) (by kernel_rfl) (by simp) ?_
  refine AllReadyH.cons rfl (fun K hK => ?_) AllReadyH.nil
  (go_simp; refine (Hole.toSpanS _ _ _ l _ rfl hsD hl).mono ?_; rintro x w1 ⟨g1, c1, rfl, o1, b1⟩; have p0 := (b1.cell (p := ⟨w.heap.size, 0, none⟩) hlt).trans e0; have p1 := (b1.cell (p := ⟨w.heap.size, 1, none⟩) hlt).trans e1; have l1 : w.heap.size < w1.heap.size := Nat.lt_of_lt_of_le hlt b1.size)
  refine hK.out _ _ ?_ (fun hHeld => ?_)
  focus ((try dsimp only) <;> (first | exact ⟨e0, e1⟩ | exact ⟨p0, p1⟩ | exact ⟨q0, q1⟩ | exact ⟨r0, r1⟩))
  clear hK K
  (try simp only [Act.put, List.getElem_toArray, List.getElem_cons_zero, List.getElem_cons_succ, List.setIfInBounds_toArray, List.set_cons_zero, List.set_cons_succ])
  refine wpAnyH_ready (rs := [3]) (by kernel_rfl) (by simp) ?_
  refine AllReadyH.cons rfl (fun K hK => ?_) AllReadyH.nil
  (go_simp; refine (Hole.toSpan f t _).mono ?_; rintro x w2 ⟨rfl, b2⟩; have q0 := (b2.cell (p := ⟨w.heap.size, 0, none⟩) l1).trans p0; have q1 := (b2.cell (p := ⟨w.heap.size, 1, none⟩) l1).trans p1; have l2 : w.heap.size < w2.heap.size := Nat.lt_of_lt_of_le l1 b2.size; have o2 := o1.later b2)
  refine hK.out _ _ ?_ (fun hHeld => ?_)
  focus ((try dsimp only) <;> (first | exact ⟨e0, e1⟩ | exact ⟨p0, p1⟩ | exact ⟨q0, q1⟩ | exact ⟨r0, r1⟩))
  clear hK K
  (try simp only [Act.put, List.getElem_toArray, List.getElem_cons_zero, List.getElem_cons_succ, List.setIfInBounds_toArray, List.set_cons_zero, List.set_cons_succ])
  refine wpAnyH_ready (rs := [4]) (by kernel_rfl) (by simp) ?_
  refine AllReadyH.cons rfl (fun K hK => ?_) AllReadyH.nil
  (go_simp; refine (Hole.specHasAll _ _ _ l f t _ rfl o2.spans hl).mono ?_; rintro x w3 ⟨rfl, b3⟩; have r0 := (b3.cell (p := ⟨w.heap.size, 0, none⟩) l2).trans q0; have r1 := (b3.cell (p := ⟨w.heap.size, 1, none⟩) l2).trans q1)
  refine hK.out _ _ ?_ (fun hHeld => ?_)
  focus ((try dsimp only) <;> (first | exact ⟨e0, e1⟩ | exact ⟨p0, p1⟩ | exact ⟨q0, q1⟩ | exact ⟨r0, r1⟩))
  clear hK K
  (try simp only [Act.put, List.getElem_toArray, List.getElem_cons_zero, List.getElem_cons_succ, List.setIfInBounds_toArray, List.set_cons_zero, List.set_cons_succ])
  refine wpAnyH_take (i := 5) (v := ?_) rfl (by kernel_rfl) (by kernel_rfl) (by kernel_rfl) (fun _ _ _ h => h) (Or.inl ⟨by rfl, ?_⟩) (by assumption) ?_
  rotate_left 1
  focus (intro wS hSw; (try dsimp only at hSw); go_simp; first | done | (constructor <;> with_reducible rfl) | with_reducible rfl)
  (try simp only [Act.put, List.getElem_toArray, List.getElem_cons_zero, List.getElem_cons_succ, List.setIfInBounds_toArray, List.set_cons_zero, List.set_cons_succ])
  refine wpAnyH_done (by kernel_rfl) ?_ _
  have B3 : Below w.heap.size w w3 := BW.drew.trans ((b1.trans ((b2.trans (b3.mono b2.size)).mono b1.size)).mono BW.size)
  have l3 : w.heap.size < w3.heap.size := Nat.lt_of_lt_of_le l2 b3.size
  clear p0 p1 q0 q1 e0 e1 b1 b2 b3 o1 o2 l1 l2 hsD hsW BW hlt hHeld
  go_wp2_with fail
  refine (Hole.toSpanS _ _ _ l _ rfl (hs.below B3) hl).mono ?_
  rintro x w4 ⟨g4, c4, rfl, o4, b4⟩
  have B4 := B3.trans (b4.mono B3.size)
  have s0 := (b4.cell (p := ⟨w.heap.size, 0, none⟩) l3).trans r0
  have s1 := (b4.cell (p := ⟨w.heap.size, 1, none⟩) l3).trans r1
  clear b4 B3 r0 r1
  go_wp2_with fail
  refine (Hole.toSpan f t _).mono ?_
  rintro x w5 ⟨rfl, b5⟩
  have B5 := B4.trans (b5.mono B4.size)
  have o5 := o4.later b5
  clear b5 B4 o4 s0 s1
  go_wp2_with fail
  refine (Hole.implHasAll _ _ _ l f t _ rfl o5.spans hl o5.cap).mono ?_
  rintro x w6 ⟨rfl, b6⟩
  have B6 := B5.trans (b6.mono B5.size)
  have o6 := o5.later b6
  clear b6 B5 o5
  generalize Hole.hasB l (f, t) = q
  cases q
  all_goals
    go_wp2_with fail
    refine (Hole.toSpanS _ _ _ l _ rfl (hs.below B6) hl).mono ?_
    rintro x w7 ⟨g7, c7, rfl, o7, b7⟩
    have B7 := B6.trans (b7.mono B6.size)
    go_wp2_with fail
    refine (Hole.eqSpanS _ _ _ _ _ _ l l _ rfl rfl (o6.later b7).spans o7.spans hl4 hl4).mono ?_
    rintro x w8 ⟨rfl, b8⟩
    rw [decide_eq_true rfl]
    go_wp2_with fail
    go_ret
    exact ⟨rfl, B7.trans (b8.mono B7.size)⟩

set_option maxRecDepth 100000 in
theorem lifted (os : Os) (started : os.Started) (H : Type) (enc : TypeId × Value → H) :
    ReturnsInHanded {} Try.checked os 8 .any (Rows.fnExactHasAllSpec.pre6 enc Try.prog Try.f8 Rows.fnExactHasAllRow.domain false) (Rows.fnExactHasAllSpec.post enc Try.prog Try.f8 false true false false) := by
  refine returnsInHanded_of_change (C := Try.checked) own started (by kernel_rfl) Try.func8
    (ChangeSpec.witness6 (enc := enc) (C := Try.checked) false ⟨#[], #[.slice none 0 0, .agg #[.int .i64 0, .int .i64 0]], []⟩ 8 (by kernel_rfl) (by kernel_rfl) (by kernel_rfl) (by kernel_rfl)) ?_
  intro W base args ds gs before hval0 hW hcnd _
  have hval : ∀ (j : Nat) t v, Try.f8.params[j]? = some t → args[j]? = some v → Value.okWide Try.prog W .any base t v := hval0
  have hW' := hW
  obtain ⟨p, q, hA0, hV, rfl, hfz, hnd⟩ := hW
  have hA : DataW.TrodAll enc Try.prog W 0 (fun _ => true) true Try.f8.params.toList args.toList ds p := hA0
  rw [Try.params8] at hA hval
  obtain ⟨v0, vs0, d0, ds0, p0, q0, hargs, rfl, rfl, h0, r0⟩ := trodAll_cons hA
  obtain ⟨v1, vs1, d1, ds1, p1, q1, rfl, rfl, rfl, h1, r1⟩ := trodAll_cons r0
  obtain ⟨rfl, rfl, rfl⟩ := trodAll_nil r1
  obtain rfl : args = #[v0, v1] := by cases args; simp_all
  obtain ⟨rfl, rfl⟩ := trodVars_none hV
  obtain ⟨a0, len0, cap0, rfl⟩ := okWide_slice Try.underlying38 (hval 0 38 v0 rfl rfl)
  have k0 := h0
  have lt0 : ∀ x ∈ p0, x.block < W.heap.size := by obtain ⟨m, hm⟩ := k0; exact DataW.trod_lt m _ _ _ hm
  have w0 : Shp.Shape.Holds W (.slice (.struct (.cons (.int .i64) (.cons (.int .i64) (.nil))))) [.slice a0 len0 cap0] := by obtain ⟨fuel, hf⟩ := h0; exact (Shp.Shape.reads _ (by kernel_rfl) hf).1
  obtain ⟨cs1, rfl, _⟩ := okWide_struct Try.underlying42 (hval 1 42 v1 rfl rfl)
  have k1 := h1
  have lt1 : ∀ x ∈ p1, x.block < W.heap.size := by obtain ⟨m, hm⟩ := k1; exact DataW.trod_lt m _ _ _ hm
  have w1 : Shp.Shape.Holds W (.struct (.cons (.int .i64) (.cons (.int .i64) (.nil)))) cs1.toList := by obtain ⟨fuel, hf⟩ := h1; exact (Shp.Shape.reads _ (by kernel_rfl) hf).1
  clear hA0 hval0
  refine (walk a0 len0 cap0 cs1 W w0 w1).mono fun e W' ⟨he, bel⟩ => ?_
  subst he
  exact ⟨_, rfl, _, _, _, [], _, [], hW', (trodAll_cons_mk (shut_bool Try.underlying4 _) trodAll_mk0), (trodAll_cons_mk (Below.trod laidOut (by kernel_rfl) (of_decide_eq_true (by kernel_rfl)) k0 bel lt0) (trodAll_cons_mk (Below.trod laidOut (by kernel_rfl) (of_decide_eq_true (by kernel_rfl)) k1 bel lt1) trodAll_mk0)), rfl, bel.frame _, fun h => by cases h⟩

theorem over : Rows.fnExactHasAllRow.holds Try.pinned (OpenSpec.ofChange Rows.fnExactHasAllSpec) :=
  OpenClaim.holds_of_wide 8 Try.f8 rfl rfl rfl rfl rfl rfl rfl ⟨rfl, rfl, rfl, rfl, rfl⟩ rfl rfl rfl rfl rfl (by kernel_rfl) Try.func8 (by kernel_rfl)
    (of_decide_eq_true (by kernel_rfl)) (by unfold Func.isWrapper; first | (rw [if_pos (by decide +kernel)]; kernel_rfl) | (rw [if_neg (by decide +kernel)]; exact ⟨rfl, rfl⟩))
    (fun os started H enc _ => lifted os started H enc)

/-- THE STATEMENT. -/
theorem proved : Rows.FnExactHasAllSaid := over
end Go.Proofs.Ytjlebhohhhkmfaa.fnExactHasAll
namespace Go.Proofs.Ytjlebhohhhkmfaa
theorem fnExactHasAll_holds : Rows.FnExactHasAllSaid := fnExactHasAll.proved
#print axioms fnExactHasAll_holds
end Go.Proofs.Ytjlebhohhhkmfaa
