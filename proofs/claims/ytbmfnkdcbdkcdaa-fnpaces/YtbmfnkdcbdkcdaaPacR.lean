/- The contract of the program's Measured (chapter 9); no condition. -/
import Derived.Test.YtbmfnkdcbdkcdaaPacQ
import Derived.Test.YtbmfnkdcbdkcdaaRegV
namespace Go.Proofs.Ytbmfnkdcbdkcdaa.Pac
open Go.RowKit RowG
set_option linter.unusedVariables false
set_option linter.unusedSimpArgs false

set_option maxRecDepth 10000 in
set_option maxHeartbeats 8000000 in
theorem implMeasured (p : Pc) (t : Int) (w : World) : Calls Try.prog 11 #[p.v, .int .i64 t] w fun x w' => x = .returned (measP p t).v ∧ Below w.heap.size w w' := by
  have hmix := Tak.mix
  have hMO := fun w' => measuresOf p w'
  have hOK := fun w' => implPaceOk p w'
  obtain ⟨mn, sp, wt, tm⟩ := p
  dsimp only [Pc.v] at hOK hMO ⊢
  have v1 : Var 25 ((w.alloc (.cells #[.int .i64 mn, .int .i64 sp, .int .i64 wt, .int .i64 tm] 25)).alloc (.cells #[.int .i64 0, .int .i64 0, .int .i64 0, .int .i64 0] 25)) w.heap.size [.int .i64 mn, .int .i64 sp, .int .i64 wt, .int .i64 tm] := (Var.new w [.int .i64 mn, .int .i64 sp, .int .i64 wt, .int .i64 tm]).alloc _
  have v2 : Var 25 ((w.alloc (.cells #[.int .i64 mn, .int .i64 sp, .int .i64 wt, .int .i64 tm] 25)).alloc (.cells #[.int .i64 0, .int .i64 0, .int .i64 0, .int .i64 0] 25)) (w.heap.size + 1) [.int .i64 0, .int .i64 0, .int .i64 0, .int .i64 0] := by
    have q := Var.new (T := 25) (w.alloc (.cells #[.int .i64 mn, .int .i64 sp, .int .i64 wt, .int .i64 tm] 25)) [.int .i64 0, .int .i64 0, .int .i64 0, .int .i64 0]
    simpa using q
  have b0 : Below w.heap.size w ((w.alloc (.cells #[.int .i64 mn, .int .i64 sp, .int .i64 wt, .int .i64 tm] 25)).alloc (.cells #[.int .i64 0, .int .i64 0, .int .i64 0, .int .i64 0] 25)) := ((Below.refl _ _).alloc (Nat.le_refl _) _).alloc (by simp) _
  go_enter Try.func11, Try.ntmps11
  go_wp2_with fail
  refine (hOK _).mono ?_
  rintro x w1 ⟨rfl, b1⟩
  replace v1 := v1.later b1
  replace v2 := v2.later b1
  have B1 := b0.trans (b1.mono b0.size)
  have hw1 : w.heap.size + 1 < w1.heap.size := v2.lt
  clear b0 b1 hOK
  cases hb : paceB ⟨mn, sp, wt, tm⟩
  · have HR : Hid (measP ⟨mn, sp, wt, tm⟩ t = zeroP) := by show _ = _; unfold measP; rw [hb]; rfl
    have a0 := v2.cell (i := 0) rfl
    have a1 := v2.cell (i := 1) rfl
    have a2 := v2.cell (i := 2) rfl
    have a3 := v2.cell (i := 3) rfl
    have y0 := v2.free 0
    have y1 := v2.free 1
    have y2 := v2.free 2
    have y3 := v2.free 3
    go_wp2_with fail
    have r2 : Var 25 ((((w1.setCell ⟨w.heap.size + 1, 0, none⟩ (.int .i64 0)).setCell ⟨w.heap.size + 1, 1, none⟩ (.int .i64 0)).setCell ⟨w.heap.size + 1, 2, none⟩ (.int .i64 0)).setCell ⟨w.heap.size + 1, 3, none⟩ (.int .i64 0)) (w.heap.size + 1) [(.int .i64 0), (.int .i64 0), (.int .i64 0), (.int .i64 0)] := (((v2.set 0 _).set 1 _).set 2 _).set 3 _
    have rB : Below w.heap.size w ((((w1.setCell ⟨w.heap.size + 1, 0, none⟩ (.int .i64 0)).setCell ⟨w.heap.size + 1, 1, none⟩ (.int .i64 0)).setCell ⟨w.heap.size + 1, 2, none⟩ (.int .i64 0)).setCell ⟨w.heap.size + 1, 3, none⟩ (.int .i64 0)) := (((B1.setCell (p := ⟨w.heap.size + 1, 0, none⟩) (by dsimp only; omega) _).setCell (p := ⟨w.heap.size + 1, 1, none⟩) (by dsimp only; omega) _).setCell (p := ⟨w.heap.size + 1, 2, none⟩) (by dsimp only; omega) _).setCell (p := ⟨w.heap.size + 1, 3, none⟩) (by dsimp only; omega) _
    generalize ((((w1.setCell ⟨w.heap.size + 1, 0, none⟩ (.int .i64 0)).setCell ⟨w.heap.size + 1, 1, none⟩ (.int .i64 0)).setCell ⟨w.heap.size + 1, 2, none⟩ (.int .i64 0)).setCell ⟨w.heap.size + 1, 3, none⟩ (.int .i64 0)) = W4 at *
    have s0 := r2.cell (i := 0) rfl
    have s1 := r2.cell (i := 1) rfl
    have s2 := r2.cell (i := 2) rfl
    have s3 := r2.cell (i := 3) rfl
    refine bodyPost_ret (v := .agg #[(.int .i64 0), (.int .i64 0), (.int .i64 0), (.int .i64 0)]) (by rw [res_cellP rfl]; clear r2 rB a0 a1 a2 a3 y0 y1 y2 y3 v1 v2; go_simp; done) rfl ⟨by rw [HR.out]; first | done | rfl, rB⟩
  · obtain ⟨h1, h2, h3, h4⟩ := pace_iff.1 hb
    dsimp only at h1 h2 h3 h4
    have e0 := v1.cell (i := 0) rfl
    have e1 := v1.cell (i := 1) rfl
    have e2 := v1.cell (i := 2) rfl
    have e3 := v1.cell (i := 3) rfl
    by_cases t0 : t < 0
    case pos =>
      have HR : Hid (measP ⟨mn, sp, wt, tm⟩ t = ⟨mn, sp, wt, tm⟩) := by show _ = _; unfold measP; rw [hb, if_pos rfl, if_neg (by omega)]
      clear hb hMO
      have a0 := v2.cell (i := 0) rfl
      have a1 := v2.cell (i := 1) rfl
      have a2 := v2.cell (i := 2) rfl
      have a3 := v2.cell (i := 3) rfl
      have y0 := v2.free 0
      have y1 := v2.free 1
      have y2 := v2.free 2
      have y3 := v2.free 3
      go_wp2_with fail
      have r2 : Var 25 ((((w1.setCell ⟨w.heap.size + 1, 0, none⟩ (.int .i64 mn)).setCell ⟨w.heap.size + 1, 1, none⟩ (.int .i64 sp)).setCell ⟨w.heap.size + 1, 2, none⟩ (.int .i64 wt)).setCell ⟨w.heap.size + 1, 3, none⟩ (.int .i64 tm)) (w.heap.size + 1) [(.int .i64 mn), (.int .i64 sp), (.int .i64 wt), (.int .i64 tm)] := (((v2.set 0 _).set 1 _).set 2 _).set 3 _
      have rB : Below w.heap.size w ((((w1.setCell ⟨w.heap.size + 1, 0, none⟩ (.int .i64 mn)).setCell ⟨w.heap.size + 1, 1, none⟩ (.int .i64 sp)).setCell ⟨w.heap.size + 1, 2, none⟩ (.int .i64 wt)).setCell ⟨w.heap.size + 1, 3, none⟩ (.int .i64 tm)) := (((B1.setCell (p := ⟨w.heap.size + 1, 0, none⟩) (by dsimp only; omega) _).setCell (p := ⟨w.heap.size + 1, 1, none⟩) (by dsimp only; omega) _).setCell (p := ⟨w.heap.size + 1, 2, none⟩) (by dsimp only; omega) _).setCell (p := ⟨w.heap.size + 1, 3, none⟩) (by dsimp only; omega) _
      generalize ((((w1.setCell ⟨w.heap.size + 1, 0, none⟩ (.int .i64 mn)).setCell ⟨w.heap.size + 1, 1, none⟩ (.int .i64 sp)).setCell ⟨w.heap.size + 1, 2, none⟩ (.int .i64 wt)).setCell ⟨w.heap.size + 1, 3, none⟩ (.int .i64 tm)) = W4 at *
      have s0 := r2.cell (i := 0) rfl
      have s1 := r2.cell (i := 1) rfl
      have s2 := r2.cell (i := 2) rfl
      have s3 := r2.cell (i := 3) rfl
      refine bodyPost_ret (v := .agg #[(.int .i64 mn), (.int .i64 sp), (.int .i64 wt), (.int .i64 tm)]) (by rw [res_cellP rfl]; clear r2 rB a0 a1 a2 a3 y0 y1 y2 y3 v1 v2 e0 e1 e2 e3; go_simp; done) rfl ⟨by rw [HR.out]; first | done | rfl, rB⟩
    by_cases t1 : 60000 < t
    case pos =>
      have HR : Hid (measP ⟨mn, sp, wt, tm⟩ t = ⟨mn, sp, wt, tm⟩) := by show _ = _; unfold measP; rw [hb, if_pos rfl, if_neg (by omega)]
      clear hb hMO
      have a0 := v2.cell (i := 0) rfl
      have a1 := v2.cell (i := 1) rfl
      have a2 := v2.cell (i := 2) rfl
      have a3 := v2.cell (i := 3) rfl
      have y0 := v2.free 0
      have y1 := v2.free 1
      have y2 := v2.free 2
      have y3 := v2.free 3
      go_wp2_with fail
      have r2 : Var 25 ((((w1.setCell ⟨w.heap.size + 1, 0, none⟩ (.int .i64 mn)).setCell ⟨w.heap.size + 1, 1, none⟩ (.int .i64 sp)).setCell ⟨w.heap.size + 1, 2, none⟩ (.int .i64 wt)).setCell ⟨w.heap.size + 1, 3, none⟩ (.int .i64 tm)) (w.heap.size + 1) [(.int .i64 mn), (.int .i64 sp), (.int .i64 wt), (.int .i64 tm)] := (((v2.set 0 _).set 1 _).set 2 _).set 3 _
      have rB : Below w.heap.size w ((((w1.setCell ⟨w.heap.size + 1, 0, none⟩ (.int .i64 mn)).setCell ⟨w.heap.size + 1, 1, none⟩ (.int .i64 sp)).setCell ⟨w.heap.size + 1, 2, none⟩ (.int .i64 wt)).setCell ⟨w.heap.size + 1, 3, none⟩ (.int .i64 tm)) := (((B1.setCell (p := ⟨w.heap.size + 1, 0, none⟩) (by dsimp only; omega) _).setCell (p := ⟨w.heap.size + 1, 1, none⟩) (by dsimp only; omega) _).setCell (p := ⟨w.heap.size + 1, 2, none⟩) (by dsimp only; omega) _).setCell (p := ⟨w.heap.size + 1, 3, none⟩) (by dsimp only; omega) _
      generalize ((((w1.setCell ⟨w.heap.size + 1, 0, none⟩ (.int .i64 mn)).setCell ⟨w.heap.size + 1, 1, none⟩ (.int .i64 sp)).setCell ⟨w.heap.size + 1, 2, none⟩ (.int .i64 wt)).setCell ⟨w.heap.size + 1, 3, none⟩ (.int .i64 tm)) = W4 at *
      have s0 := r2.cell (i := 0) rfl
      have s1 := r2.cell (i := 1) rfl
      have s2 := r2.cell (i := 2) rfl
      have s3 := r2.cell (i := 3) rfl
      refine bodyPost_ret (v := .agg #[(.int .i64 mn), (.int .i64 sp), (.int .i64 wt), (.int .i64 tm)]) (by rw [res_cellP rfl]; clear r2 rB a0 a1 a2 a3 y0 y1 y2 y3 v1 v2 e0 e1 e2 e3; go_simp; done) rfl ⟨by rw [HR.out]; first | done | rfl, rB⟩
    have hO : Ok t (mn, sp) := Ok.mk (by omega) (by omega) h1.1 h1.2 h2.1 h2.2
    have hT := fun w' => withT mn sp t w' hO
    have HR : Hid (measP ⟨mn, sp, wt, tm⟩ t = ⟨(stepM t (mn, sp)).1, (stepM t (mn, sp)).2, waitI (stepM t (mn, sp)).1 (stepM t (mn, sp)).2, 0⟩) := by
      show _ = _
      unfold measP
      rw [hb, if_pos rfl, if_pos (by omega)]
    have hO2 := hO.step
    have HWT : Hid (∀ w', Calls Try.prog 28 #[.agg #[.int .i64 (stepM t (mn, sp)).1, .int .i64 (stepM t (mn, sp)).2]] w' fun x w'' => x = .returned (.int .i64 (waitI (stepM t (mn, sp)).1 (stepM t (mn, sp)).2)) ∧ Below w'.heap.size w' w'') := fun w' => wait _ _ w' ⟨hO2.m0, hO2.m1⟩ ⟨hO2.s0, hO2.s1⟩
    generalize waitI (stepM t (mn, sp)).1 (stepM t (mn, sp)).2 = A at *
    clear hb hO hO2
    generalize (stepM t (mn, sp)).1 = M at *
    generalize (stepM t (mn, sp)).2 = S at *
    go_wp2_with fail
    refine (hMO _).mono ?_
    rintro x w2 ⟨rfl, b2⟩
    replace v2 := v2.later b2
    replace B1 := B1.trans (b2.mono B1.size)
    clear b2 hMO e0 e1 e2 e3 v1
    go_wp2_with fail
    refine (hT _).mono ?_
    rintro x w3 ⟨rfl, b3⟩
    have hl3 := (v2.later b3).lt
    replace v2 := (v2.later b3).alloc (.cells #[.int .i64 M, .int .i64 S] 46)
    replace B1 := (B1.trans (b3.mono B1.size)).alloc (B1.trans (b3.mono B1.size)).size (.cells #[.int .i64 M, .int .i64 S] 46)
    have v5 : Var 46 (w3.alloc (.cells #[.int .i64 M, .int .i64 S] 46)) w3.heap.size [.int .i64 M, .int .i64 S] := Var.new w3 _
    have hk5 : w.heap.size + 1 ≠ w3.heap.size := by omega
    clear b3 hT
    go_upto_region 6 with (fail)
    generalize w3.alloc (.cells #[.int .i64 M, .int .i64 S] 46) = W3 at *
    generalize w3.heap.size = k5 at *
    have hl2 := v2.lt
    have W0 : Hid ((fun (d : Nat → Bool) (w' : World) => Below w.heap.size w w' ∧ w.heap.size + 1 < w'.heap.size ∧ Var 46 w' k5 [.int .i64 M, .int .i64 S] ∧ Var 25 w' (w.heap.size + 1) (if d 7 = true then [.int .i64 M, .int .i64 S, .int .i64 A, .int .i64 0] else [.int .i64 0, .int .i64 0, .int .i64 0, .int .i64 0])) (fun _ => false) W3.drew) := by
      show _ ∧ _ ∧ _ ∧ _
      exact ⟨B1.drew, hl2, v5.drew, v2.drew⟩
    have keepW : ∀ (q : Nat) (d : Nat → Bool) (w' : World), (fun (d : Nat → Bool) (w' : World) => Below w.heap.size w w' ∧ w.heap.size + 1 < w'.heap.size ∧ Var 46 w' k5 [.int .i64 M, .int .i64 S] ∧ Var 25 w' (w.heap.size + 1) (if d 7 = true then [.int .i64 M, .int .i64 S, .int .i64 A, .int .i64 0] else [.int .i64 0, .int .i64 0, .int .i64 0, .int .i64 0])) d w' → q ≠ 7 → (fun (d : Nat → Bool) (w' : World) => Below w.heap.size w w' ∧ w.heap.size + 1 < w'.heap.size ∧ Var 46 w' k5 [.int .i64 M, .int .i64 S] ∧ Var 25 w' (w.heap.size + 1) (if d 7 = true then [.int .i64 M, .int .i64 S, .int .i64 A, .int .i64 0] else [.int .i64 0, .int .i64 0, .int .i64 0, .int .i64 0])) (fun j => j == q || d j) w' := by
      intro q d w' h hq
      have e1 : (7 == q) = false := by rw [beq_eq_false_iff_ne]; omega
      refine ⟨h.1, h.2.1, h.2.2.1, ?_⟩
      simp only [e1, Bool.false_or]
      exact h.2.2.2
    refine RegJ.wp_region_J (W := (fun (d : Nat → Bool) (w' : World) => Below w.heap.size w w' ∧ w.heap.size + 1 < w'.heap.size ∧ Var 46 w' k5 [.int .i64 M, .int .i64 S] ∧ Var 25 w' (w.heap.size + 1) (if d 7 = true then [.int .i64 M, .int .i64 S, .int .i64 A, .int .i64 0] else [.int .i64 0, .int .i64 0, .int .i64 0, .int .i64 0]))) (RegJ.Val [some (.pointer (some ⟨k5, 0, none⟩)), some (.int .i64 M), some (.pointer (some ⟨k5, 1, none⟩)), some (.int .i64 S), some (.agg #[.int .i64 M, .int .i64 S]), some (.int .i64 A), some (.agg #[.int .i64 M, .int .i64 S, .int .i64 A, .int .i64 0]), none]) [some 21, some 22, some 23, some 24, some 25, some 26, some 27, none] (F := ?_) (is := [0, 1, 2, 3, 4, 5, 6, 7]) hmix (by kernel_rfl) (by kernel_rfl) (by kernel_rfl) (by kernel_rfl) (fun x => ?_) (W0.out) ?_ (fun d x wR hWR hdR hJR => ?_)
    rotate_left 1
    focus (simp only [RegJ.lay, Act.put, Nat.reduceAdd, Nat.zero_add, List.getElem_toArray, List.getElem_cons_zero, List.getElem_cons_succ, List.setIfInBounds_toArray, List.set_cons_zero, List.set_cons_succ]; rfl)
    focus
      refine RegJ.Steps.cons (RegJ.StepAt.mk rfl (fun d x w1 hW1 hJ1 hx1 K hK => ?_)) (RegJ.Steps.cons (RegJ.StepAt.mk rfl (fun d x w1 hW1 hJ1 hx1 K hK => ?_)) (RegJ.Steps.cons (RegJ.StepAt.mk rfl (fun d x w1 hW1 hJ1 hx1 K hK => ?_)) (RegJ.Steps.cons (RegJ.StepAt.mk rfl (fun d x w1 hW1 hJ1 hx1 K hK => ?_)) (RegJ.Steps.cons (RegJ.StepAt.mk rfl (fun d x w1 hW1 hJ1 hx1 K hK => ?_)) (RegJ.Steps.cons (RegJ.StepAt.mk rfl (fun d x w1 hW1 hJ1 hx1 K hK => ?_)) (RegJ.Steps.cons (RegJ.StepAt.mk rfl (fun d x w1 hW1 hJ1 hx1 K hK => ?_)) (RegJ.Steps.cons (RegJ.StepAt.mk rfl (fun d x w1 hW1 hJ1 hx1 K hK => ?_)) (RegJ.Steps.nil))))))))
      focus (simp only [List.getElem_toArray, List.getElem_cons_succ, List.getElem_cons_zero] at hK; go_simp; exact hK.out _ _ (keepW 0 d _ hW1 (by decide)) RegJ.Val.keep (RegJ.Val.this (Or.inl rfl)))
      focus (simp only [List.getElem_toArray, List.getElem_cons_succ, List.getElem_cons_zero] at hK; have j0 : x 0 = _ := (hJ1.out 0 (by kernel_rfl)).2 _ rfl; rw [j0] at hK; have e0 := hW1.2.2.1.cell (i := 0) rfl; go_simp; exact hK.out _ _ (keepW 1 d _ hW1 (by decide)) RegJ.Val.keep (RegJ.Val.this (Or.inl rfl)))
      focus (simp only [List.getElem_toArray, List.getElem_cons_succ, List.getElem_cons_zero] at hK; go_simp; exact hK.out _ _ (keepW 2 d _ hW1 (by decide)) RegJ.Val.keep (RegJ.Val.this (Or.inl rfl)))
      focus (simp only [List.getElem_toArray, List.getElem_cons_succ, List.getElem_cons_zero] at hK; have j2 : x 2 = _ := (hJ1.out 2 (by kernel_rfl)).2 _ rfl; rw [j2] at hK; have e1 := hW1.2.2.1.cell (i := 1) rfl; go_simp; exact hK.out _ _ (keepW 3 d _ hW1 (by decide)) RegJ.Val.keep (RegJ.Val.this (Or.inl rfl)))
      focus (simp only [List.getElem_toArray, List.getElem_cons_succ, List.getElem_cons_zero] at hK; have e0 := hW1.2.2.1.cell (i := 0) rfl; have e1 := hW1.2.2.1.cell (i := 1) rfl; go_simp; exact hK.out _ _ (keepW 4 d _ hW1 (by decide)) RegJ.Val.keep (RegJ.Val.this (Or.inl rfl)))
      focus (simp only [List.getElem_toArray, List.getElem_cons_succ, List.getElem_cons_zero] at hK; have j4 : x 4 = _ := (hJ1.out 4 (by kernel_rfl)).2 _ rfl; rw [j4] at hK; go_simp; refine (HWT.out _).mono ?_; rintro e wa ⟨rfl, ba⟩; go_simp; exact hK.out _ _ (keepW 5 d _ ⟨hW1.1.trans (ba.mono hW1.1.size), Nat.lt_of_lt_of_le hW1.2.1 ba.size, hW1.2.2.1.later ba, hW1.2.2.2.later ba⟩ (by decide)) RegJ.Val.keep (RegJ.Val.this (Or.inl rfl)))
      focus (simp only [List.getElem_toArray, List.getElem_cons_succ, List.getElem_cons_zero] at hK; have j1 : x 1 = _ := (hJ1.out 1 (by kernel_rfl)).2 _ rfl; rw [j1] at hK; have j3 : x 3 = _ := (hJ1.out 3 (by kernel_rfl)).2 _ rfl; rw [j3] at hK; have j5 : x 5 = _ := (hJ1.out 5 (by kernel_rfl)).2 _ rfl; rw [j5] at hK; go_simp; exact hK.out _ _ (keepW 6 d _ hW1 (by decide)) RegJ.Val.keep (RegJ.Val.this (Or.inl rfl)))
      focus (simp only [List.getElem_toArray, List.getElem_cons_succ, List.getElem_cons_zero] at hK; have j6 : x 6 = _ := (hJ1.out 6 (by kernel_rfl)).2 _ rfl; rw [j6] at hK; have vz := hW1.2.2.2; rw [if_neg (by rw [(hx1.out 7 (.inl rfl)).1]; decide)] at vz; have a0 := vz.cell (i := 0) rfl; have a1 := vz.cell (i := 1) rfl; have a2 := vz.cell (i := 2) rfl; have a3 := vz.cell (i := 3) rfl; have y0 := vz.free 0; have y1 := vz.free 1; have y2 := vz.free 2; have y3 := vz.free 3; go_simp; have r2 := (((vz.set 0 (.int .i64 M)).set 1 (.int .i64 S)).set 2 (.int .i64 A)).set 3 (.int .i64 0); exact hK.out undef _ ⟨(((hW1.1.setCell (p := ⟨w.heap.size + 1, 0, none⟩) (by dsimp only; omega) _).setCell (p := ⟨w.heap.size + 1, 1, none⟩) (by dsimp only; omega) _).setCell (p := ⟨w.heap.size + 1, 2, none⟩) (by dsimp only; omega) _).setCell (p := ⟨w.heap.size + 1, 3, none⟩) (by dsimp only; omega) _, r2.lt, (((hW1.2.2.1.other (p := ⟨w.heap.size + 1, 0, none⟩) (by dsimp only; omega) _).other (p := ⟨w.heap.size + 1, 1, none⟩) (by dsimp only; omega) _).other (p := ⟨w.heap.size + 1, 2, none⟩) (by dsimp only; omega) _).other (p := ⟨w.heap.size + 1, 3, none⟩) (by dsimp only; omega) _, r2⟩ RegJ.Val.keep (RegJ.Val.this (Or.inr rfl)))
    obtain ⟨rB, -, -, r2⟩ := hWR
    rw [if_pos (hdR 7 (by simp))] at r2
    clear hdR hJR keepW W0 v2 v5 B1
    have s0 := r2.cell (i := 0) rfl
    have s1 := r2.cell (i := 1) rfl
    have s2 := r2.cell (i := 2) rfl
    have s3 := r2.cell (i := 3) rfl
    go_wp2_with fail
    refine bodyPost_ret (v := .agg #[.int .i64 M, .int .i64 S, .int .i64 A, .int .i64 0]) (by rw [res_cellP rfl]; clear r2 rB; go_simp; done) rfl ⟨by rw [HR.out]; first | done | rfl, rB⟩

end Go.Proofs.Ytbmfnkdcbdkcdaa.Pac
