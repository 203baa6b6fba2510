/- The contract of the specification's Measured (chapter 9); no condition. -/
import Derived.Test.YtbmfnkdcbdkcdaaPacB
import Derived.Test.YtbmfnkdcbdkcdaaDrawB
namespace Go.Proofs.Ytbmfnkdcbdkcdaa.Pac
open Go.RowKit RowG
set_option linter.unusedVariables false
set_option linter.unusedSimpArgs false

set_option maxRecDepth 10000 in
set_option maxHeartbeats 8000000 in
theorem specMeasured (p : Pc) (t : Int) (w : World) : Calls Try.prog 14 #[p.v, .int .i64 t] w fun x w' => x = .returned (measP p t).v ∧ Below w.heap.size w w' := by
  have hOK := fun w' => specPaceOk p w'
  obtain ⟨mn, sp, wt, tm⟩ := p
  dsimp only [Pc.v] at hOK ⊢
  have v1 : Var 25 ((w.alloc (.cells #[.int .i64 mn, .int .i64 sp, .int .i64 wt, .int .i64 tm] 25)).alloc (.cells #[.int .i64 0, .int .i64 0, .int .i64 0, .int .i64 0] 25)) w.heap.size [.int .i64 mn, .int .i64 sp, .int .i64 wt, .int .i64 tm] := (Var.new w [.int .i64 mn, .int .i64 sp, .int .i64 wt, .int .i64 tm]).alloc _
  have v2 : Var 25 ((w.alloc (.cells #[.int .i64 mn, .int .i64 sp, .int .i64 wt, .int .i64 tm] 25)).alloc (.cells #[.int .i64 0, .int .i64 0, .int .i64 0, .int .i64 0] 25)) (w.heap.size + 1) [.int .i64 0, .int .i64 0, .int .i64 0, .int .i64 0] := by
    have q := Var.new (T := 25) (w.alloc (.cells #[.int .i64 mn, .int .i64 sp, .int .i64 wt, .int .i64 tm] 25)) [.int .i64 0, .int .i64 0, .int .i64 0, .int .i64 0]
    simpa using q
  have b0 : Below w.heap.size w ((w.alloc (.cells #[.int .i64 mn, .int .i64 sp, .int .i64 wt, .int .i64 tm] 25)).alloc (.cells #[.int .i64 0, .int .i64 0, .int .i64 0, .int .i64 0] 25)) := ((Below.refl _ _).alloc (Nat.le_refl _) _).alloc (by simp) _
  go_enter Try.func14, Try.ntmps14
  go_wp2_with fail
  refine (hOK _).mono ?_
  rintro x w1 ⟨rfl, b1⟩
  replace v1 := v1.later b1
  replace v2 := v2.later b1
  have B1 := b0.trans (b1.mono b0.size)
  have hw1 : w.heap.size + 1 < w1.heap.size := v2.lt
  clear b0 b1 hOK
  cases hb : paceB ⟨mn, sp, wt, tm⟩
  · have HR : Hid (measP ⟨mn, sp, wt, tm⟩ t = zeroP) := by show _ = _; unfold measP; rw [hb]; rfl
    have a0 := v2.cell (i := 0) rfl
    have a1 := v2.cell (i := 1) rfl
    have a2 := v2.cell (i := 2) rfl
    have a3 := v2.cell (i := 3) rfl
    have y0 := v2.free 0
    have y1 := v2.free 1
    have y2 := v2.free 2
    have y3 := v2.free 3
    go_wp2_with fail
    have r2 : Var 25 ((((w1.setCell ⟨w.heap.size + 1, 0, none⟩ (.int .i64 0)).setCell ⟨w.heap.size + 1, 1, none⟩ (.int .i64 0)).setCell ⟨w.heap.size + 1, 2, none⟩ (.int .i64 0)).setCell ⟨w.heap.size + 1, 3, none⟩ (.int .i64 0)) (w.heap.size + 1) [(.int .i64 0), (.int .i64 0), (.int .i64 0), (.int .i64 0)] := (((v2.set 0 _).set 1 _).set 2 _).set 3 _
    have rB : Below w.heap.size w ((((w1.setCell ⟨w.heap.size + 1, 0, none⟩ (.int .i64 0)).setCell ⟨w.heap.size + 1, 1, none⟩ (.int .i64 0)).setCell ⟨w.heap.size + 1, 2, none⟩ (.int .i64 0)).setCell ⟨w.heap.size + 1, 3, none⟩ (.int .i64 0)) := (((B1.setCell (p := ⟨w.heap.size + 1, 0, none⟩) (by dsimp only; omega) _).setCell (p := ⟨w.heap.size + 1, 1, none⟩) (by dsimp only; omega) _).setCell (p := ⟨w.heap.size + 1, 2, none⟩) (by dsimp only; omega) _).setCell (p := ⟨w.heap.size + 1, 3, none⟩) (by dsimp only; omega) _
    generalize ((((w1.setCell ⟨w.heap.size + 1, 0, none⟩ (.int .i64 0)).setCell ⟨w.heap.size + 1, 1, none⟩ (.int .i64 0)).setCell ⟨w.heap.size + 1, 2, none⟩ (.int .i64 0)).setCell ⟨w.heap.size + 1, 3, none⟩ (.int .i64 0)) = W4 at *
    have s0 := r2.cell (i := 0) rfl
    have s1 := r2.cell (i := 1) rfl
    have s2 := r2.cell (i := 2) rfl
    have s3 := r2.cell (i := 3) rfl
    refine bodyPost_ret (v := .agg #[(.int .i64 0), (.int .i64 0), (.int .i64 0), (.int .i64 0)]) (by rw [res_cellP rfl]; clear r2 rB a0 a1 a2 a3 y0 y1 y2 y3 v1 v2; go_simp; done) rfl ⟨by rw [HR.out]; first | done | rfl, rB⟩
  · obtain ⟨h1, h2, h3, h4⟩ := pace_iff.1 hb
    dsimp only at h1 h2 h3 h4
    have e0 := v1.cell (i := 0) rfl
    have e1 := v1.cell (i := 1) rfl
    have e2 := v1.cell (i := 2) rfl
    have e3 := v1.cell (i := 3) rfl
    have z0 := v1.free 0
    have z1 := v1.free 1
    cases ht : decide (0 ≤ t ∧ t ≤ 60000)
    case false =>
      have HR : Hid (measP ⟨mn, sp, wt, tm⟩ t = ⟨mn, sp, wt, tm⟩) := by show _ = _; unfold measP; rw [hb, if_pos rfl, if_neg (of_decide_eq_false ht)]
      clear hb
      go_wp2_with fail
      refine (Tak.l1InEq ht _).mono ?_
      rintro x w2 ⟨rfl, rfl⟩
      have a0 := v2.cell (i := 0) rfl
      have a1 := v2.cell (i := 1) rfl
      have a2 := v2.cell (i := 2) rfl
      have a3 := v2.cell (i := 3) rfl
      have y0 := v2.free 0
      have y1 := v2.free 1
      have y2 := v2.free 2
      have y3 := v2.free 3
      go_wp2_with fail
      have r2 : Var 25 ((((w1.setCell ⟨w.heap.size + 1, 0, none⟩ (.int .i64 mn)).setCell ⟨w.heap.size + 1, 1, none⟩ (.int .i64 sp)).setCell ⟨w.heap.size + 1, 2, none⟩ (.int .i64 wt)).setCell ⟨w.heap.size + 1, 3, none⟩ (.int .i64 tm)) (w.heap.size + 1) [(.int .i64 mn), (.int .i64 sp), (.int .i64 wt), (.int .i64 tm)] := (((v2.set 0 _).set 1 _).set 2 _).set 3 _
      have rB : Below w.heap.size w ((((w1.setCell ⟨w.heap.size + 1, 0, none⟩ (.int .i64 mn)).setCell ⟨w.heap.size + 1, 1, none⟩ (.int .i64 sp)).setCell ⟨w.heap.size + 1, 2, none⟩ (.int .i64 wt)).setCell ⟨w.heap.size + 1, 3, none⟩ (.int .i64 tm)) := (((B1.setCell (p := ⟨w.heap.size + 1, 0, none⟩) (by dsimp only; omega) _).setCell (p := ⟨w.heap.size + 1, 1, none⟩) (by dsimp only; omega) _).setCell (p := ⟨w.heap.size + 1, 2, none⟩) (by dsimp only; omega) _).setCell (p := ⟨w.heap.size + 1, 3, none⟩) (by dsimp only; omega) _
      generalize ((((w1.setCell ⟨w.heap.size + 1, 0, none⟩ (.int .i64 mn)).setCell ⟨w.heap.size + 1, 1, none⟩ (.int .i64 sp)).setCell ⟨w.heap.size + 1, 2, none⟩ (.int .i64 wt)).setCell ⟨w.heap.size + 1, 3, none⟩ (.int .i64 tm)) = W4 at *
      have s0 := r2.cell (i := 0) rfl
      have s1 := r2.cell (i := 1) rfl
      have s2 := r2.cell (i := 2) rfl
      have s3 := r2.cell (i := 3) rfl
      refine bodyPost_ret (v := .agg #[(.int .i64 mn), (.int .i64 sp), (.int .i64 wt), (.int .i64 tm)]) (by rw [res_cellP rfl]; clear r2 rB a0 a1 a2 a3 y0 y1 y2 y3 v1 v2 e0 e1 e2 e3 z0 z1; go_simp; done) rfl ⟨by rw [HR.out]; first | done | rfl, rB⟩
    obtain ⟨t0, t1⟩ := of_decide_eq_true ht
    go_wp2_with fail
    refine (Tak.l1InEq ht _).mono ?_
    rintro x w2 ⟨rfl, rfl⟩
    clear ht
    by_cases hz : mn = 0 ∧ sp = 0
    case pos =>
      have q : (mn == 0) = true := by simpa using hz.1
      have q2 : (sp == 0) = true := by simpa using hz.2
      have hM : 0 ≤ 8 * t ∧ 8 * t ≤ 480000 := by omega
      have hS : 0 ≤ 2 * t ∧ 2 * t ≤ 480000 := by omega
      have HR : Hid (measP ⟨mn, sp, wt, tm⟩ t = ⟨8 * t, 2 * t, waitI (8 * t) (2 * t), 0⟩) := by
        show _ = _
        unfold measP
        rw [hb, if_pos rfl, if_pos ⟨t0, t1⟩]
        have e : stepM t (mn, sp) = (8 * t, 2 * t) := by unfold stepM; rw [if_pos hz]
        rw [e]
      clear hb
      have u1 := (v1.set 0 (.int .i64 (8 * t))).set 1 (.int .i64 (2 * t))
      have u2 := (v2.other (p := ⟨w.heap.size, 0, none⟩) (by dsimp only; omega) (.int .i64 (8 * t))).other (p := ⟨w.heap.size, 1, none⟩) (by dsimp only; omega) (.int .i64 (2 * t))
      have B3 := (B1.setCell (p := ⟨w.heap.size, 0, none⟩) (Nat.le_refl _) (.int .i64 (8 * t))).setCell (p := ⟨w.heap.size, 1, none⟩) (Nat.le_refl _) (.int .i64 (2 * t))
      go_upto_region 13 with (fail)
      clear e0 e1 e2 e3 z0 z1 v1 v2 B1
      generalize ((w1.setCell ⟨w.heap.size, 0, none⟩ (.int .i64 (8 * t))).setCell ⟨w.heap.size, 1, none⟩ (.int .i64 (2 * t))) = W3 at *
      generalize 8 * t = M at *
      generalize 2 * t = S at *
      have e0 := u1.cell (i := 0) rfl
      have e1 := u1.cell (i := 1) rfl
      have z2 := u1.free 2
      have z3 := u1.free 3
      have e2 := u1.cell (i := 2) rfl
      have e3 := u1.cell (i := 3) rfl
      go_wp2_with fail
      refine (Tak.l1Min 60000 (M / 8 + S) _).mono ?_
      rintro x w2 ⟨rfl, rfl⟩
      have HW : Hid ((if (if (60000 : Int) < M / 8 + S then (60000 : Int) else M / 8 + S) < 200 then (200 : Int) else (if (60000 : Int) < M / 8 + S then (60000 : Int) else M / 8 + S)) = waitI M S) := by show _ = _; unfold waitI; (repeat' split) <;> omega
      generalize (if (60000 : Int) < M / 8 + S then (60000 : Int) else M / 8 + S) = A0 at *
      go_wp2_with fail
      refine (Draw.l1Max 200 A0 _).mono ?_
      rintro x w2 ⟨rfl, rfl⟩
      rw [HW.out]
      generalize waitI M S = A at *
      replace u1 := (u1.set 2 (.int .i64 A)).set 3 (.int .i64 0)
      replace u2 := (u2.other (p := ⟨w.heap.size, 2, none⟩) (by dsimp only; omega) (.int .i64 A)).other (p := ⟨w.heap.size, 3, none⟩) (by dsimp only; omega) (.int .i64 0)
      replace B3 := (B3.setCell (p := ⟨w.heap.size, 2, none⟩) (Nat.le_refl _) (.int .i64 A)).setCell (p := ⟨w.heap.size, 3, none⟩) (Nat.le_refl _) (.int .i64 0)
      go_upto_region 15 with (fail)
      generalize ((W3.setCell ⟨w.heap.size, 2, none⟩ (.int .i64 A)).setCell ⟨w.heap.size, 3, none⟩ (.int .i64 0)) = W5 at *
      clear e0 e1 e2 e3 z2 z3
      have e0 := u1.cell (i := 0) rfl
      have e1 := u1.cell (i := 1) rfl
      have e2 := u1.cell (i := 2) rfl
      have e3 := u1.cell (i := 3) rfl
      have a0 := u2.cell (i := 0) rfl
      have a1 := u2.cell (i := 1) rfl
      have a2 := u2.cell (i := 2) rfl
      have a3 := u2.cell (i := 3) rfl
      have y0 := u2.free 0
      have y1 := u2.free 1
      have y2 := u2.free 2
      have y3 := u2.free 3
      go_wp2_with fail
      have r2 : Var 25 ((((W5.setCell ⟨w.heap.size + 1, 0, none⟩ (.int .i64 M)).setCell ⟨w.heap.size + 1, 1, none⟩ (.int .i64 S)).setCell ⟨w.heap.size + 1, 2, none⟩ (.int .i64 A)).setCell ⟨w.heap.size + 1, 3, none⟩ (.int .i64 0)) (w.heap.size + 1) [(.int .i64 M), (.int .i64 S), (.int .i64 A), (.int .i64 0)] := (((u2.set 0 _).set 1 _).set 2 _).set 3 _
      have rB : Below w.heap.size w ((((W5.setCell ⟨w.heap.size + 1, 0, none⟩ (.int .i64 M)).setCell ⟨w.heap.size + 1, 1, none⟩ (.int .i64 S)).setCell ⟨w.heap.size + 1, 2, none⟩ (.int .i64 A)).setCell ⟨w.heap.size + 1, 3, none⟩ (.int .i64 0)) := (((B3.setCell (p := ⟨w.heap.size + 1, 0, none⟩) (by dsimp only; omega) _).setCell (p := ⟨w.heap.size + 1, 1, none⟩) (by dsimp only; omega) _).setCell (p := ⟨w.heap.size + 1, 2, none⟩) (by dsimp only; omega) _).setCell (p := ⟨w.heap.size + 1, 3, none⟩) (by dsimp only; omega) _
      generalize ((((W5.setCell ⟨w.heap.size + 1, 0, none⟩ (.int .i64 M)).setCell ⟨w.heap.size + 1, 1, none⟩ (.int .i64 S)).setCell ⟨w.heap.size + 1, 2, none⟩ (.int .i64 A)).setCell ⟨w.heap.size + 1, 3, none⟩ (.int .i64 0)) = W4 at *
      have s0 := r2.cell (i := 0) rfl
      have s1 := r2.cell (i := 1) rfl
      have s2 := r2.cell (i := 2) rfl
      have s3 := r2.cell (i := 3) rfl
      refine bodyPost_ret (v := .agg #[(.int .i64 M), (.int .i64 S), (.int .i64 A), (.int .i64 0)]) (by rw [res_cellP rfl]; clear r2 rB a0 a1 a2 a3 y0 y1 y2 y3 u1 u2 e0 e1 e2 e3; go_simp; done) rfl ⟨by rw [HR.out]; first | done | rfl, rB⟩
    have hif : (mn == 0) = true → (sp == 0) = false := by
      intro q
      simp at q
      simp
      exact fun r => hz ⟨q, r⟩
    by_cases hd : t - mn / 8 < 0
    case pos =>
      cases q : (mn == 0)
      case false =>
        have hM : 0 ≤ mn + (t - mn / 8) ∧ mn + (t - mn / 8) ≤ 480000 := by omega
        have hS : 0 ≤ sp + -(t - mn / 8) - sp / 4 ∧ sp + -(t - mn / 8) - sp / 4 ≤ 480000 := by omega
        have HR : Hid (measP ⟨mn, sp, wt, tm⟩ t = ⟨mn + (t - mn / 8), sp + -(t - mn / 8) - sp / 4, waitI (mn + (t - mn / 8)) (sp + -(t - mn / 8) - sp / 4), 0⟩) := by
          show _ = _
          unfold measP
          rw [hb, if_pos rfl, if_pos ⟨t0, t1⟩]
          have e : stepM t (mn, sp) = (mn + (t - mn / 8), sp + -(t - mn / 8) - sp / 4) := by unfold stepM; rw [if_neg hz, if_pos hd]
          rw [e]
        clear hb
        have u1 := (v1.set 0 (.int .i64 (mn + (t - mn / 8)))).set 1 (.int .i64 (sp + -(t - mn / 8) - sp / 4))
        have u2 := (v2.other (p := ⟨w.heap.size, 0, none⟩) (by dsimp only; omega) (.int .i64 (mn + (t - mn / 8)))).other (p := ⟨w.heap.size, 1, none⟩) (by dsimp only; omega) (.int .i64 (sp + -(t - mn / 8) - sp / 4))
        have B3 := (B1.setCell (p := ⟨w.heap.size, 0, none⟩) (Nat.le_refl _) (.int .i64 (mn + (t - mn / 8)))).setCell (p := ⟨w.heap.size, 1, none⟩) (Nat.le_refl _) (.int .i64 (sp + -(t - mn / 8) - sp / 4))
        go_upto_region 13 with (fail)
        clear e0 e1 e2 e3 z0 z1 v1 v2 B1
        generalize ((w1.setCell ⟨w.heap.size, 0, none⟩ (.int .i64 (mn + (t - mn / 8)))).setCell ⟨w.heap.size, 1, none⟩ (.int .i64 (sp + -(t - mn / 8) - sp / 4))) = W3 at *
        generalize mn + (t - mn / 8) = M at *
        generalize sp + -(t - mn / 8) - sp / 4 = S at *
        have e0 := u1.cell (i := 0) rfl
        have e1 := u1.cell (i := 1) rfl
        have z2 := u1.free 2
        have z3 := u1.free 3
        have e2 := u1.cell (i := 2) rfl
        have e3 := u1.cell (i := 3) rfl
        go_wp2_with fail
        refine (Tak.l1Min 60000 (M / 8 + S) _).mono ?_
        rintro x w2 ⟨rfl, rfl⟩
        have HW : Hid ((if (if (60000 : Int) < M / 8 + S then (60000 : Int) else M / 8 + S) < 200 then (200 : Int) else (if (60000 : Int) < M / 8 + S then (60000 : Int) else M / 8 + S)) = waitI M S) := by show _ = _; unfold waitI; (repeat' split) <;> omega
        generalize (if (60000 : Int) < M / 8 + S then (60000 : Int) else M / 8 + S) = A0 at *
        go_wp2_with fail
        refine (Draw.l1Max 200 A0 _).mono ?_
        rintro x w2 ⟨rfl, rfl⟩
        rw [HW.out]
        generalize waitI M S = A at *
        replace u1 := (u1.set 2 (.int .i64 A)).set 3 (.int .i64 0)
        replace u2 := (u2.other (p := ⟨w.heap.size, 2, none⟩) (by dsimp only; omega) (.int .i64 A)).other (p := ⟨w.heap.size, 3, none⟩) (by dsimp only; omega) (.int .i64 0)
        replace B3 := (B3.setCell (p := ⟨w.heap.size, 2, none⟩) (Nat.le_refl _) (.int .i64 A)).setCell (p := ⟨w.heap.size, 3, none⟩) (Nat.le_refl _) (.int .i64 0)
        go_upto_region 15 with (fail)
        generalize ((W3.setCell ⟨w.heap.size, 2, none⟩ (.int .i64 A)).setCell ⟨w.heap.size, 3, none⟩ (.int .i64 0)) = W5 at *
        clear e0 e1 e2 e3 z2 z3
        have e0 := u1.cell (i := 0) rfl
        have e1 := u1.cell (i := 1) rfl
        have e2 := u1.cell (i := 2) rfl
        have e3 := u1.cell (i := 3) rfl
        have a0 := u2.cell (i := 0) rfl
        have a1 := u2.cell (i := 1) rfl
        have a2 := u2.cell (i := 2) rfl
        have a3 := u2.cell (i := 3) rfl
        have y0 := u2.free 0
        have y1 := u2.free 1
        have y2 := u2.free 2
        have y3 := u2.free 3
        go_wp2_with fail
        have r2 : Var 25 ((((W5.setCell ⟨w.heap.size + 1, 0, none⟩ (.int .i64 M)).setCell ⟨w.heap.size + 1, 1, none⟩ (.int .i64 S)).setCell ⟨w.heap.size + 1, 2, none⟩ (.int .i64 A)).setCell ⟨w.heap.size + 1, 3, none⟩ (.int .i64 0)) (w.heap.size + 1) [(.int .i64 M), (.int .i64 S), (.int .i64 A), (.int .i64 0)] := (((u2.set 0 _).set 1 _).set 2 _).set 3 _
        have rB : Below w.heap.size w ((((W5.setCell ⟨w.heap.size + 1, 0, none⟩ (.int .i64 M)).setCell ⟨w.heap.size + 1, 1, none⟩ (.int .i64 S)).setCell ⟨w.heap.size + 1, 2, none⟩ (.int .i64 A)).setCell ⟨w.heap.size + 1, 3, none⟩ (.int .i64 0)) := (((B3.setCell (p := ⟨w.heap.size + 1, 0, none⟩) (by dsimp only; omega) _).setCell (p := ⟨w.heap.size + 1, 1, none⟩) (by dsimp only; omega) _).setCell (p := ⟨w.heap.size + 1, 2, none⟩) (by dsimp only; omega) _).setCell (p := ⟨w.heap.size + 1, 3, none⟩) (by dsimp only; omega) _
        generalize ((((W5.setCell ⟨w.heap.size + 1, 0, none⟩ (.int .i64 M)).setCell ⟨w.heap.size + 1, 1, none⟩ (.int .i64 S)).setCell ⟨w.heap.size + 1, 2, none⟩ (.int .i64 A)).setCell ⟨w.heap.size + 1, 3, none⟩ (.int .i64 0)) = W4 at *
        have s0 := r2.cell (i := 0) rfl
        have s1 := r2.cell (i := 1) rfl
        have s2 := r2.cell (i := 2) rfl
        have s3 := r2.cell (i := 3) rfl
        refine bodyPost_ret (v := .agg #[(.int .i64 M), (.int .i64 S), (.int .i64 A), (.int .i64 0)]) (by rw [res_cellP rfl]; clear r2 rB a0 a1 a2 a3 y0 y1 y2 y3 u1 u2 e0 e1 e2 e3; go_simp; done) rfl ⟨by rw [HR.out]; first | done | rfl, rB⟩
      case true =>
        have q2 := hif q
        have hM : 0 ≤ mn + (t - mn / 8) ∧ mn + (t - mn / 8) ≤ 480000 := by omega
        have hS : 0 ≤ sp + -(t - mn / 8) - sp / 4 ∧ sp + -(t - mn / 8) - sp / 4 ≤ 480000 := by omega
        have HR : Hid (measP ⟨mn, sp, wt, tm⟩ t = ⟨mn + (t - mn / 8), sp + -(t - mn / 8) - sp / 4, waitI (mn + (t - mn / 8)) (sp + -(t - mn / 8) - sp / 4), 0⟩) := by
          show _ = _
          unfold measP
          rw [hb, if_pos rfl, if_pos ⟨t0, t1⟩]
          have e : stepM t (mn, sp) = (mn + (t - mn / 8), sp + -(t - mn / 8) - sp / 4) := by unfold stepM; rw [if_neg hz, if_pos hd]
          rw [e]
        clear hb
        have u1 := (v1.set 0 (.int .i64 (mn + (t - mn / 8)))).set 1 (.int .i64 (sp + -(t - mn / 8) - sp / 4))
        have u2 := (v2.other (p := ⟨w.heap.size, 0, none⟩) (by dsimp only; omega) (.int .i64 (mn + (t - mn / 8)))).other (p := ⟨w.heap.size, 1, none⟩) (by dsimp only; omega) (.int .i64 (sp + -(t - mn / 8) - sp / 4))
        have B3 := (B1.setCell (p := ⟨w.heap.size, 0, none⟩) (Nat.le_refl _) (.int .i64 (mn + (t - mn / 8)))).setCell (p := ⟨w.heap.size, 1, none⟩) (Nat.le_refl _) (.int .i64 (sp + -(t - mn / 8) - sp / 4))
        go_upto_region 13 with (fail)
        clear e0 e1 e2 e3 z0 z1 v1 v2 B1
        generalize ((w1.setCell ⟨w.heap.size, 0, none⟩ (.int .i64 (mn + (t - mn / 8)))).setCell ⟨w.heap.size, 1, none⟩ (.int .i64 (sp + -(t - mn / 8) - sp / 4))) = W3 at *
        generalize mn + (t - mn / 8) = M at *
        generalize sp + -(t - mn / 8) - sp / 4 = S at *
        have e0 := u1.cell (i := 0) rfl
        have e1 := u1.cell (i := 1) rfl
        have z2 := u1.free 2
        have z3 := u1.free 3
        have e2 := u1.cell (i := 2) rfl
        have e3 := u1.cell (i := 3) rfl
        go_wp2_with fail
        refine (Tak.l1Min 60000 (M / 8 + S) _).mono ?_
        rintro x w2 ⟨rfl, rfl⟩
        have HW : Hid ((if (if (60000 : Int) < M / 8 + S then (60000 : Int) else M / 8 + S) < 200 then (200 : Int) else (if (60000 : Int) < M / 8 + S then (60000 : Int) else M / 8 + S)) = waitI M S) := by show _ = _; unfold waitI; (repeat' split) <;> omega
        generalize (if (60000 : Int) < M / 8 + S then (60000 : Int) else M / 8 + S) = A0 at *
        go_wp2_with fail
        refine (Draw.l1Max 200 A0 _).mono ?_
        rintro x w2 ⟨rfl, rfl⟩
        rw [HW.out]
        generalize waitI M S = A at *
        replace u1 := (u1.set 2 (.int .i64 A)).set 3 (.int .i64 0)
        replace u2 := (u2.other (p := ⟨w.heap.size, 2, none⟩) (by dsimp only; omega) (.int .i64 A)).other (p := ⟨w.heap.size, 3, none⟩) (by dsimp only; omega) (.int .i64 0)
        replace B3 := (B3.setCell (p := ⟨w.heap.size, 2, none⟩) (Nat.le_refl _) (.int .i64 A)).setCell (p := ⟨w.heap.size, 3, none⟩) (Nat.le_refl _) (.int .i64 0)
        go_upto_region 15 with (fail)
        generalize ((W3.setCell ⟨w.heap.size, 2, none⟩ (.int .i64 A)).setCell ⟨w.heap.size, 3, none⟩ (.int .i64 0)) = W5 at *
        clear e0 e1 e2 e3 z2 z3
        have e0 := u1.cell (i := 0) rfl
        have e1 := u1.cell (i := 1) rfl
        have e2 := u1.cell (i := 2) rfl
        have e3 := u1.cell (i := 3) rfl
        have a0 := u2.cell (i := 0) rfl
        have a1 := u2.cell (i := 1) rfl
        have a2 := u2.cell (i := 2) rfl
        have a3 := u2.cell (i := 3) rfl
        have y0 := u2.free 0
        have y1 := u2.free 1
        have y2 := u2.free 2
        have y3 := u2.free 3
        go_wp2_with fail
        have r2 : Var 25 ((((W5.setCell ⟨w.heap.size + 1, 0, none⟩ (.int .i64 M)).setCell ⟨w.heap.size + 1, 1, none⟩ (.int .i64 S)).setCell ⟨w.heap.size + 1, 2, none⟩ (.int .i64 A)).setCell ⟨w.heap.size + 1, 3, none⟩ (.int .i64 0)) (w.heap.size + 1) [(.int .i64 M), (.int .i64 S), (.int .i64 A), (.int .i64 0)] := (((u2.set 0 _).set 1 _).set 2 _).set 3 _
        have rB : Below w.heap.size w ((((W5.setCell ⟨w.heap.size + 1, 0, none⟩ (.int .i64 M)).setCell ⟨w.heap.size + 1, 1, none⟩ (.int .i64 S)).setCell ⟨w.heap.size + 1, 2, none⟩ (.int .i64 A)).setCell ⟨w.heap.size + 1, 3, none⟩ (.int .i64 0)) := (((B3.setCell (p := ⟨w.heap.size + 1, 0, none⟩) (by dsimp only; omega) _).setCell (p := ⟨w.heap.size + 1, 1, none⟩) (by dsimp only; omega) _).setCell (p := ⟨w.heap.size + 1, 2, none⟩) (by dsimp only; omega) _).setCell (p := ⟨w.heap.size + 1, 3, none⟩) (by dsimp only; omega) _
        generalize ((((W5.setCell ⟨w.heap.size + 1, 0, none⟩ (.int .i64 M)).setCell ⟨w.heap.size + 1, 1, none⟩ (.int .i64 S)).setCell ⟨w.heap.size + 1, 2, none⟩ (.int .i64 A)).setCell ⟨w.heap.size + 1, 3, none⟩ (.int .i64 0)) = W4 at *
        have s0 := r2.cell (i := 0) rfl
        have s1 := r2.cell (i := 1) rfl
        have s2 := r2.cell (i := 2) rfl
        have s3 := r2.cell (i := 3) rfl
        refine bodyPost_ret (v := .agg #[(.int .i64 M), (.int .i64 S), (.int .i64 A), (.int .i64 0)]) (by rw [res_cellP rfl]; clear r2 rB a0 a1 a2 a3 y0 y1 y2 y3 u1 u2 e0 e1 e2 e3; go_simp; done) rfl ⟨by rw [HR.out]; first | done | rfl, rB⟩
    case neg =>
      cases q : (mn == 0)
      case false =>
        have hM : 0 ≤ mn + (t - mn / 8) ∧ mn + (t - mn / 8) ≤ 480000 := by omega
        have hS : 0 ≤ sp + (t - mn / 8) - sp / 4 ∧ sp + (t - mn / 8) - sp / 4 ≤ 480000 := by omega
        have HR : Hid (measP ⟨mn, sp, wt, tm⟩ t = ⟨mn + (t - mn / 8), sp + (t - mn / 8) - sp / 4, waitI (mn + (t - mn / 8)) (sp + (t - mn / 8) - sp / 4), 0⟩) := by
          show _ = _
          unfold measP
          rw [hb, if_pos rfl, if_pos ⟨t0, t1⟩]
          have e : stepM t (mn, sp) = (mn + (t - mn / 8), sp + (t - mn / 8) - sp / 4) := by unfold stepM; rw [if_neg hz, if_neg hd]
          rw [e]
        clear hb
        have u1 := (v1.set 0 (.int .i64 (mn + (t - mn / 8)))).set 1 (.int .i64 (sp + (t - mn / 8) - sp / 4))
        have u2 := (v2.other (p := ⟨w.heap.size, 0, none⟩) (by dsimp only; omega) (.int .i64 (mn + (t - mn / 8)))).other (p := ⟨w.heap.size, 1, none⟩) (by dsimp only; omega) (.int .i64 (sp + (t - mn / 8) - sp / 4))
        have B3 := (B1.setCell (p := ⟨w.heap.size, 0, none⟩) (Nat.le_refl _) (.int .i64 (mn + (t - mn / 8)))).setCell (p := ⟨w.heap.size, 1, none⟩) (Nat.le_refl _) (.int .i64 (sp + (t - mn / 8) - sp / 4))
        go_upto_region 13 with (fail)
        clear e0 e1 e2 e3 z0 z1 v1 v2 B1
        generalize ((w1.setCell ⟨w.heap.size, 0, none⟩ (.int .i64 (mn + (t - mn / 8)))).setCell ⟨w.heap.size, 1, none⟩ (.int .i64 (sp + (t - mn / 8) - sp / 4))) = W3 at *
        generalize mn + (t - mn / 8) = M at *
        generalize sp + (t - mn / 8) - sp / 4 = S at *
        have e0 := u1.cell (i := 0) rfl
        have e1 := u1.cell (i := 1) rfl
        have z2 := u1.free 2
        have z3 := u1.free 3
        have e2 := u1.cell (i := 2) rfl
        have e3 := u1.cell (i := 3) rfl
        go_wp2_with fail
        refine (Tak.l1Min 60000 (M / 8 + S) _).mono ?_
        rintro x w2 ⟨rfl, rfl⟩
        have HW : Hid ((if (if (60000 : Int) < M / 8 + S then (60000 : Int) else M / 8 + S) < 200 then (200 : Int) else (if (60000 : Int) < M / 8 + S then (60000 : Int) else M / 8 + S)) = waitI M S) := by show _ = _; unfold waitI; (repeat' split) <;> omega
        generalize (if (60000 : Int) < M / 8 + S then (60000 : Int) else M / 8 + S) = A0 at *
        go_wp2_with fail
        refine (Draw.l1Max 200 A0 _).mono ?_
        rintro x w2 ⟨rfl, rfl⟩
        rw [HW.out]
        generalize waitI M S = A at *
        replace u1 := (u1.set 2 (.int .i64 A)).set 3 (.int .i64 0)
        replace u2 := (u2.other (p := ⟨w.heap.size, 2, none⟩) (by dsimp only; omega) (.int .i64 A)).other (p := ⟨w.heap.size, 3, none⟩) (by dsimp only; omega) (.int .i64 0)
        replace B3 := (B3.setCell (p := ⟨w.heap.size, 2, none⟩) (Nat.le_refl _) (.int .i64 A)).setCell (p := ⟨w.heap.size, 3, none⟩) (Nat.le_refl _) (.int .i64 0)
        go_upto_region 15 with (fail)
        generalize ((W3.setCell ⟨w.heap.size, 2, none⟩ (.int .i64 A)).setCell ⟨w.heap.size, 3, none⟩ (.int .i64 0)) = W5 at *
        clear e0 e1 e2 e3 z2 z3
        have e0 := u1.cell (i := 0) rfl
        have e1 := u1.cell (i := 1) rfl
        have e2 := u1.cell (i := 2) rfl
        have e3 := u1.cell (i := 3) rfl
        have a0 := u2.cell (i := 0) rfl
        have a1 := u2.cell (i := 1) rfl
        have a2 := u2.cell (i := 2) rfl
        have a3 := u2.cell (i := 3) rfl
        have y0 := u2.free 0
        have y1 := u2.free 1
        have y2 := u2.free 2
        have y3 := u2.free 3
        go_wp2_with fail
        have r2 : Var 25 ((((W5.setCell ⟨w.heap.size + 1, 0, none⟩ (.int .i64 M)).setCell ⟨w.heap.size + 1, 1, none⟩ (.int .i64 S)).setCell ⟨w.heap.size + 1, 2, none⟩ (.int .i64 A)).setCell ⟨w.heap.size + 1, 3, none⟩ (.int .i64 0)) (w.heap.size + 1) [(.int .i64 M), (.int .i64 S), (.int .i64 A), (.int .i64 0)] := (((u2.set 0 _).set 1 _).set 2 _).set 3 _
        have rB : Below w.heap.size w ((((W5.setCell ⟨w.heap.size + 1, 0, none⟩ (.int .i64 M)).setCell ⟨w.heap.size + 1, 1, none⟩ (.int .i64 S)).setCell ⟨w.heap.size + 1, 2, none⟩ (.int .i64 A)).setCell ⟨w.heap.size + 1, 3, none⟩ (.int .i64 0)) := (((B3.setCell (p := ⟨w.heap.size + 1, 0, none⟩) (by dsimp only; omega) _).setCell (p := ⟨w.heap.size + 1, 1, none⟩) (by dsimp only; omega) _).setCell (p := ⟨w.heap.size + 1, 2, none⟩) (by dsimp only; omega) _).setCell (p := ⟨w.heap.size + 1, 3, none⟩) (by dsimp only; omega) _
        generalize ((((W5.setCell ⟨w.heap.size + 1, 0, none⟩ (.int .i64 M)).setCell ⟨w.heap.size + 1, 1, none⟩ (.int .i64 S)).setCell ⟨w.heap.size + 1, 2, none⟩ (.int .i64 A)).setCell ⟨w.heap.size + 1, 3, none⟩ (.int .i64 0)) = W4 at *
        have s0 := r2.cell (i := 0) rfl
        have s1 := r2.cell (i := 1) rfl
        have s2 := r2.cell (i := 2) rfl
        have s3 := r2.cell (i := 3) rfl
        refine bodyPost_ret (v := .agg #[(.int .i64 M), (.int .i64 S), (.int .i64 A), (.int .i64 0)]) (by rw [res_cellP rfl]; clear r2 rB a0 a1 a2 a3 y0 y1 y2 y3 u1 u2 e0 e1 e2 e3; go_simp; done) rfl ⟨by rw [HR.out]; first | done | rfl, rB⟩
      case true =>
        have q2 := hif q
        have hM : 0 ≤ mn + (t - mn / 8) ∧ mn + (t - mn / 8) ≤ 480000 := by omega
        have hS : 0 ≤ sp + (t - mn / 8) - sp / 4 ∧ sp + (t - mn / 8) - sp / 4 ≤ 480000 := by omega
        have HR : Hid (measP ⟨mn, sp, wt, tm⟩ t = ⟨mn + (t - mn / 8), sp + (t - mn / 8) - sp / 4, waitI (mn + (t - mn / 8)) (sp + (t - mn / 8) - sp / 4), 0⟩) := by
          show _ = _
          unfold measP
          rw [hb, if_pos rfl, if_pos ⟨t0, t1⟩]
          have e : stepM t (mn, sp) = (mn + (t - mn / 8), sp + (t - mn / 8) - sp / 4) := by unfold stepM; rw [if_neg hz, if_neg hd]
          rw [e]
        clear hb
        have u1 := (v1.set 0 (.int .i64 (mn + (t - mn / 8)))).set 1 (.int .i64 (sp + (t - mn / 8) - sp / 4))
        have u2 := (v2.other (p := ⟨w.heap.size, 0, none⟩) (by dsimp only; omega) (.int .i64 (mn + (t - mn / 8)))).other (p := ⟨w.heap.size, 1, none⟩) (by dsimp only; omega) (.int .i64 (sp + (t - mn / 8) - sp / 4))
        have B3 := (B1.setCell (p := ⟨w.heap.size, 0, none⟩) (Nat.le_refl _) (.int .i64 (mn + (t - mn / 8)))).setCell (p := ⟨w.heap.size, 1, none⟩) (Nat.le_refl _) (.int .i64 (sp + (t - mn / 8) - sp / 4))
        go_upto_region 13 with (fail)
        clear e0 e1 e2 e3 z0 z1 v1 v2 B1
        generalize ((w1.setCell ⟨w.heap.size, 0, none⟩ (.int .i64 (mn + (t - mn / 8)))).setCell ⟨w.heap.size, 1, none⟩ (.int .i64 (sp + (t - mn / 8) - sp / 4))) = W3 at *
        generalize mn + (t - mn / 8) = M at *
        generalize sp + (t - mn / 8) - sp / 4 = S at *
        have e0 := u1.cell (i := 0) rfl
        have e1 := u1.cell (i := 1) rfl
        have z2 := u1.free 2
        have z3 := u1.free 3
        have e2 := u1.cell (i := 2) rfl
        have e3 := u1.cell (i := 3) rfl
        go_wp2_with fail
        refine (Tak.l1Min 60000 (M / 8 + S) _).mono ?_
        rintro x w2 ⟨rfl, rfl⟩
        have HW : Hid ((if (if (60000 : Int) < M / 8 + S then (60000 : Int) else M / 8 + S) < 200 then (200 : Int) else (if (60000 : Int) < M / 8 + S then (60000 : Int) else M / 8 + S)) = waitI M S) := by show _ = _; unfold waitI; (repeat' split) <;> omega
        generalize (if (60000 : Int) < M / 8 + S then (60000 : Int) else M / 8 + S) = A0 at *
        go_wp2_with fail
        refine (Draw.l1Max 200 A0 _).mono ?_
        rintro x w2 ⟨rfl, rfl⟩
        rw [HW.out]
        generalize waitI M S = A at *
        replace u1 := (u1.set 2 (.int .i64 A)).set 3 (.int .i64 0)
        replace u2 := (u2.other (p := ⟨w.heap.size, 2, none⟩) (by dsimp only; omega) (.int .i64 A)).other (p := ⟨w.heap.size, 3, none⟩) (by dsimp only; omega) (.int .i64 0)
        replace B3 := (B3.setCell (p := ⟨w.heap.size, 2, none⟩) (Nat.le_refl _) (.int .i64 A)).setCell (p := ⟨w.heap.size, 3, none⟩) (Nat.le_refl _) (.int .i64 0)
        go_upto_region 15 with (fail)
        generalize ((W3.setCell ⟨w.heap.size, 2, none⟩ (.int .i64 A)).setCell ⟨w.heap.size, 3, none⟩ (.int .i64 0)) = W5 at *
        clear e0 e1 e2 e3 z2 z3
        have e0 := u1.cell (i := 0) rfl
        have e1 := u1.cell (i := 1) rfl
        have e2 := u1.cell (i := 2) rfl
        have e3 := u1.cell (i := 3) rfl
        have a0 := u2.cell (i := 0) rfl
        have a1 := u2.cell (i := 1) rfl
        have a2 := u2.cell (i := 2) rfl
        have a3 := u2.cell (i := 3) rfl
        have y0 := u2.free 0
        have y1 := u2.free 1
        have y2 := u2.free 2
        have y3 := u2.free 3
        go_wp2_with fail
        have r2 : Var 25 ((((W5.setCell ⟨w.heap.size + 1, 0, none⟩ (.int .i64 M)).setCell ⟨w.heap.size + 1, 1, none⟩ (.int .i64 S)).setCell ⟨w.heap.size + 1, 2, none⟩ (.int .i64 A)).setCell ⟨w.heap.size + 1, 3, none⟩ (.int .i64 0)) (w.heap.size + 1) [(.int .i64 M), (.int .i64 S), (.int .i64 A), (.int .i64 0)] := (((u2.set 0 _).set 1 _).set 2 _).set 3 _
        have rB : Below w.heap.size w ((((W5.setCell ⟨w.heap.size + 1, 0, none⟩ (.int .i64 M)).setCell ⟨w.heap.size + 1, 1, none⟩ (.int .i64 S)).setCell ⟨w.heap.size + 1, 2, none⟩ (.int .i64 A)).setCell ⟨w.heap.size + 1, 3, none⟩ (.int .i64 0)) := (((B3.setCell (p := ⟨w.heap.size + 1, 0, none⟩) (by dsimp only; omega) _).setCell (p := ⟨w.heap.size + 1, 1, none⟩) (by dsimp only; omega) _).setCell (p := ⟨w.heap.size + 1, 2, none⟩) (by dsimp only; omega) _).setCell (p := ⟨w.heap.size + 1, 3, none⟩) (by dsimp only; omega) _
        generalize ((((W5.setCell ⟨w.heap.size + 1, 0, none⟩ (.int .i64 M)).setCell ⟨w.heap.size + 1, 1, none⟩ (.int .i64 S)).setCell ⟨w.heap.size + 1, 2, none⟩ (.int .i64 A)).setCell ⟨w.heap.size + 1, 3, none⟩ (.int .i64 0)) = W4 at *
        have s0 := r2.cell (i := 0) rfl
        have s1 := r2.cell (i := 1) rfl
        have s2 := r2.cell (i := 2) rfl
        have s3 := r2.cell (i := 3) rfl
        refine bodyPost_ret (v := .agg #[(.int .i64 M), (.int .i64 S), (.int .i64 A), (.int .i64 0)]) (by rw [res_cellP rfl]; clear r2 rB a0 a1 a2 a3 y0 y1 y2 y3 u1 u2 e0 e1 e2 e3; go_simp; done) rfl ⟨by rw [HR.out]; first | done | rfl, rB⟩

end Go.Proofs.Ytbmfnkdcbdkcdaa.Pac
