/- Contracts of the program's Longer and of its measures (chapter 9); no condition. -/
import Derived.Test.YtbmfnkdcbdkcdaaPacP
import Derived.ChangeKeysEq
namespace Go.Proofs.Ytbmfnkdcbdkcdaa.Pac
open Go.RowKit RowG
set_option linter.unusedVariables false
set_option linter.unusedSimpArgs false

theorem eqMeas {m s a b : Int} {v : Bool} (h : (m == a && s == b) = v) (w : World) : (Op.equalIn 10000 46 (.agg #[.int .i64 m, .int .i64 s]) (.agg #[.int .i64 a, .int .i64 b])).run Try.prog w = .ok v w := by
  subst h
  have hu : Try.prog.underlying 46 = some (.array 2 2) := by kernel_rfl
  have he : Try.prog.underlying 2 = some (.int .i64) := by kernel_rfl
  have hp : Try.prog.plainKey 2 = true := by kernel_rfl
  have hc : Try.prog.cellsOf 2 = 1 := by kernel_rfl
  obtain ⟨i, hi⟩ := Option.isSome_iff_exists.1 (by kernel_rfl : (Try.prog.info? 2).isSome = true)
  rw [show (10000 : Nat) = 9998 + 1 + 1 from rfl, run_equalIn_array w (9998 + 1) _ _ hu hi, hc]
  show (Op.eqItems (9998 + 1) 2 1 #[.int .i64 m, .int .i64 s] #[.int .i64 a, .int .i64 b] [0, 1]).run Try.prog w = _
  have p0 : ∀ x y : Int, (part 2 #[.int .i64 x, .int .i64 y] 0).run Try.prog w = .ok (.int .i64 x) w := fun x y => run_part_plain w hp rfl
  have p1 : ∀ x y : Int, (part 2 #[.int .i64 x, .int .i64 y] 1).run Try.prog w = .ok (.int .i64 y) w := fun x y => run_part_plain w hp rfl
  have q0 : ∀ x y : Int, (Op.equalIn 9999 2 (.int .i64 x) (.int .i64 y)).run Try.prog w = .ok (x == y) w := fun x y => run_equalIn_int w 9998 _ .i64 .i64 x y he
  cases ha : (m == a) <;> cases hb : (s == b) <;> simp [Op.eqItems, p0, p1, q0, ha, hb]

set_option maxHeartbeats 2000000 in
theorem measuresOf (p : Pc) (w : World) : Calls Try.prog 26 #[p.v] w fun x w' => x = .returned (.agg #[.int .i64 p.mn, .int .i64 p.sp]) ∧ Below w.heap.size w w' := by
  obtain ⟨mn, sp, wt, tm⟩ := p
  dsimp only [Pc.v]
  go_enter Try.func26, Try.ntmps26
  go_wp2_with fail
  exact bodyPost_ret (v := .agg #[.int .i64 mn, .int .i64 sp]) (by rw [res_cellP rfl]; go_simp) rfl ⟨rfl, ((Below.refl _ _).alloc (Nat.le_refl _) _).alloc (by simp) _⟩

set_option maxHeartbeats 2000000 in
theorem firstMeasures (t : Int) (w : World) (h0 : 0 ≤ t) (h1 : t ≤ 60000) : Calls Try.prog 37 #[.int .i64 t] w fun x w' => x = .returned (.agg #[.int .i64 (8 * t), .int .i64 (2 * t)]) ∧ Below w.heap.size w w' := by
  go_enter Try.func37, Try.ntmps37
  go_wp2_with fail
  have h2 : 4 * t / 2 = 2 * t := by omega
  rw [h2]
  exact bodyPost_ret (v := .agg #[.int .i64 (8 * t), .int .i64 (2 * t)]) (by rw [res_cellP rfl]; go_simp) rfl ⟨rfl, (Below.refl _ _).alloc (Nat.le_refl _) _⟩

set_option maxHeartbeats 2000000 in
theorem withT (m s t : Int) (w : World) (h : Ok t (m, s)) : Calls Try.prog 27 #[.agg #[.int .i64 m, .int .i64 s], .int .i64 t] w fun x w' => x = .returned (.agg #[.int .i64 (stepM t (m, s)).1, .int .i64 (stepM t (m, s)).2]) ∧ Below w.heap.size w w' := by
  obtain ⟨h0, h1, h2, h3, h4, h5⟩ := h
  dsimp only at h2 h3 h4 h5
  by_cases hz : m = 0 ∧ s = 0
  case pos =>
    obtain ⟨rfl, rfl⟩ := hz
    have HR : Hid (stepM t (0, 0) = (8 * t, 2 * t)) := rfl
    rw [HR.out]
    have hq := eqMeas (m := 0) (s := 0) (a := 0) (b := 0) (v := true) rfl
    have v2 : Var 46 ((w.alloc (.cells #[.int .i64 0, .int .i64 0] 46)).alloc (.cells #[.int .i64 0, .int .i64 0] 46)) (w.heap.size + 1) [.int .i64 0, .int .i64 0] := by
      have q := Var.new (T := 46) (w.alloc (.cells #[.int .i64 0, .int .i64 0] 46)) [.int .i64 0, .int .i64 0]
      simpa using q
    have b0 : Below w.heap.size w ((w.alloc (.cells #[.int .i64 0, .int .i64 0] 46)).alloc (.cells #[.int .i64 0, .int .i64 0] 46)) := ((Below.refl _ _).alloc (Nat.le_refl _) _).alloc (by simp) _
    go_enter Try.func27, Try.ntmps27
    go_wp2_with fail
    refine (firstMeasures t _ h0 h1).mono ?_
    rintro x w1 ⟨rfl, b1⟩
    replace v2 := v2.later b1
    have B1 := b0.trans (b1.mono b0.size)
    clear b0 b1 hq
    have a0 := v2.cell (i := 0) rfl
    have a1 := v2.cell (i := 1) rfl
    have y0 := v2.free 0
    have y1 := v2.free 1
    go_wp2_with fail
    have r2 : Var 46 ((w1.setCell ⟨w.heap.size + 1, 0, none⟩ (.int .i64 (8 * t))).setCell ⟨w.heap.size + 1, 1, none⟩ (.int .i64 (2 * t))) (w.heap.size + 1) [.int .i64 (8 * t), .int .i64 (2 * t)] := (v2.set 0 _).set 1 _
    have rB : Below w.heap.size w ((w1.setCell ⟨w.heap.size + 1, 0, none⟩ (.int .i64 (8 * t))).setCell ⟨w.heap.size + 1, 1, none⟩ (.int .i64 (2 * t))) := (B1.setCell (p := ⟨w.heap.size + 1, 0, none⟩) (by dsimp only; omega) _).setCell (p := ⟨w.heap.size + 1, 1, none⟩) (by dsimp only; omega) _
    generalize ((w1.setCell ⟨w.heap.size + 1, 0, none⟩ (.int .i64 (8 * t))).setCell ⟨w.heap.size + 1, 1, none⟩ (.int .i64 (2 * t))) = W4 at *
    have s0 := r2.cell (i := 0) rfl
    have s1 := r2.cell (i := 1) rfl
    exact bodyPost_ret (v := .agg #[.int .i64 (8 * t), .int .i64 (2 * t)]) (by rw [res_cellP rfl]; clear r2 rB v2 a0 a1 y0 y1; go_simp; done) rfl ⟨rfl, rB⟩
  have hq := eqMeas (m := m) (s := s) (a := 0) (b := 0) (v := false) (by rw [Bool.eq_false_iff]; simpa using hz)
  by_cases hd : t - m / 8 < 0
  case pos =>
    have HR : Hid (stepM t (m, s) = (m + (t - m / 8), s + (-(t - m / 8) - s / 4))) := by show _ = _; unfold stepM; rw [if_neg hz, if_pos hd]; rw [Prod.mk.injEq]; exact ⟨rfl, by omega⟩
    rw [HR.out]
    have hmx : (if t - m / 8 < -(t - m / 8) then -(t - m / 8) else t - m / 8) = -(t - m / 8) := if_pos (by omega)
    go_enter Try.func27, Try.ntmps27
    go_wp2_with fail
    all_goals exact bodyPost_ret (v := .agg #[.int .i64 (m + (t - m / 8)), .int .i64 (s + (-(t - m / 8) - s / 4))]) (by rw [res_cellP rfl]; go_simp) rfl ⟨rfl, ((Below.refl _ _).alloc (Nat.le_refl _) _).alloc (by simp) _⟩
  case neg =>
    have HR : Hid (stepM t (m, s) = (m + (t - m / 8), s + ((t - m / 8) - s / 4))) := by show _ = _; unfold stepM; rw [if_neg hz, if_neg hd]; rw [Prod.mk.injEq]; exact ⟨rfl, by omega⟩
    rw [HR.out]
    have hmx : (if t - m / 8 < -(t - m / 8) then -(t - m / 8) else t - m / 8) = (t - m / 8) := if_neg (by omega)
    go_enter Try.func27, Try.ntmps27
    go_wp2_with fail
    all_goals exact bodyPost_ret (v := .agg #[.int .i64 (m + (t - m / 8)), .int .i64 (s + ((t - m / 8) - s / 4))]) (by rw [res_cellP rfl]; go_simp) rfl ⟨rfl, ((Below.refl _ _).alloc (Nat.le_refl _) _).alloc (by simp) _⟩

set_option maxRecDepth 10000 in
set_option maxHeartbeats 4000000 in
theorem implLonger (p : Pc) (w : World) : Calls Try.prog 13 #[p.v] w fun x w' => x = .returned (longP p).v ∧ Below w.heap.size w w' := by
  have hOK := fun w' => implPaceOk p w'
  obtain ⟨mn, sp, wt, tm⟩ := p
  dsimp only [Pc.v] at hOK ⊢
  have v1 : Var 25 ((w.alloc (.cells #[.int .i64 mn, .int .i64 sp, .int .i64 wt, .int .i64 tm] 25)).alloc (.cells #[.int .i64 0, .int .i64 0, .int .i64 0, .int .i64 0] 25)) w.heap.size [.int .i64 mn, .int .i64 sp, .int .i64 wt, .int .i64 tm] := (Var.new w [.int .i64 mn, .int .i64 sp, .int .i64 wt, .int .i64 tm]).alloc _
  have v2 : Var 25 ((w.alloc (.cells #[.int .i64 mn, .int .i64 sp, .int .i64 wt, .int .i64 tm] 25)).alloc (.cells #[.int .i64 0, .int .i64 0, .int .i64 0, .int .i64 0] 25)) (w.heap.size + 1) [.int .i64 0, .int .i64 0, .int .i64 0, .int .i64 0] := by
    have q := Var.new (T := 25) (w.alloc (.cells #[.int .i64 mn, .int .i64 sp, .int .i64 wt, .int .i64 tm] 25)) [.int .i64 0, .int .i64 0, .int .i64 0, .int .i64 0]
    simpa using q
  have b0 : Below w.heap.size w ((w.alloc (.cells #[.int .i64 mn, .int .i64 sp, .int .i64 wt, .int .i64 tm] 25)).alloc (.cells #[.int .i64 0, .int .i64 0, .int .i64 0, .int .i64 0] 25)) := ((Below.refl _ _).alloc (Nat.le_refl _) _).alloc (by simp) _
  go_enter Try.func13, Try.ntmps13
  go_wp2_with fail
  refine (hOK _).mono ?_
  rintro x w1 ⟨rfl, b1⟩
  replace v1 := v1.later b1
  replace v2 := v2.later b1
  have B1 := b0.trans (b1.mono b0.size)
  have hw1 : w.heap.size + 1 < w1.heap.size := v2.lt
  clear b0 b1 hOK
  cases hb : paceB ⟨mn, sp, wt, tm⟩
  · have HR : Hid (longP ⟨mn, sp, wt, tm⟩ = zeroP) := by show _ = _; unfold longP; rw [hb]; rfl
    have a0 := v2.cell (i := 0) rfl
    have a1 := v2.cell (i := 1) rfl
    have a2 := v2.cell (i := 2) rfl
    have a3 := v2.cell (i := 3) rfl
    have y0 := v2.free 0
    have y1 := v2.free 1
    have y2 := v2.free 2
    have y3 := v2.free 3
    go_wp2_with fail
    have r2 : Var 25 ((((w1.setCell ⟨w.heap.size + 1, 0, none⟩ (.int .i64 0)).setCell ⟨w.heap.size + 1, 1, none⟩ (.int .i64 0)).setCell ⟨w.heap.size + 1, 2, none⟩ (.int .i64 0)).setCell ⟨w.heap.size + 1, 3, none⟩ (.int .i64 0)) (w.heap.size + 1) [.int .i64 0, .int .i64 0, .int .i64 0, .int .i64 0] := ((((v2.set 0 _).set 1 _).set 2 _).set 3 _)
    have rB : Below w.heap.size w ((((w1.setCell ⟨w.heap.size + 1, 0, none⟩ (.int .i64 0)).setCell ⟨w.heap.size + 1, 1, none⟩ (.int .i64 0)).setCell ⟨w.heap.size + 1, 2, none⟩ (.int .i64 0)).setCell ⟨w.heap.size + 1, 3, none⟩ (.int .i64 0)) := ((((B1.setCell (p := ⟨w.heap.size + 1, 0, none⟩) (by dsimp only; omega) _).setCell (p := ⟨w.heap.size + 1, 1, none⟩) (by dsimp only; omega) _).setCell (p := ⟨w.heap.size + 1, 2, none⟩) (by dsimp only; omega) _).setCell (p := ⟨w.heap.size + 1, 3, none⟩) (by dsimp only; omega) _)
    generalize ((((w1.setCell ⟨w.heap.size + 1, 0, none⟩ (.int .i64 0)).setCell ⟨w.heap.size + 1, 1, none⟩ (.int .i64 0)).setCell ⟨w.heap.size + 1, 2, none⟩ (.int .i64 0)).setCell ⟨w.heap.size + 1, 3, none⟩ (.int .i64 0)) = W4 at *
    have s0 := r2.cell (i := 0) rfl
    have s1 := r2.cell (i := 1) rfl
    have s2 := r2.cell (i := 2) rfl
    have s3 := r2.cell (i := 3) rfl
    refine bodyPost_ret (v := .agg #[.int .i64 0, .int .i64 0, .int .i64 0, .int .i64 0]) (by rw [res_cellP rfl]; clear r2 rB v1 v2 a0 a1 a2 a3 y0 y1 y2 y3; go_simp; done) rfl ⟨by rw [HR.out]; rfl, rB⟩
  · obtain ⟨h1, h2, h3, h4⟩ := pace_iff.1 hb
    dsimp only at h1 h2 h3 h4
    have HR : Hid (longP ⟨mn, sp, wt, tm⟩ = ⟨mn, sp, if 60000 < 2 * wt then 60000 else 2 * wt, if 20 < tm + 1 then 20 else tm + 1⟩) := by show _ = _; unfold longP; rw [hb]; rfl
    have e0 := v1.cell (i := 0) rfl
    have e1 := v1.cell (i := 1) rfl
    have e2 := v1.cell (i := 2) rfl
    have e3 := v1.cell (i := 3) rfl
    have z2 := v1.free 2
    have z3 := v1.free 3
    clear hb
    go_upto_region 5 with (fail)
    generalize (if 60000 < 2 * wt then (60000 : Int) else 2 * wt) = A at *
    generalize (if 20 < tm + 1 then (20 : Int) else tm + 1) = B at *
    have u1 := (v1.set 2 (.int .i64 A)).set 3 (.int .i64 B)
    have u2 := (v2.other (p := ⟨w.heap.size, 2, none⟩) (by dsimp only; omega) (.int .i64 A)).other (p := ⟨w.heap.size, 3, none⟩) (by dsimp only; omega) (.int .i64 B)
    have B3 := (B1.setCell (p := ⟨w.heap.size, 2, none⟩) (Nat.le_refl _) (.int .i64 A)).setCell (p := ⟨w.heap.size, 3, none⟩) (Nat.le_refl _) (.int .i64 B)
    generalize ((w1.setCell ⟨w.heap.size, 2, none⟩ (.int .i64 A)).setCell ⟨w.heap.size, 3, none⟩ (.int .i64 B)) = W3 at *
    clear e0 e1 e2 e3 z2 z3 v1 v2 B1
    have e0 := u1.cell (i := 0) rfl
    have e1 := u1.cell (i := 1) rfl
    have e2 := u1.cell (i := 2) rfl
    have e3 := u1.cell (i := 3) rfl
    have a0 := u2.cell (i := 0) rfl
    have a1 := u2.cell (i := 1) rfl
    have a2 := u2.cell (i := 2) rfl
    have a3 := u2.cell (i := 3) rfl
    have y0 := u2.free 0
    have y1 := u2.free 1
    have y2 := u2.free 2
    have y3 := u2.free 3
    go_wp2_with fail
    have r2 : Var 25 ((((W3.setCell ⟨w.heap.size + 1, 0, none⟩ (.int .i64 mn)).setCell ⟨w.heap.size + 1, 1, none⟩ (.int .i64 sp)).setCell ⟨w.heap.size + 1, 2, none⟩ (.int .i64 A)).setCell ⟨w.heap.size + 1, 3, none⟩ (.int .i64 B)) (w.heap.size + 1) [.int .i64 mn, .int .i64 sp, .int .i64 A, .int .i64 B] := (((u2.set 0 _).set 1 _).set 2 _).set 3 _
    have rB : Below w.heap.size w ((((W3.setCell ⟨w.heap.size + 1, 0, none⟩ (.int .i64 mn)).setCell ⟨w.heap.size + 1, 1, none⟩ (.int .i64 sp)).setCell ⟨w.heap.size + 1, 2, none⟩ (.int .i64 A)).setCell ⟨w.heap.size + 1, 3, none⟩ (.int .i64 B)) := (((B3.setCell (p := ⟨w.heap.size + 1, 0, none⟩) (by dsimp only; omega) _).setCell (p := ⟨w.heap.size + 1, 1, none⟩) (by dsimp only; omega) _).setCell (p := ⟨w.heap.size + 1, 2, none⟩) (by dsimp only; omega) _).setCell (p := ⟨w.heap.size + 1, 3, none⟩) (by dsimp only; omega) _
    generalize ((((W3.setCell ⟨w.heap.size + 1, 0, none⟩ (.int .i64 mn)).setCell ⟨w.heap.size + 1, 1, none⟩ (.int .i64 sp)).setCell ⟨w.heap.size + 1, 2, none⟩ (.int .i64 A)).setCell ⟨w.heap.size + 1, 3, none⟩ (.int .i64 B)) = W4 at *
    have s0 := r2.cell (i := 0) rfl
    have s1 := r2.cell (i := 1) rfl
    have s2 := r2.cell (i := 2) rfl
    have s3 := r2.cell (i := 3) rfl
    refine bodyPost_ret (v := .agg #[.int .i64 mn, .int .i64 sp, .int .i64 A, .int .i64 B]) (by rw [res_cellP rfl]; clear r2 rB u1 u2 a0 a1 a2 a3 y0 y1 y2 y3 e0 e1 e2 e3; go_simp; done) rfl ⟨by rw [HR.out], rB⟩

end Go.Proofs.Ytbmfnkdcbdkcdaa.Pac
