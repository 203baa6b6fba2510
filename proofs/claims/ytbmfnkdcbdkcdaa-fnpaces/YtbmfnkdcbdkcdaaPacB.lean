/- Contracts of the specification's NewPace and Longer (chapter 9); no condition. -/
import Derived.Test.YtbmfnkdcbdkcdaaPacA
import Derived.Deep.Cut
namespace Go.Proofs.Ytbmfnkdcbdkcdaa.Pac
open Go.RowKit RowG
set_option linter.unusedVariables false
set_option linter.unusedSimpArgs false

theorem res_cellP {fn : Func} {p : Tmp} {ty : TypeId} (h : fn.results = #[.cell p ty]) (tmps : Array Value) (P : Program) (w : World) :
    (results fn tmps).run P w = ((asAddr (tmps.getD p undef)).run P w).andThen fun a w₁ => (loadVar ty a).run P w₁ := by
  simp only [results, h]
  simp [Sem.run_bind, Result.andThen]

set_option maxHeartbeats 2000000 in
theorem specNewPace (w : World) : Calls Try.prog 19 #[] w fun x w' => x = .returned (.agg #[.int .i64 0, .int .i64 0, .int .i64 1000, .int .i64 0]) ∧ Below w.heap.size w w' := by
  have B : ∀ {w1 : World}, w1 = ((((w.alloc (.cells #[.int .i64 0, .int .i64 0, .int .i64 0, .int .i64 0] 25)).setCell ⟨w.heap.size, 0, none⟩ (.int .i64 0)).setCell ⟨w.heap.size, 1, none⟩ (.int .i64 0)).setCell ⟨w.heap.size, 2, none⟩ (.int .i64 1000)).setCell ⟨w.heap.size, 3, none⟩ (.int .i64 0) → Below w.heap.size w w1 := by
    rintro w1 rfl
    exact ((((((Below.refl _ _).alloc (Nat.le_refl _) _).setCell (p := ⟨w.heap.size, 0, none⟩) (Nat.le_refl _) _).setCell (p := ⟨w.heap.size, 1, none⟩) (Nat.le_refl _) _).setCell (p := ⟨w.heap.size, 2, none⟩) (Nat.le_refl _) _).setCell (p := ⟨w.heap.size, 3, none⟩) (Nat.le_refl _) _)
  go_enter Try.func19, Try.ntmps19
  go_wp2_with fail
  first
    | exact bodyPost_ret (v := .agg #[.int .i64 0, .int .i64 0, .int .i64 1000, .int .i64 0]) (by rw [res_cellP rfl]; go_simp) rfl ⟨rfl, B rfl⟩
    | exact bodyPost_ret (v := .agg #[.int .i64 0, .int .i64 0, .int .i64 1000, .int .i64 0]) (by rw [res_cellP rfl]; go_simp) rfl ⟨rfl, (Below.refl _ _).alloc (Nat.le_refl _) _⟩

set_option maxRecDepth 10000 in
set_option maxHeartbeats 4000000 in
theorem specLonger (p : Pc) (w : World) : Calls Try.prog 15 #[p.v] w fun x w' => x = .returned (longP p).v ∧ Below w.heap.size w w' := by
  have hOK := fun w' => specPaceOk p w'
  obtain ⟨mn, sp, wt, tm⟩ := p
  dsimp only [Pc.v] at hOK ⊢
  have v1 : Var 25 ((w.alloc (.cells #[.int .i64 mn, .int .i64 sp, .int .i64 wt, .int .i64 tm] 25)).alloc (.cells #[.int .i64 0, .int .i64 0, .int .i64 0, .int .i64 0] 25)) w.heap.size [.int .i64 mn, .int .i64 sp, .int .i64 wt, .int .i64 tm] := (Var.new w [.int .i64 mn, .int .i64 sp, .int .i64 wt, .int .i64 tm]).alloc _
  have v2 : Var 25 ((w.alloc (.cells #[.int .i64 mn, .int .i64 sp, .int .i64 wt, .int .i64 tm] 25)).alloc (.cells #[.int .i64 0, .int .i64 0, .int .i64 0, .int .i64 0] 25)) (w.heap.size + 1) [.int .i64 0, .int .i64 0, .int .i64 0, .int .i64 0] := by
    have q := Var.new (T := 25) (w.alloc (.cells #[.int .i64 mn, .int .i64 sp, .int .i64 wt, .int .i64 tm] 25)) [.int .i64 0, .int .i64 0, .int .i64 0, .int .i64 0]
    simpa using q
  have b0 : Below w.heap.size w ((w.alloc (.cells #[.int .i64 mn, .int .i64 sp, .int .i64 wt, .int .i64 tm] 25)).alloc (.cells #[.int .i64 0, .int .i64 0, .int .i64 0, .int .i64 0] 25)) := ((Below.refl _ _).alloc (Nat.le_refl _) _).alloc (by simp) _
  go_enter Try.func15, Try.ntmps15
  go_wp2_with fail
  refine (hOK _).mono ?_
  rintro x w1 ⟨rfl, b1⟩
  replace v1 := v1.later b1
  replace v2 := v2.later b1
  have B1 := b0.trans (b1.mono b0.size)
  have hw1 : w.heap.size + 1 < w1.heap.size := v2.lt
  clear b0 b1 hOK
  cases hb : paceB ⟨mn, sp, wt, tm⟩
  · have HR : Hid (longP ⟨mn, sp, wt, tm⟩ = zeroP) := by show _ = _; unfold longP; rw [hb]; rfl
    have a0 := v2.cell (i := 0) rfl
    have a1 := v2.cell (i := 1) rfl
    have a2 := v2.cell (i := 2) rfl
    have a3 := v2.cell (i := 3) rfl
    have y0 := v2.free 0
    have y1 := v2.free 1
    have y2 := v2.free 2
    have y3 := v2.free 3
    go_wp2_with fail
    have r2 : Var 25 ((((w1.setCell ⟨w.heap.size + 1, 0, none⟩ (.int .i64 0)).setCell ⟨w.heap.size + 1, 1, none⟩ (.int .i64 0)).setCell ⟨w.heap.size + 1, 2, none⟩ (.int .i64 0)).setCell ⟨w.heap.size + 1, 3, none⟩ (.int .i64 0)) (w.heap.size + 1) [.int .i64 0, .int .i64 0, .int .i64 0, .int .i64 0] := ((((v2.set 0 _).set 1 _).set 2 _).set 3 _)
    have rB : Below w.heap.size w ((((w1.setCell ⟨w.heap.size + 1, 0, none⟩ (.int .i64 0)).setCell ⟨w.heap.size + 1, 1, none⟩ (.int .i64 0)).setCell ⟨w.heap.size + 1, 2, none⟩ (.int .i64 0)).setCell ⟨w.heap.size + 1, 3, none⟩ (.int .i64 0)) := ((((B1.setCell (p := ⟨w.heap.size + 1, 0, none⟩) (by dsimp only; omega) _).setCell (p := ⟨w.heap.size + 1, 1, none⟩) (by dsimp only; omega) _).setCell (p := ⟨w.heap.size + 1, 2, none⟩) (by dsimp only; omega) _).setCell (p := ⟨w.heap.size + 1, 3, none⟩) (by dsimp only; omega) _)
    generalize ((((w1.setCell ⟨w.heap.size + 1, 0, none⟩ (.int .i64 0)).setCell ⟨w.heap.size + 1, 1, none⟩ (.int .i64 0)).setCell ⟨w.heap.size + 1, 2, none⟩ (.int .i64 0)).setCell ⟨w.heap.size + 1, 3, none⟩ (.int .i64 0)) = W4 at *
    have s0 := r2.cell (i := 0) rfl
    have s1 := r2.cell (i := 1) rfl
    have s2 := r2.cell (i := 2) rfl
    have s3 := r2.cell (i := 3) rfl
    refine bodyPost_ret (v := .agg #[.int .i64 0, .int .i64 0, .int .i64 0, .int .i64 0]) (by rw [res_cellP rfl]; clear r2 rB v1 v2 a0 a1 a2 a3 y0 y1 y2 y3; go_simp; done) rfl ⟨by rw [HR.out]; rfl, rB⟩
  · obtain ⟨h1, h2, h3, h4⟩ := pace_iff.1 hb
    dsimp only at h1 h2 h3 h4
    have HR : Hid (longP ⟨mn, sp, wt, tm⟩ = ⟨mn, sp, if 60000 < 2 * wt then 60000 else 2 * wt, if 20 < tm + 1 then 20 else tm + 1⟩) := by show _ = _; unfold longP; rw [hb]; rfl
    have e0 := v1.cell (i := 0) rfl
    have e1 := v1.cell (i := 1) rfl
    have e2 := v1.cell (i := 2) rfl
    have e3 := v1.cell (i := 3) rfl
    have z2 := v1.free 2
    have z3 := v1.free 3
    clear hb
    go_wp2_with fail
    refine (Tak.l1Min 60000 (2 * wt) _).mono ?_
    rintro x w2 ⟨rfl, rfl⟩
    generalize (if 60000 < 2 * wt then (60000 : Int) else 2 * wt) = A at *
    go_wp2_with fail
    refine (Tak.l1Min 20 (tm + 1) _).mono ?_
    rintro x w2 ⟨rfl, rfl⟩
    generalize (if 20 < tm + 1 then (20 : Int) else tm + 1) = B at *
    have u1 := (v1.set 2 (.int .i64 A)).set 3 (.int .i64 B)
    have u2 := (v2.other (p := ⟨w.heap.size, 2, none⟩) (by dsimp only; omega) (.int .i64 A)).other (p := ⟨w.heap.size, 3, none⟩) (by dsimp only; omega) (.int .i64 B)
    have B3 := (B1.setCell (p := ⟨w.heap.size, 2, none⟩) (Nat.le_refl _) (.int .i64 A)).setCell (p := ⟨w.heap.size, 3, none⟩) (Nat.le_refl _) (.int .i64 B)
    go_upto_region 5 with (fail)
    generalize ((w1.setCell ⟨w.heap.size, 2, none⟩ (.int .i64 A)).setCell ⟨w.heap.size, 3, none⟩ (.int .i64 B)) = W3 at *
    clear e0 e1 e2 e3 z2 z3 v1 v2 B1
    have e0 := u1.cell (i := 0) rfl
    have e1 := u1.cell (i := 1) rfl
    have e2 := u1.cell (i := 2) rfl
    have e3 := u1.cell (i := 3) rfl
    have a0 := u2.cell (i := 0) rfl
    have a1 := u2.cell (i := 1) rfl
    have a2 := u2.cell (i := 2) rfl
    have a3 := u2.cell (i := 3) rfl
    have y0 := u2.free 0
    have y1 := u2.free 1
    have y2 := u2.free 2
    have y3 := u2.free 3
    go_wp2_with fail
    have r2 : Var 25 ((((W3.setCell ⟨w.heap.size + 1, 0, none⟩ (.int .i64 mn)).setCell ⟨w.heap.size + 1, 1, none⟩ (.int .i64 sp)).setCell ⟨w.heap.size + 1, 2, none⟩ (.int .i64 A)).setCell ⟨w.heap.size + 1, 3, none⟩ (.int .i64 B)) (w.heap.size + 1) [.int .i64 mn, .int .i64 sp, .int .i64 A, .int .i64 B] := (((u2.set 0 _).set 1 _).set 2 _).set 3 _
    have rB : Below w.heap.size w ((((W3.setCell ⟨w.heap.size + 1, 0, none⟩ (.int .i64 mn)).setCell ⟨w.heap.size + 1, 1, none⟩ (.int .i64 sp)).setCell ⟨w.heap.size + 1, 2, none⟩ (.int .i64 A)).setCell ⟨w.heap.size + 1, 3, none⟩ (.int .i64 B)) := (((B3.setCell (p := ⟨w.heap.size + 1, 0, none⟩) (by dsimp only; omega) _).setCell (p := ⟨w.heap.size + 1, 1, none⟩) (by dsimp only; omega) _).setCell (p := ⟨w.heap.size + 1, 2, none⟩) (by dsimp only; omega) _).setCell (p := ⟨w.heap.size + 1, 3, none⟩) (by dsimp only; omega) _
    generalize ((((W3.setCell ⟨w.heap.size + 1, 0, none⟩ (.int .i64 mn)).setCell ⟨w.heap.size + 1, 1, none⟩ (.int .i64 sp)).setCell ⟨w.heap.size + 1, 2, none⟩ (.int .i64 A)).setCell ⟨w.heap.size + 1, 3, none⟩ (.int .i64 B)) = W4 at *
    have s0 := r2.cell (i := 0) rfl
    have s1 := r2.cell (i := 1) rfl
    have s2 := r2.cell (i := 2) rfl
    have s3 := r2.cell (i := 3) rfl
    refine bodyPost_ret (v := .agg #[.int .i64 mn, .int .i64 sp, .int .i64 A, .int .i64 B]) (by rw [res_cellP rfl]; clear r2 rB u1 u2 a0 a1 a2 a3 y0 y1 y2 y3 e0 e1 e2 e3; go_simp; done) rfl ⟨by rw [HR.out], rB⟩

end Go.Proofs.Ytbmfnkdcbdkcdaa.Pac
