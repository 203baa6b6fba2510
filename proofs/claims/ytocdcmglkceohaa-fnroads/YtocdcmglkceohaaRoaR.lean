/- Contracts of the program's Turn and Used (chapter 10) with their closures; lists of at most 2^21 roads. -/
import Derived.Test.YtocdcmglkceohaaRoaQ
namespace Go.Proofs.Ytocdcmglkceohaa.Roa
open Go.RowKit RowG
set_option linter.unusedVariables false
set_option linter.unusedSimpArgs false

theorem res_cellP {fn : Func} {p : Tmp} {ty : TypeId} (h : fn.results = #[.cell p ty]) (tmps : Array Value) (P : Program) (w : World) :
    (results fn tmps).run P w = ((asAddr (tmps.getD p undef)).run P w).andThen fun a w₁ => (loadVar ty a).run P w₁ := by
  simp only [results, h]
  simp [Sem.run_bind, Result.andThen]

abbrev put4w (w : World) (k : Nat) (x0 x1 x2 x3 : Value) : World := (((w.setCell ⟨k, 0, none⟩ x0).setCell ⟨k, 1, none⟩ x1).setCell ⟨k, 2, none⟩ x2).setCell ⟨k, 3, none⟩ x3
theorem var4 {T : TypeId} {w : World} {k : Nat} {a b c d : Value} (h : Var T w k [a, b, c, d]) (x0 x1 x2 x3 : Value) : Var T (put4w w k x0 x1 x2 x3) k [x0, x1, x2, x3] :=
  (((h.set 0 x0).set 1 x1).set 2 x2).set 3 x3
theorem below4 {B : Nat} {w0 w : World} {k : Nat} (h : Below B w0 w) (hk : B ≤ k) (x0 x1 x2 x3 : Value) : Below B w0 (put4w w k x0 x1 x2 x3) :=
  (((h.setCell (p := ⟨k, 0, none⟩) hk _).setCell (p := ⟨k, 1, none⟩) hk _).setCell (p := ⟨k, 2, none⟩) hk _).setCell (p := ⟨k, 3, none⟩) hk _

set_option maxHeartbeats 2000000 in
theorem turn1 (r : Rd) (kw : Nat) (o : Bool) (w : World) (hk : w.cell? ⟨kw, 0, none⟩ = some (.bool o)) : Calls Try.prog 37 #[r.v, .pointer (some ⟨kw, 0, none⟩)] w fun x w' => x = .returned (Rd.v { r with op := o }) ∧ Below w.heap.size w w' := by
  obtain ⟨ro, rc, rs, rl⟩ := r
  dsimp only [Rd.v]
  have hkw := Draw.lt_of_cell hk
  have b1 : Below w.heap.size w ((w.alloc (.cells #[.bool ro, .int .i64 rc, .int .i64 rs, .int .i64 rl] 37)).alloc (.cells #[.bool false, .int .i64 0, .int .i64 0, .int .i64 0] 37)) := ((Below.refl _ _).alloc (Nat.le_refl _) _).alloc (by simp) _
  have v1 : Var 37 ((w.alloc (.cells #[.bool ro, .int .i64 rc, .int .i64 rs, .int .i64 rl] 37)).alloc (.cells #[.bool false, .int .i64 0, .int .i64 0, .int .i64 0] 37)) w.heap.size [.bool ro, .int .i64 rc, .int .i64 rs, .int .i64 rl] := (Var.new w _).alloc _
  have v2 : Var 37 ((w.alloc (.cells #[.bool ro, .int .i64 rc, .int .i64 rs, .int .i64 rl] 37)).alloc (.cells #[.bool false, .int .i64 0, .int .i64 0, .int .i64 0] 37)) (w.heap.size + 1) [.bool false, .int .i64 0, .int .i64 0, .int .i64 0] := by
    have q := Var.new (T := 37) (w.alloc (.cells #[.bool ro, .int .i64 rc, .int .i64 rs, .int .i64 rl] 37)) [.bool false, .int .i64 0, .int .i64 0, .int .i64 0]
    simpa using q
  have hk1 := alloc_cell (alloc_cell hk (.cells #[.bool ro, .int .i64 rc, .int .i64 rs, .int .i64 rl] 37)) (.cells #[.bool false, .int .i64 0, .int .i64 0, .int .i64 0] 37)
  go_enter Try.func37, Try.ntmps37
  go_upto_region 1 with (fail)
  generalize (w.alloc (.cells #[.bool ro, .int .i64 rc, .int .i64 rs, .int .i64 rl] 37)).alloc (.cells #[.bool false, .int .i64 0, .int .i64 0, .int .i64 0] 37) = w1 at *
  have e0 := v1.cell (i := 0) rfl
  have z0 := v1.free 0
  have u1 := v1.set 0 (.bool o)
  have u2 := v2.other (p := ⟨w.heap.size, 0, none⟩) (by simp) (.bool o)
  have b2 : Below w.heap.size w (w1.setCell ⟨w.heap.size, 0, none⟩ (.bool o)) := b1.setCell (Nat.le_refl _) _
  go_upto_region 2 with (fail)
  generalize w1.setCell ⟨w.heap.size, 0, none⟩ (.bool o) = w2 at *
  have hw1 : w.heap.size + 1 < w2.heap.size := u2.lt
  clear v1 v2 hk1 e0 z0 b1
  have e0 := u1.cell (i := 0) rfl
  have e1 := u1.cell (i := 1) rfl
  have e2 := u1.cell (i := 2) rfl
  have e3 := u1.cell (i := 3) rfl
  have a0 := u2.cell (i := 0) rfl
  have a1 := u2.cell (i := 1) rfl
  have a2 := u2.cell (i := 2) rfl
  have a3 := u2.cell (i := 3) rfl
  have y0 := u2.free 0
  have y1 := u2.free 1
  have y2 := u2.free 2
  have y3 := u2.free 3
  go_wp2_with fail
  have r2 := var4 u2 (.bool o) (.int .i64 rc) (.int .i64 rs) (.int .i64 rl)
  have rB := below4 b2 (k := w.heap.size + 1) (by omega) (.bool o) (.int .i64 rc) (.int .i64 rs) (.int .i64 rl)
  unfold put4w at r2 rB
  generalize (((w2.setCell ⟨w.heap.size + 1, 0, none⟩ (.bool o)).setCell ⟨w.heap.size + 1, 1, none⟩ (.int .i64 rc)).setCell ⟨w.heap.size + 1, 2, none⟩ (.int .i64 rs)).setCell ⟨w.heap.size + 1, 3, none⟩ (.int .i64 rl) = w4 at *
  have s0 := r2.cell (i := 0) rfl
  have s1 := r2.cell (i := 1) rfl
  have s2 := r2.cell (i := 2) rfl
  have s3 := r2.cell (i := 3) rfl
  exact bodyPost_ret (v := .agg #[.bool o, .int .i64 rc, .int .i64 rs, .int .i64 rl]) (by rw [res_cellP rfl]; clear r2 rB u1 u2 a0 a1 a2 a3 y0 y1 y2 y3 e0 e1 e2 e3; go_simp; done) rfl ⟨rfl, rB⟩

/-- What the program's counted makes of a road. -/
def cntR (r : Rd) (lost : Bool) : Rd := if r.se = 1000000000 then r else usedR r lost

set_option maxRecDepth 10000 in
set_option maxHeartbeats 2000000 in
theorem counted (r : Rd) (lost : Bool) (w : World) (hr : rdB r = true) : Calls Try.prog 39 #[r.v, .bool lost] w fun x w' => x = .returned (Rd.v (cntR r lost)) ∧ Below w.heap.size w w' := by
  obtain ⟨ro, rc, rs, rl⟩ := r
  have hpl : rs ≤ 1000000000 ∧ 0 ≤ rl ∧ rl ≤ rs := by
    simp only [rdB, Bool.and_eq_true, decide_eq_true_eq, Num.plB] at hr
    omega
  clear hr
  have b1 : Below w.heap.size w ((w.alloc (.cells #[.bool ro, .int .i64 rc, .int .i64 rs, .int .i64 rl] 37)).alloc (.cells #[.bool false, .int .i64 0, .int .i64 0, .int .i64 0] 37)) := ((Below.refl _ _).alloc (Nat.le_refl _) _).alloc (by simp) _
  have v1 : Var 37 ((w.alloc (.cells #[.bool ro, .int .i64 rc, .int .i64 rs, .int .i64 rl] 37)).alloc (.cells #[.bool false, .int .i64 0, .int .i64 0, .int .i64 0] 37)) w.heap.size [.bool ro, .int .i64 rc, .int .i64 rs, .int .i64 rl] := (Var.new w _).alloc _
  have v2 : Var 37 ((w.alloc (.cells #[.bool ro, .int .i64 rc, .int .i64 rs, .int .i64 rl] 37)).alloc (.cells #[.bool false, .int .i64 0, .int .i64 0, .int .i64 0] 37)) (w.heap.size + 1) [.bool false, .int .i64 0, .int .i64 0, .int .i64 0] := by
    have q := Var.new (T := 37) (w.alloc (.cells #[.bool ro, .int .i64 rc, .int .i64 rs, .int .i64 rl] 37)) [.bool false, .int .i64 0, .int .i64 0, .int .i64 0]
    simpa using q
  by_cases hs : rs = 1000000000
  · have HR : Hid (cntR ⟨ro, rc, rs, rl⟩ lost = ⟨ro, rc, rs, rl⟩) := by show _ = _; simp [cntR, hs]
    rw [HR.out]
    subst hs
    dsimp only [Rd.v]
    go_enter Try.func39, Try.ntmps39
    go_upto_region 1 with (fail)
    generalize (w.alloc (.cells #[.bool ro, .int .i64 rc, .int .i64 1000000000, .int .i64 rl] 37)).alloc (.cells #[.bool false, .int .i64 0, .int .i64 0, .int .i64 0] 37) = w1 at *
    have u1 := v1
    have u2 := v2
    have b2 := b1
    clear v1 v2 b1
    have e0 := u1.cell (i := 0) rfl
    have e1 := u1.cell (i := 1) rfl
    have e2 := u1.cell (i := 2) rfl
    have e3 := u1.cell (i := 3) rfl
    have a0 := u2.cell (i := 0) rfl
    have a1 := u2.cell (i := 1) rfl
    have a2 := u2.cell (i := 2) rfl
    have a3 := u2.cell (i := 3) rfl
    have y0 := u2.free 0
    have y1 := u2.free 1
    have y2 := u2.free 2
    have y3 := u2.free 3
    go_wp2_with fail
    have r2 := var4 u2 (.bool ro) (.int .i64 rc) (.int .i64 1000000000) (.int .i64 rl)
    have rB := below4 b2 (k := w.heap.size + 1) (by omega) (.bool ro) (.int .i64 rc) (.int .i64 1000000000) (.int .i64 rl)
    unfold put4w at r2 rB
    generalize (((w1.setCell ⟨w.heap.size + 1, 0, none⟩ (.bool ro)).setCell ⟨w.heap.size + 1, 1, none⟩ (.int .i64 rc)).setCell ⟨w.heap.size + 1, 2, none⟩ (.int .i64 1000000000)).setCell ⟨w.heap.size + 1, 3, none⟩ (.int .i64 rl) = w4 at *
    have s0 := r2.cell (i := 0) rfl
    have s1 := r2.cell (i := 1) rfl
    have s2 := r2.cell (i := 2) rfl
    have s3 := r2.cell (i := 3) rfl
    exact bodyPost_ret (v := .agg #[.bool ro, .int .i64 rc, .int .i64 1000000000, .int .i64 rl]) (by rw [res_cellP rfl]; clear r2 rB u1 u2 a0 a1 a2 a3 y0 y1 y2 y3 e0 e1 e2 e3; go_simp; done) rfl ⟨rfl, rB⟩
  · have hs' : (rs == 1000000000) = false := by simpa using hs
    have HR : Hid (cntR ⟨ro, rc, rs, rl⟩ lost = ⟨ro, rc, rs + 1, if lost then rl + 1 else rl⟩) := by show _ = _; simp [cntR, hs, usedR]
    rw [HR.out]
    dsimp only [Rd.v]
    go_enter Try.func39, Try.ntmps39
    go_upto_region 1 with (fail)
    generalize (w.alloc (.cells #[.bool ro, .int .i64 rc, .int .i64 rs, .int .i64 rl] 37)).alloc (.cells #[.bool false, .int .i64 0, .int .i64 0, .int .i64 0] 37) = w1 at *
    have e2 := v1.cell (i := 2) rfl
    have z2 := v1.free 2
    have u1 := v1.set 2 (.int .i64 (rs + 1))
    have u2 := v2.other (p := ⟨w.heap.size, 2, none⟩) (by simp) (.int .i64 (rs + 1))
    have b2 : Below w.heap.size w (w1.setCell ⟨w.heap.size, 2, none⟩ (.int .i64 (rs + 1))) := b1.setCell (Nat.le_refl _) _
    clear v1 v2 b1
    go_upto_region 4 with (fail)
    generalize w1.setCell ⟨w.heap.size, 2, none⟩ (.int .i64 (rs + 1)) = w2 at *
    clear e2 z2
    cases lost
    · try simp only [Bool.false_eq_true, if_false]
      have e0 := u1.cell (i := 0) rfl
      have e1 := u1.cell (i := 1) rfl
      have e2 := u1.cell (i := 2) rfl
      have e3 := u1.cell (i := 3) rfl
      have a0 := u2.cell (i := 0) rfl
      have a1 := u2.cell (i := 1) rfl
      have a2 := u2.cell (i := 2) rfl
      have a3 := u2.cell (i := 3) rfl
      have y0 := u2.free 0
      have y1 := u2.free 1
      have y2 := u2.free 2
      have y3 := u2.free 3
      go_wp2_with fail
      have r2 := var4 u2 (.bool ro) (.int .i64 rc) (.int .i64 (rs + 1)) (.int .i64 rl)
      have rB := below4 b2 (k := w.heap.size + 1) (by omega) (.bool ro) (.int .i64 rc) (.int .i64 (rs + 1)) (.int .i64 rl)
      unfold put4w at r2 rB
      generalize (((w2.setCell ⟨w.heap.size + 1, 0, none⟩ (.bool ro)).setCell ⟨w.heap.size + 1, 1, none⟩ (.int .i64 rc)).setCell ⟨w.heap.size + 1, 2, none⟩ (.int .i64 (rs + 1))).setCell ⟨w.heap.size + 1, 3, none⟩ (.int .i64 rl) = w4 at *
      have s0 := r2.cell (i := 0) rfl
      have s1 := r2.cell (i := 1) rfl
      have s2 := r2.cell (i := 2) rfl
      have s3 := r2.cell (i := 3) rfl
      exact bodyPost_ret (v := .agg #[.bool ro, .int .i64 rc, .int .i64 (rs + 1), .int .i64 rl]) (by rw [res_cellP rfl]; clear r2 rB u1 u2 a0 a1 a2 a3 y0 y1 y2 y3 e0 e1 e2 e3; go_simp; done) rfl ⟨rfl, rB⟩
    · try simp only [if_true]
      have e3 := u1.cell (i := 3) rfl
      have z3 := u1.free 3
      have t1 := u1.set 3 (.int .i64 (rl + 1))
      have t2 := u2.other (p := ⟨w.heap.size, 3, none⟩) (by simp) (.int .i64 (rl + 1))
      have b3 : Below w.heap.size w (w2.setCell ⟨w.heap.size, 3, none⟩ (.int .i64 (rl + 1))) := b2.setCell (Nat.le_refl _) _
      clear u1 u2 b2
      go_upto_region 6 with (fail)
      generalize w2.setCell ⟨w.heap.size, 3, none⟩ (.int .i64 (rl + 1)) = w3 at *
      have u1 := t1
      have u2 := t2
      have b2 := b3
      clear t1 t2 b3 e3 z3
      have e0 := u1.cell (i := 0) rfl
      have e1 := u1.cell (i := 1) rfl
      have e2 := u1.cell (i := 2) rfl
      have e3 := u1.cell (i := 3) rfl
      have a0 := u2.cell (i := 0) rfl
      have a1 := u2.cell (i := 1) rfl
      have a2 := u2.cell (i := 2) rfl
      have a3 := u2.cell (i := 3) rfl
      have y0 := u2.free 0
      have y1 := u2.free 1
      have y2 := u2.free 2
      have y3 := u2.free 3
      go_wp2_with fail
      have r2 := var4 u2 (.bool ro) (.int .i64 rc) (.int .i64 (rs + 1)) (.int .i64 (rl + 1))
      have rB := below4 b2 (k := w.heap.size + 1) (by omega) (.bool ro) (.int .i64 rc) (.int .i64 (rs + 1)) (.int .i64 (rl + 1))
      unfold put4w at r2 rB
      generalize (((w3.setCell ⟨w.heap.size + 1, 0, none⟩ (.bool ro)).setCell ⟨w.heap.size + 1, 1, none⟩ (.int .i64 rc)).setCell ⟨w.heap.size + 1, 2, none⟩ (.int .i64 (rs + 1))).setCell ⟨w.heap.size + 1, 3, none⟩ (.int .i64 (rl + 1)) = w4 at *
      have s0 := r2.cell (i := 0) rfl
      have s1 := r2.cell (i := 1) rfl
      have s2 := r2.cell (i := 2) rfl
      have s3 := r2.cell (i := 3) rfl
      exact bodyPost_ret (v := .agg #[.bool ro, .int .i64 rc, .int .i64 (rs + 1), .int .i64 (rl + 1)]) (by rw [res_cellP rfl]; clear r2 rB u1 u2 a0 a1 a2 a3 y0 y1 y2 y3 e0 e1 e2 e3; go_simp; done) rfl ⟨rfl, rB⟩

set_option maxRecDepth 10000 in
set_option maxHeartbeats 2000000 in
theorem used1 (r : Rd) (kw : Nat) (o : Bool) (w : World) (hr : rdB r = true) (hk : w.cell? ⟨kw, 0, none⟩ = some (.bool o)) : Calls Try.prog 38 #[r.v, .pointer (some ⟨kw, 0, none⟩)] w fun x w' => x = .returned (Rd.v (cntR r o)) ∧ Below w.heap.size w w' := by
  have hC := fun w' => counted r o w' hr
  generalize cntR r o = y at *
  obtain ⟨yo, yc, ys, yl⟩ := y
  obtain ⟨ro, rc, rs, rl⟩ := r
  dsimp only [Rd.v] at *
  have b1 : Below w.heap.size w ((w.alloc (.cells #[.bool ro, .int .i64 rc, .int .i64 rs, .int .i64 rl] 37)).alloc (.cells #[.bool false, .int .i64 0, .int .i64 0, .int .i64 0] 37)) := ((Below.refl _ _).alloc (Nat.le_refl _) _).alloc (by simp) _
  have v1 : Var 37 ((w.alloc (.cells #[.bool ro, .int .i64 rc, .int .i64 rs, .int .i64 rl] 37)).alloc (.cells #[.bool false, .int .i64 0, .int .i64 0, .int .i64 0] 37)) w.heap.size [.bool ro, .int .i64 rc, .int .i64 rs, .int .i64 rl] := (Var.new w _).alloc _
  have v2 : Var 37 ((w.alloc (.cells #[.bool ro, .int .i64 rc, .int .i64 rs, .int .i64 rl] 37)).alloc (.cells #[.bool false, .int .i64 0, .int .i64 0, .int .i64 0] 37)) (w.heap.size + 1) [.bool false, .int .i64 0, .int .i64 0, .int .i64 0] := by
    have q := Var.new (T := 37) (w.alloc (.cells #[.bool ro, .int .i64 rc, .int .i64 rs, .int .i64 rl] 37)) [.bool false, .int .i64 0, .int .i64 0, .int .i64 0]
    simpa using q
  have hk1 := alloc_cell (alloc_cell hk (.cells #[.bool ro, .int .i64 rc, .int .i64 rs, .int .i64 rl] 37)) (.cells #[.bool false, .int .i64 0, .int .i64 0, .int .i64 0] 37)
  go_enter Try.func38, Try.ntmps38
  go_upto_region 1 with (fail)
  generalize (w.alloc (.cells #[.bool ro, .int .i64 rc, .int .i64 rs, .int .i64 rl] 37)).alloc (.cells #[.bool false, .int .i64 0, .int .i64 0, .int .i64 0] 37) = w1 at *
  have e0 := v1.cell (i := 0) rfl
  have e1 := v1.cell (i := 1) rfl
  have e2 := v1.cell (i := 2) rfl
  have e3 := v1.cell (i := 3) rfl
  go_wp2_with fail
  refine (hC _).mono ?_
  rintro x w2 ⟨rfl, bc⟩
  have u1 := v1.later bc
  have u2 := v2.later bc
  have b2 := b1.trans (bc.mono b1.size)
  clear v1 v2 b1 bc e0 e1 e2 e3 hk1
  have a0 := u2.cell (i := 0) rfl
  have a1 := u2.cell (i := 1) rfl
  have a2 := u2.cell (i := 2) rfl
  have a3 := u2.cell (i := 3) rfl
  have y0 := u2.free 0
  have y1 := u2.free 1
  have y2 := u2.free 2
  have y3 := u2.free 3
  go_wp2_with fail
  have r2 := var4 u2 (.bool yo) (.int .i64 yc) (.int .i64 ys) (.int .i64 yl)
  have rB := below4 b2 (k := w.heap.size + 1) (by omega) (.bool yo) (.int .i64 yc) (.int .i64 ys) (.int .i64 yl)
  unfold put4w at r2 rB
  generalize (((w2.setCell ⟨w.heap.size + 1, 0, none⟩ (.bool yo)).setCell ⟨w.heap.size + 1, 1, none⟩ (.int .i64 yc)).setCell ⟨w.heap.size + 1, 2, none⟩ (.int .i64 ys)).setCell ⟨w.heap.size + 1, 3, none⟩ (.int .i64 yl) = w4 at *
  have s0 := r2.cell (i := 0) rfl
  have s1 := r2.cell (i := 1) rfl
  have s2 := r2.cell (i := 2) rfl
  have s3 := r2.cell (i := 3) rfl
  exact bodyPost_ret (v := .agg #[.bool yo, .int .i64 yc, .int .i64 ys, .int .i64 yl]) (by rw [res_cellP rfl]; clear r2 rB u1 u2 a0 a1 a2 a3 y0 y1 y2 y3; go_simp; done) rfl ⟨rfl, rB⟩

theorem at_rd {l : List Rd} {r : Int} (hok : roadsB l = true) (hr : hasB l r = true) : r.toNat < l.length ∧ rdB (at' l r.toNat) = true := by
  have h := of_decide_eq_true hr
  have hlt : r.toNat < l.length := by omega
  refine ⟨hlt, ?_⟩
  cases q : rdB (at' l r.toNat)
  · rw [rd_false hlt q] at hok; cases hok
  · rfl
theorem set_at {l : List Rd} {k : Nat} (h : k < l.length) : l.set k (at' l k) = l := WideElems.set_self l k _ (at_some h)
theorem turn_with (l : List Rd) (r : Int) (o : Bool) : withL l r (fun x => { x with op := o }) = turnL l r o ∧ withB l r (fun x => { x with op := o }) = turnB l r o := by
  cases hok : roadsB l
  · simp [withL, turnL, withB, turnB, hok]
  cases hr : hasB l r
  · simp [withL, turnL, withB, turnB, hok, hr]
  obtain ⟨hlt, _⟩ := at_rd hok hr
  simp only [withL, turnL, withB, turnB, hok, hr, Bool.true_and, if_true]
  have e : (({ at' l r.toNat with op := o } : Rd) ≠ at' l r.toNat) ↔ (at' l r.toNat).op ≠ o := by
    constructor
    · intro h q
      apply h
      rw [← q]
    · intro h q
      apply h
      exact (congrArg Rd.op q).symm
  refine ⟨?_, ?_⟩
  · cases hq : ((at' l r.toNat).op != o)
    · have : (at' l r.toNat).op = o := by simpa using hq
      simp only [Bool.false_eq_true, if_false]
      rw [← this]
      exact set_at hlt
    · simp
  · rw [Bool.eq_iff_iff, decide_eq_true_eq, bne_iff_ne]
    exact e
theorem used_with (l : List Rd) (r : Int) (o : Bool) : withL l r (fun x => cntR x o) = usedL l r o ∧ withB l r (fun x => cntR x o) = usedB l r := by
  cases hok : roadsB l
  · simp [withL, usedL, withB, usedB, hok]
  cases hr : hasB l r
  · simp [withL, usedL, withB, usedB, hok, hr]
  obtain ⟨hlt, _⟩ := at_rd hok hr
  simp only [withL, usedL, withB, usedB, hok, hr, Bool.true_and, if_true]
  by_cases hs : (at' l r.toNat).se = 1000000000
  · have hc : cntR (at' l r.toNat) o = at' l r.toNat := by simp [cntR, hs]
    have hb : ((at' l r.toNat).se != 1000000000) = false := by simpa using hs
    refine ⟨by simp only [hc, hb, set_at hlt]; simp, ?_⟩
    rw [hb]
    exact decide_eq_false (fun q => q hc)
  · have hc : cntR (at' l r.toNat) o = usedR (at' l r.toNat) o := by simp [cntR, hs]
    have hb : ((at' l r.toNat).se != 1000000000) = true := by simpa using hs
    refine ⟨by simp only [hc, hb]; simp, ?_⟩
    rw [hb]
    refine decide_eq_true (fun q => ?_)
    have := congrArg Rd.se (hc.symm.trans q)
    simp only [usedR] at this
    omega

set_option maxHeartbeats 2000000 in
theorem implTurn (a : Option Addr) (n cap : Nat) (l : List Rd) (r : Int) (o : Bool) (w : World) (hn : n = l.length) (h : E.Lies w a l) (ha : a = none → cap = 0) (hl : l.length ≤ 2097152) :
    Calls Try.prog 10 #[.slice a n cap, .int .i64 r, .bool o] w fun x w' => ∃ g c, x = .returned (.tuple #[.slice (some ⟨g, 0, none⟩) (turnL l r o).length c, .bool (turnB l r o)]) ∧ Own w' w.heap.size g c (turnL l r o) ∧ Below w.heap.size w w' := by
  subst hn
  have b0 : Below w.heap.size w (w.alloc (.cells #[.bool o] 4)) := (Below.refl _ _).alloc (Nat.le_refl _) _
  have L0 := h.alloc (.cells #[.bool o] 4)
  have k0 : (w.alloc (.cells #[.bool o] 4)).cell? ⟨w.heap.size, 0, none⟩ = some (.bool o) := by simp
  have hW := withRoad 37 (.inl rfl) w.heap.size o (fun x => { x with op := o }) (fun q w1 hq hc => turn1 q w.heap.size o w1 hc) a l.length cap l r _ rfl L0 ha hl k0
  rw [(turn_with l r o).1, (turn_with l r o).2] at hW
  go_enter Try.func10, Try.ntmps10
  go_wp2_with fail
  refine hW.mono ?_
  rintro x w1 ⟨g, c, rfl, o1, b1⟩
  have O1 : Own w1 w.heap.size g c (turnL l r o) := El.Own.mono (E := E) o1 b0.size
  have B1 := b0.trans (b1.mono b0.size)
  clear hW o1 b1
  go_wp2_with fail
  go_ret2
  exact ⟨g, c, rfl, O1, B1⟩

set_option maxHeartbeats 2000000 in
theorem implUsed (a : Option Addr) (n cap : Nat) (l : List Rd) (r : Int) (o : Bool) (w : World) (hn : n = l.length) (h : E.Lies w a l) (ha : a = none → cap = 0) (hl : l.length ≤ 2097152) :
    Calls Try.prog 12 #[.slice a n cap, .int .i64 r, .bool o] w fun x w' => ∃ g c, x = .returned (.tuple #[.slice (some ⟨g, 0, none⟩) (usedL l r o).length c, .bool (usedB l r)]) ∧ Own w' w.heap.size g c (usedL l r o) ∧ Below w.heap.size w w' := by
  subst hn
  have b0 : Below w.heap.size w (w.alloc (.cells #[.bool o] 4)) := (Below.refl _ _).alloc (Nat.le_refl _) _
  have L0 := h.alloc (.cells #[.bool o] 4)
  have k0 : (w.alloc (.cells #[.bool o] 4)).cell? ⟨w.heap.size, 0, none⟩ = some (.bool o) := by simp
  have hW := withRoad 38 (.inr rfl) w.heap.size o (fun x => cntR x o) (fun q w1 hq hc => used1 q w.heap.size o w1 hq hc) a l.length cap l r _ rfl L0 ha hl k0
  rw [(used_with l r o).1, (used_with l r o).2] at hW
  go_enter Try.func12, Try.ntmps12
  go_wp2_with fail
  refine hW.mono ?_
  rintro x w1 ⟨g, c, rfl, o1, b1⟩
  have O1 : Own w1 w.heap.size g c (usedL l r o) := El.Own.mono (E := E) o1 b0.size
  have B1 := b0.trans (b1.mono b0.size)
  clear hW o1 b1
  go_wp2_with fail
  go_ret2
  exact ⟨g, c, rfl, O1, B1⟩

end Go.Proofs.Ytocdcmglkceohaa.Roa
