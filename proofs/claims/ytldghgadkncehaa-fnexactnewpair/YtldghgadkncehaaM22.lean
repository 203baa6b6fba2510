/- Contracts of this seat's functions, and their mathematics (HopA). -/
import Derived.Test.YtldghgadkncehaaM17
import Derived.Test.YtldghgadkncehaaM20
import Derived.Test.YtldghgadkncehaaM21
set_option linter.unusedVariables false
set_option linter.unusedSimpArgs false
set_option maxRecDepth 10000
set_option maxHeartbeats 4000000
namespace Go.Proofs.Ytldghgadkncehaa.Hop
open Go.RowKit RowG
/-- A hop with nothing in it. -/
abbrev hopV (cg ct fi : Int) : Value := .agg #[.int .i64 0, .string ⟨#[]⟩, .int .i64 cg, .int .i64 0, .bool false, .bool false, .int .i64 0, .string ⟨#[]⟩, .slice none 0 0, .int .i64 ct, .int .i64 fi, .bool false, .slice none 0 0]
abbrev hopC (cg ct fi : Int) : List Value := [.int .i64 0, .string ⟨#[]⟩, .int .i64 cg, .int .i64 0, .bool false, .bool false, .int .i64 0, .string ⟨#[]⟩, .slice none 0 0, .int .i64 ct, .int .i64 fi, .bool false, .slice none 0 0]
def newH (a b : Int) : Int × Int × Int × Bool := if Tak.capB a && Tak.capB b then (a, b, -1, true) else (0, 0, 0, false)
theorem specNewHop (a b : Int) (w : World) :
    Calls Try.prog 58 #[.int .i64 a, .int .i64 b] w fun x w' => x = .returned (.tuple #[hopV (newH a b).1 (newH a b).2.1 (newH a b).2.2.1, .bool (newH a b).2.2.2]) ∧ Below w.heap.size w w' := by
  have hG := fun w' => Giv.specNewGiver a w'
  have hT := fun w' => Tak.specNewTaker b w'
  unfold Giv.newG at hG
  unfold newH
  cases ha : Tak.capB a <;> cases hb : Tak.capB b <;> rw [ha] at hG <;> rw [hb] at hT <;> simp only [Bool.false_eq_true, if_false, if_true, Bool.and_true, Bool.and_false, Bool.true_and, Bool.false_and, Giv.Gv.v, Tak.newT, Tak.zeroT, Giv.zeroG] at hG hT ⊢ <;> clear ha hb
  · have z0 : Var 85 (w.alloc (.cells #[.int .i64 0, .string ⟨#[]⟩, .int .i64 0, .int .i64 0, .bool false, .bool false, .int .i64 0, .string ⟨#[]⟩, .slice none 0 0, .int .i64 0, .int .i64 0, .bool false, .slice none 0 0] 85)) w.heap.size [.int .i64 0, .string ⟨#[]⟩, .int .i64 0, .int .i64 0, .bool false, .bool false, .int .i64 0, .string ⟨#[]⟩, .slice none 0 0, .int .i64 0, .int .i64 0, .bool false, .slice none 0 0] := Var.new w _
    have b0 : Below w.heap.size w (w.alloc (.cells #[.int .i64 0, .string ⟨#[]⟩, .int .i64 0, .int .i64 0, .bool false, .bool false, .int .i64 0, .string ⟨#[]⟩, .slice none 0 0, .int .i64 0, .int .i64 0, .bool false, .slice none 0 0] 85)) := (Below.refl _ _).alloc (Nat.le_refl _) _
    go_enter Try.func58, Try.ntmps58
    go_upto_region 1 with (fail)
    generalize w.alloc (.cells #[.int .i64 0, .string ⟨#[]⟩, .int .i64 0, .int .i64 0, .bool false, .bool false, .int .i64 0, .string ⟨#[]⟩, .slice none 0 0, .int .i64 0, .int .i64 0, .bool false, .slice none 0 0] 85) = W0 at *
    go_wp2_with fail
    refine (hG _).mono ?_
    rintro x w1 ⟨rfl, b1⟩
    have z1 := (z0.later b1).alloc (.cells #[.int .i64 0, .string ⟨#[]⟩, .int .i64 0, .int .i64 0, .bool false, .bool false] 79)
    have B0 := b0.trans (b1.mono b0.size)
    have B1 : Below w.heap.size w (w1.alloc (.cells #[.int .i64 0, .string ⟨#[]⟩, .int .i64 0, .int .i64 0, .bool false, .bool false] 79)) := B0.alloc B0.size _
    have g1 : Var 79 (w1.alloc (.cells #[.int .i64 0, .string ⟨#[]⟩, .int .i64 0, .int .i64 0, .bool false, .bool false] 79)) w1.heap.size [.int .i64 0, .string ⟨#[]⟩, .int .i64 0, .int .i64 0, .bool false, .bool false] := Var.new w1 _
    go_upto_region 2 with (fail)
    generalize w1.alloc (.cells #[.int .i64 0, .string ⟨#[]⟩, .int .i64 0, .int .i64 0, .bool false, .bool false] 79) = W1 at *
    generalize w1.heap.size = k1 at *
    go_wp2_with fail
    refine (hT _).mono ?_
    rintro x w2 ⟨rfl, b2⟩
    have z2 := (z1.later b2).alloc (.cells #[.int .i64 0, .string ⟨#[]⟩, .slice none 0 0, .int .i64 0, .int .i64 0, .bool false] 82)
    have g2 := (g1.later b2).alloc (.cells #[.int .i64 0, .string ⟨#[]⟩, .slice none 0 0, .int .i64 0, .int .i64 0, .bool false] 82)
    have B2 := B1.trans (b2.mono B1.size)
    have B3 : Below w.heap.size w (w2.alloc (.cells #[.int .i64 0, .string ⟨#[]⟩, .slice none 0 0, .int .i64 0, .int .i64 0, .bool false] 82)) := B2.alloc B2.size _
    have t2 : Var 82 (w2.alloc (.cells #[.int .i64 0, .string ⟨#[]⟩, .slice none 0 0, .int .i64 0, .int .i64 0, .bool false] 82)) w2.heap.size [.int .i64 0, .string ⟨#[]⟩, .slice none 0 0, .int .i64 0, .int .i64 0, .bool false] := Var.new w2 _
    go_upto_region 3 with (fail)
    generalize w2.alloc (.cells #[.int .i64 0, .string ⟨#[]⟩, .slice none 0 0, .int .i64 0, .int .i64 0, .bool false] 82) = W2 at *
    generalize w2.heap.size = k2 at *
    clear b0 b1 b2 z0 z1 g1 B0 B1 B2 hG hT
    have e0 := g2.cell (i := 0) rfl
    have e1 := g2.cell (i := 1) rfl
    have e2 := g2.cell (i := 2) rfl
    have e3 := g2.cell (i := 3) rfl
    have e4 := g2.cell (i := 4) rfl
    have e5 := g2.cell (i := 5) rfl
    have f0 := t2.cell (i := 0) rfl
    have f1 := t2.cell (i := 1) rfl
    have f2 := t2.cell (i := 2) rfl
    have f3 := t2.cell (i := 3) rfl
    have f4 := t2.cell (i := 4) rfl
    have f5 := t2.cell (i := 5) rfl
    have q0 := z2.cell (i := 0) rfl
    have q1 := z2.cell (i := 1) rfl
    have q2 := z2.cell (i := 2) rfl
    have q3 := z2.cell (i := 3) rfl
    have q4 := z2.cell (i := 4) rfl
    have q5 := z2.cell (i := 5) rfl
    have q6 := z2.cell (i := 6) rfl
    have q7 := z2.cell (i := 7) rfl
    have q8 := z2.cell (i := 8) rfl
    have q9 := z2.cell (i := 9) rfl
    have q10 := z2.cell (i := 10) rfl
    have q11 := z2.cell (i := 11) rfl
    have q12 := z2.cell (i := 12) rfl
    have y0 := z2.free 0
    have y1 := z2.free 1
    have y2 := z2.free 2
    have y3 := z2.free 3
    have y4 := z2.free 4
    have y5 := z2.free 5
    have y6 := z2.free 6
    have y7 := z2.free 7
    have y8 := z2.free 8
    have y9 := z2.free 9
    have y10 := z2.free 10
    have y11 := z2.free 11
    have y12 := z2.free 12
    go_wp2_with fail
    have zf : Var 85 ((((((((((((((W2.setCell ⟨w.heap.size, 0, none⟩ (.int .i64 0)).setCell ⟨w.heap.size, 1, none⟩ (.string ⟨#[]⟩)).setCell ⟨w.heap.size, 2, none⟩ (.int .i64 0)).setCell ⟨w.heap.size, 3, none⟩ (.int .i64 0)).setCell ⟨w.heap.size, 4, none⟩ (.bool false)).setCell ⟨w.heap.size, 5, none⟩ (.bool false)).setCell ⟨w.heap.size, 6, none⟩ (.int .i64 0)).setCell ⟨w.heap.size, 7, none⟩ (.string ⟨#[]⟩)).setCell ⟨w.heap.size, 8, none⟩ (.slice none 0 0)).setCell ⟨w.heap.size, 9, none⟩ (.int .i64 0)).setCell ⟨w.heap.size, 10, none⟩ (.int .i64 0)).setCell ⟨w.heap.size, 11, none⟩ (.bool false)).setCell ⟨w.heap.size, 12, none⟩ (.slice none 0 0))) w.heap.size [.int .i64 0, .string ⟨#[]⟩, .int .i64 0, .int .i64 0, .bool false, .bool false, .int .i64 0, .string ⟨#[]⟩, .slice none 0 0, .int .i64 0, .int .i64 0, .bool false, .slice none 0 0] := (((((((((((((z2.set 0 _).set 1 _).set 2 _).set 3 _).set 4 _).set 5 _).set 6 _).set 7 _).set 8 _).set 9 _).set 10 _).set 11 _).set 12 _)
    have Bf : Below w.heap.size w ((((((((((((((W2.setCell ⟨w.heap.size, 0, none⟩ (.int .i64 0)).setCell ⟨w.heap.size, 1, none⟩ (.string ⟨#[]⟩)).setCell ⟨w.heap.size, 2, none⟩ (.int .i64 0)).setCell ⟨w.heap.size, 3, none⟩ (.int .i64 0)).setCell ⟨w.heap.size, 4, none⟩ (.bool false)).setCell ⟨w.heap.size, 5, none⟩ (.bool false)).setCell ⟨w.heap.size, 6, none⟩ (.int .i64 0)).setCell ⟨w.heap.size, 7, none⟩ (.string ⟨#[]⟩)).setCell ⟨w.heap.size, 8, none⟩ (.slice none 0 0)).setCell ⟨w.heap.size, 9, none⟩ (.int .i64 0)).setCell ⟨w.heap.size, 10, none⟩ (.int .i64 0)).setCell ⟨w.heap.size, 11, none⟩ (.bool false)).setCell ⟨w.heap.size, 12, none⟩ (.slice none 0 0))) := by
      iterate 13 (refine Below.setCell ?_ (by dsimp only; omega) _)
      exact B3
    generalize (((((((((((((W2.setCell ⟨w.heap.size, 0, none⟩ (.int .i64 0)).setCell ⟨w.heap.size, 1, none⟩ (.string ⟨#[]⟩)).setCell ⟨w.heap.size, 2, none⟩ (.int .i64 0)).setCell ⟨w.heap.size, 3, none⟩ (.int .i64 0)).setCell ⟨w.heap.size, 4, none⟩ (.bool false)).setCell ⟨w.heap.size, 5, none⟩ (.bool false)).setCell ⟨w.heap.size, 6, none⟩ (.int .i64 0)).setCell ⟨w.heap.size, 7, none⟩ (.string ⟨#[]⟩)).setCell ⟨w.heap.size, 8, none⟩ (.slice none 0 0)).setCell ⟨w.heap.size, 9, none⟩ (.int .i64 0)).setCell ⟨w.heap.size, 10, none⟩ (.int .i64 0)).setCell ⟨w.heap.size, 11, none⟩ (.bool false)).setCell ⟨w.heap.size, 12, none⟩ (.slice none 0 0)) = W3 at zf Bf ⊢
    have s0 := zf.cell (i := 0) rfl
    have s1 := zf.cell (i := 1) rfl
    have s2 := zf.cell (i := 2) rfl
    have s3 := zf.cell (i := 3) rfl
    have s4 := zf.cell (i := 4) rfl
    have s5 := zf.cell (i := 5) rfl
    have s6 := zf.cell (i := 6) rfl
    have s7 := zf.cell (i := 7) rfl
    have s8 := zf.cell (i := 8) rfl
    have s9 := zf.cell (i := 9) rfl
    have s10 := zf.cell (i := 10) rfl
    have s11 := zf.cell (i := 11) rfl
    have s12 := zf.cell (i := 12) rfl
    refine bodyPost_ret (v := .tuple #[hopV 0 0 0, .bool false]) (by rw [Tak.res_cell_tmp rfl]; clear B3 z2 g2 t2 q0 y0 q1 y1 q2 y2 q3 y3 q4 y4 q5 y5 q6 y6 q7 y7 q8 y8 q9 y9 q10 y10 q11 y11 q12 y12 e0 f0 e1 f1 e2 f2 e3 f3 e4 f4 e5 f5; go_simp; done) rfl ⟨rfl, Bf⟩
  · have z0 : Var 85 (w.alloc (.cells #[.int .i64 0, .string ⟨#[]⟩, .int .i64 0, .int .i64 0, .bool false, .bool false, .int .i64 0, .string ⟨#[]⟩, .slice none 0 0, .int .i64 0, .int .i64 0, .bool false, .slice none 0 0] 85)) w.heap.size [.int .i64 0, .string ⟨#[]⟩, .int .i64 0, .int .i64 0, .bool false, .bool false, .int .i64 0, .string ⟨#[]⟩, .slice none 0 0, .int .i64 0, .int .i64 0, .bool false, .slice none 0 0] := Var.new w _
    have b0 : Below w.heap.size w (w.alloc (.cells #[.int .i64 0, .string ⟨#[]⟩, .int .i64 0, .int .i64 0, .bool false, .bool false, .int .i64 0, .string ⟨#[]⟩, .slice none 0 0, .int .i64 0, .int .i64 0, .bool false, .slice none 0 0] 85)) := (Below.refl _ _).alloc (Nat.le_refl _) _
    go_enter Try.func58, Try.ntmps58
    go_upto_region 1 with (fail)
    generalize w.alloc (.cells #[.int .i64 0, .string ⟨#[]⟩, .int .i64 0, .int .i64 0, .bool false, .bool false, .int .i64 0, .string ⟨#[]⟩, .slice none 0 0, .int .i64 0, .int .i64 0, .bool false, .slice none 0 0] 85) = W0 at *
    go_wp2_with fail
    refine (hG _).mono ?_
    rintro x w1 ⟨rfl, b1⟩
    have z1 := (z0.later b1).alloc (.cells #[.int .i64 0, .string ⟨#[]⟩, .int .i64 0, .int .i64 0, .bool false, .bool false] 79)
    have B0 := b0.trans (b1.mono b0.size)
    have B1 : Below w.heap.size w (w1.alloc (.cells #[.int .i64 0, .string ⟨#[]⟩, .int .i64 0, .int .i64 0, .bool false, .bool false] 79)) := B0.alloc B0.size _
    have g1 : Var 79 (w1.alloc (.cells #[.int .i64 0, .string ⟨#[]⟩, .int .i64 0, .int .i64 0, .bool false, .bool false] 79)) w1.heap.size [.int .i64 0, .string ⟨#[]⟩, .int .i64 0, .int .i64 0, .bool false, .bool false] := Var.new w1 _
    go_upto_region 2 with (fail)
    generalize w1.alloc (.cells #[.int .i64 0, .string ⟨#[]⟩, .int .i64 0, .int .i64 0, .bool false, .bool false] 79) = W1 at *
    generalize w1.heap.size = k1 at *
    go_wp2_with fail
    refine (hT _).mono ?_
    rintro x w2 ⟨rfl, b2⟩
    have z2 := (z1.later b2).alloc (.cells #[.int .i64 0, .string ⟨#[]⟩, .slice none 0 0, .int .i64 b, .int .i64 (-1), .bool false] 82)
    have g2 := (g1.later b2).alloc (.cells #[.int .i64 0, .string ⟨#[]⟩, .slice none 0 0, .int .i64 b, .int .i64 (-1), .bool false] 82)
    have B2 := B1.trans (b2.mono B1.size)
    have B3 : Below w.heap.size w (w2.alloc (.cells #[.int .i64 0, .string ⟨#[]⟩, .slice none 0 0, .int .i64 b, .int .i64 (-1), .bool false] 82)) := B2.alloc B2.size _
    have t2 : Var 82 (w2.alloc (.cells #[.int .i64 0, .string ⟨#[]⟩, .slice none 0 0, .int .i64 b, .int .i64 (-1), .bool false] 82)) w2.heap.size [.int .i64 0, .string ⟨#[]⟩, .slice none 0 0, .int .i64 b, .int .i64 (-1), .bool false] := Var.new w2 _
    go_upto_region 3 with (fail)
    generalize w2.alloc (.cells #[.int .i64 0, .string ⟨#[]⟩, .slice none 0 0, .int .i64 b, .int .i64 (-1), .bool false] 82) = W2 at *
    generalize w2.heap.size = k2 at *
    clear b0 b1 b2 z0 z1 g1 B0 B1 B2 hG hT
    have e0 := g2.cell (i := 0) rfl
    have e1 := g2.cell (i := 1) rfl
    have e2 := g2.cell (i := 2) rfl
    have e3 := g2.cell (i := 3) rfl
    have e4 := g2.cell (i := 4) rfl
    have e5 := g2.cell (i := 5) rfl
    have f0 := t2.cell (i := 0) rfl
    have f1 := t2.cell (i := 1) rfl
    have f2 := t2.cell (i := 2) rfl
    have f3 := t2.cell (i := 3) rfl
    have f4 := t2.cell (i := 4) rfl
    have f5 := t2.cell (i := 5) rfl
    have q0 := z2.cell (i := 0) rfl
    have q1 := z2.cell (i := 1) rfl
    have q2 := z2.cell (i := 2) rfl
    have q3 := z2.cell (i := 3) rfl
    have q4 := z2.cell (i := 4) rfl
    have q5 := z2.cell (i := 5) rfl
    have q6 := z2.cell (i := 6) rfl
    have q7 := z2.cell (i := 7) rfl
    have q8 := z2.cell (i := 8) rfl
    have q9 := z2.cell (i := 9) rfl
    have q10 := z2.cell (i := 10) rfl
    have q11 := z2.cell (i := 11) rfl
    have q12 := z2.cell (i := 12) rfl
    have y0 := z2.free 0
    have y1 := z2.free 1
    have y2 := z2.free 2
    have y3 := z2.free 3
    have y4 := z2.free 4
    have y5 := z2.free 5
    have y6 := z2.free 6
    have y7 := z2.free 7
    have y8 := z2.free 8
    have y9 := z2.free 9
    have y10 := z2.free 10
    have y11 := z2.free 11
    have y12 := z2.free 12
    go_wp2_with fail
    have zf : Var 85 ((((((((((((((W2.setCell ⟨w.heap.size, 0, none⟩ (.int .i64 0)).setCell ⟨w.heap.size, 1, none⟩ (.string ⟨#[]⟩)).setCell ⟨w.heap.size, 2, none⟩ (.int .i64 0)).setCell ⟨w.heap.size, 3, none⟩ (.int .i64 0)).setCell ⟨w.heap.size, 4, none⟩ (.bool false)).setCell ⟨w.heap.size, 5, none⟩ (.bool false)).setCell ⟨w.heap.size, 6, none⟩ (.int .i64 0)).setCell ⟨w.heap.size, 7, none⟩ (.string ⟨#[]⟩)).setCell ⟨w.heap.size, 8, none⟩ (.slice none 0 0)).setCell ⟨w.heap.size, 9, none⟩ (.int .i64 0)).setCell ⟨w.heap.size, 10, none⟩ (.int .i64 0)).setCell ⟨w.heap.size, 11, none⟩ (.bool false)).setCell ⟨w.heap.size, 12, none⟩ (.slice none 0 0))) w.heap.size [.int .i64 0, .string ⟨#[]⟩, .int .i64 0, .int .i64 0, .bool false, .bool false, .int .i64 0, .string ⟨#[]⟩, .slice none 0 0, .int .i64 0, .int .i64 0, .bool false, .slice none 0 0] := (((((((((((((z2.set 0 _).set 1 _).set 2 _).set 3 _).set 4 _).set 5 _).set 6 _).set 7 _).set 8 _).set 9 _).set 10 _).set 11 _).set 12 _)
    have Bf : Below w.heap.size w ((((((((((((((W2.setCell ⟨w.heap.size, 0, none⟩ (.int .i64 0)).setCell ⟨w.heap.size, 1, none⟩ (.string ⟨#[]⟩)).setCell ⟨w.heap.size, 2, none⟩ (.int .i64 0)).setCell ⟨w.heap.size, 3, none⟩ (.int .i64 0)).setCell ⟨w.heap.size, 4, none⟩ (.bool false)).setCell ⟨w.heap.size, 5, none⟩ (.bool false)).setCell ⟨w.heap.size, 6, none⟩ (.int .i64 0)).setCell ⟨w.heap.size, 7, none⟩ (.string ⟨#[]⟩)).setCell ⟨w.heap.size, 8, none⟩ (.slice none 0 0)).setCell ⟨w.heap.size, 9, none⟩ (.int .i64 0)).setCell ⟨w.heap.size, 10, none⟩ (.int .i64 0)).setCell ⟨w.heap.size, 11, none⟩ (.bool false)).setCell ⟨w.heap.size, 12, none⟩ (.slice none 0 0))) := by
      iterate 13 (refine Below.setCell ?_ (by dsimp only; omega) _)
      exact B3
    generalize (((((((((((((W2.setCell ⟨w.heap.size, 0, none⟩ (.int .i64 0)).setCell ⟨w.heap.size, 1, none⟩ (.string ⟨#[]⟩)).setCell ⟨w.heap.size, 2, none⟩ (.int .i64 0)).setCell ⟨w.heap.size, 3, none⟩ (.int .i64 0)).setCell ⟨w.heap.size, 4, none⟩ (.bool false)).setCell ⟨w.heap.size, 5, none⟩ (.bool false)).setCell ⟨w.heap.size, 6, none⟩ (.int .i64 0)).setCell ⟨w.heap.size, 7, none⟩ (.string ⟨#[]⟩)).setCell ⟨w.heap.size, 8, none⟩ (.slice none 0 0)).setCell ⟨w.heap.size, 9, none⟩ (.int .i64 0)).setCell ⟨w.heap.size, 10, none⟩ (.int .i64 0)).setCell ⟨w.heap.size, 11, none⟩ (.bool false)).setCell ⟨w.heap.size, 12, none⟩ (.slice none 0 0)) = W3 at zf Bf ⊢
    have s0 := zf.cell (i := 0) rfl
    have s1 := zf.cell (i := 1) rfl
    have s2 := zf.cell (i := 2) rfl
    have s3 := zf.cell (i := 3) rfl
    have s4 := zf.cell (i := 4) rfl
    have s5 := zf.cell (i := 5) rfl
    have s6 := zf.cell (i := 6) rfl
    have s7 := zf.cell (i := 7) rfl
    have s8 := zf.cell (i := 8) rfl
    have s9 := zf.cell (i := 9) rfl
    have s10 := zf.cell (i := 10) rfl
    have s11 := zf.cell (i := 11) rfl
    have s12 := zf.cell (i := 12) rfl
    refine bodyPost_ret (v := .tuple #[hopV 0 0 0, .bool false]) (by rw [Tak.res_cell_tmp rfl]; clear B3 z2 g2 t2 q0 y0 q1 y1 q2 y2 q3 y3 q4 y4 q5 y5 q6 y6 q7 y7 q8 y8 q9 y9 q10 y10 q11 y11 q12 y12 e0 f0 e1 f1 e2 f2 e3 f3 e4 f4 e5 f5; go_simp; done) rfl ⟨rfl, Bf⟩
  · have z0 : Var 85 (w.alloc (.cells #[.int .i64 0, .string ⟨#[]⟩, .int .i64 0, .int .i64 0, .bool false, .bool false, .int .i64 0, .string ⟨#[]⟩, .slice none 0 0, .int .i64 0, .int .i64 0, .bool false, .slice none 0 0] 85)) w.heap.size [.int .i64 0, .string ⟨#[]⟩, .int .i64 0, .int .i64 0, .bool false, .bool false, .int .i64 0, .string ⟨#[]⟩, .slice none 0 0, .int .i64 0, .int .i64 0, .bool false, .slice none 0 0] := Var.new w _
    have b0 : Below w.heap.size w (w.alloc (.cells #[.int .i64 0, .string ⟨#[]⟩, .int .i64 0, .int .i64 0, .bool false, .bool false, .int .i64 0, .string ⟨#[]⟩, .slice none 0 0, .int .i64 0, .int .i64 0, .bool false, .slice none 0 0] 85)) := (Below.refl _ _).alloc (Nat.le_refl _) _
    go_enter Try.func58, Try.ntmps58
    go_upto_region 1 with (fail)
    generalize w.alloc (.cells #[.int .i64 0, .string ⟨#[]⟩, .int .i64 0, .int .i64 0, .bool false, .bool false, .int .i64 0, .string ⟨#[]⟩, .slice none 0 0, .int .i64 0, .int .i64 0, .bool false, .slice none 0 0] 85) = W0 at *
    go_wp2_with fail
    refine (hG _).mono ?_
    rintro x w1 ⟨rfl, b1⟩
    have z1 := (z0.later b1).alloc (.cells #[.int .i64 0, .string ⟨#[]⟩, .int .i64 a, .int .i64 0, .bool false, .bool false] 79)
    have B0 := b0.trans (b1.mono b0.size)
    have B1 : Below w.heap.size w (w1.alloc (.cells #[.int .i64 0, .string ⟨#[]⟩, .int .i64 a, .int .i64 0, .bool false, .bool false] 79)) := B0.alloc B0.size _
    have g1 : Var 79 (w1.alloc (.cells #[.int .i64 0, .string ⟨#[]⟩, .int .i64 a, .int .i64 0, .bool false, .bool false] 79)) w1.heap.size [.int .i64 0, .string ⟨#[]⟩, .int .i64 a, .int .i64 0, .bool false, .bool false] := Var.new w1 _
    go_upto_region 2 with (fail)
    generalize w1.alloc (.cells #[.int .i64 0, .string ⟨#[]⟩, .int .i64 a, .int .i64 0, .bool false, .bool false] 79) = W1 at *
    generalize w1.heap.size = k1 at *
    go_wp2_with fail
    refine (hT _).mono ?_
    rintro x w2 ⟨rfl, b2⟩
    have z2 := (z1.later b2).alloc (.cells #[.int .i64 0, .string ⟨#[]⟩, .slice none 0 0, .int .i64 0, .int .i64 0, .bool false] 82)
    have g2 := (g1.later b2).alloc (.cells #[.int .i64 0, .string ⟨#[]⟩, .slice none 0 0, .int .i64 0, .int .i64 0, .bool false] 82)
    have B2 := B1.trans (b2.mono B1.size)
    have B3 : Below w.heap.size w (w2.alloc (.cells #[.int .i64 0, .string ⟨#[]⟩, .slice none 0 0, .int .i64 0, .int .i64 0, .bool false] 82)) := B2.alloc B2.size _
    have t2 : Var 82 (w2.alloc (.cells #[.int .i64 0, .string ⟨#[]⟩, .slice none 0 0, .int .i64 0, .int .i64 0, .bool false] 82)) w2.heap.size [.int .i64 0, .string ⟨#[]⟩, .slice none 0 0, .int .i64 0, .int .i64 0, .bool false] := Var.new w2 _
    go_upto_region 3 with (fail)
    generalize w2.alloc (.cells #[.int .i64 0, .string ⟨#[]⟩, .slice none 0 0, .int .i64 0, .int .i64 0, .bool false] 82) = W2 at *
    generalize w2.heap.size = k2 at *
    clear b0 b1 b2 z0 z1 g1 B0 B1 B2 hG hT
    have e0 := g2.cell (i := 0) rfl
    have e1 := g2.cell (i := 1) rfl
    have e2 := g2.cell (i := 2) rfl
    have e3 := g2.cell (i := 3) rfl
    have e4 := g2.cell (i := 4) rfl
    have e5 := g2.cell (i := 5) rfl
    have f0 := t2.cell (i := 0) rfl
    have f1 := t2.cell (i := 1) rfl
    have f2 := t2.cell (i := 2) rfl
    have f3 := t2.cell (i := 3) rfl
    have f4 := t2.cell (i := 4) rfl
    have f5 := t2.cell (i := 5) rfl
    have q0 := z2.cell (i := 0) rfl
    have q1 := z2.cell (i := 1) rfl
    have q2 := z2.cell (i := 2) rfl
    have q3 := z2.cell (i := 3) rfl
    have q4 := z2.cell (i := 4) rfl
    have q5 := z2.cell (i := 5) rfl
    have q6 := z2.cell (i := 6) rfl
    have q7 := z2.cell (i := 7) rfl
    have q8 := z2.cell (i := 8) rfl
    have q9 := z2.cell (i := 9) rfl
    have q10 := z2.cell (i := 10) rfl
    have q11 := z2.cell (i := 11) rfl
    have q12 := z2.cell (i := 12) rfl
    have y0 := z2.free 0
    have y1 := z2.free 1
    have y2 := z2.free 2
    have y3 := z2.free 3
    have y4 := z2.free 4
    have y5 := z2.free 5
    have y6 := z2.free 6
    have y7 := z2.free 7
    have y8 := z2.free 8
    have y9 := z2.free 9
    have y10 := z2.free 10
    have y11 := z2.free 11
    have y12 := z2.free 12
    go_wp2_with fail
    have zf : Var 85 ((((((((((((((W2.setCell ⟨w.heap.size, 0, none⟩ (.int .i64 0)).setCell ⟨w.heap.size, 1, none⟩ (.string ⟨#[]⟩)).setCell ⟨w.heap.size, 2, none⟩ (.int .i64 0)).setCell ⟨w.heap.size, 3, none⟩ (.int .i64 0)).setCell ⟨w.heap.size, 4, none⟩ (.bool false)).setCell ⟨w.heap.size, 5, none⟩ (.bool false)).setCell ⟨w.heap.size, 6, none⟩ (.int .i64 0)).setCell ⟨w.heap.size, 7, none⟩ (.string ⟨#[]⟩)).setCell ⟨w.heap.size, 8, none⟩ (.slice none 0 0)).setCell ⟨w.heap.size, 9, none⟩ (.int .i64 0)).setCell ⟨w.heap.size, 10, none⟩ (.int .i64 0)).setCell ⟨w.heap.size, 11, none⟩ (.bool false)).setCell ⟨w.heap.size, 12, none⟩ (.slice none 0 0))) w.heap.size [.int .i64 0, .string ⟨#[]⟩, .int .i64 0, .int .i64 0, .bool false, .bool false, .int .i64 0, .string ⟨#[]⟩, .slice none 0 0, .int .i64 0, .int .i64 0, .bool false, .slice none 0 0] := (((((((((((((z2.set 0 _).set 1 _).set 2 _).set 3 _).set 4 _).set 5 _).set 6 _).set 7 _).set 8 _).set 9 _).set 10 _).set 11 _).set 12 _)
    have Bf : Below w.heap.size w ((((((((((((((W2.setCell ⟨w.heap.size, 0, none⟩ (.int .i64 0)).setCell ⟨w.heap.size, 1, none⟩ (.string ⟨#[]⟩)).setCell ⟨w.heap.size, 2, none⟩ (.int .i64 0)).setCell ⟨w.heap.size, 3, none⟩ (.int .i64 0)).setCell ⟨w.heap.size, 4, none⟩ (.bool false)).setCell ⟨w.heap.size, 5, none⟩ (.bool false)).setCell ⟨w.heap.size, 6, none⟩ (.int .i64 0)).setCell ⟨w.heap.size, 7, none⟩ (.string ⟨#[]⟩)).setCell ⟨w.heap.size, 8, none⟩ (.slice none 0 0)).setCell ⟨w.heap.size, 9, none⟩ (.int .i64 0)).setCell ⟨w.heap.size, 10, none⟩ (.int .i64 0)).setCell ⟨w.heap.size, 11, none⟩ (.bool false)).setCell ⟨w.heap.size, 12, none⟩ (.slice none 0 0))) := by
      iterate 13 (refine Below.setCell ?_ (by dsimp only; omega) _)
      exact B3
    generalize (((((((((((((W2.setCell ⟨w.heap.size, 0, none⟩ (.int .i64 0)).setCell ⟨w.heap.size, 1, none⟩ (.string ⟨#[]⟩)).setCell ⟨w.heap.size, 2, none⟩ (.int .i64 0)).setCell ⟨w.heap.size, 3, none⟩ (.int .i64 0)).setCell ⟨w.heap.size, 4, none⟩ (.bool false)).setCell ⟨w.heap.size, 5, none⟩ (.bool false)).setCell ⟨w.heap.size, 6, none⟩ (.int .i64 0)).setCell ⟨w.heap.size, 7, none⟩ (.string ⟨#[]⟩)).setCell ⟨w.heap.size, 8, none⟩ (.slice none 0 0)).setCell ⟨w.heap.size, 9, none⟩ (.int .i64 0)).setCell ⟨w.heap.size, 10, none⟩ (.int .i64 0)).setCell ⟨w.heap.size, 11, none⟩ (.bool false)).setCell ⟨w.heap.size, 12, none⟩ (.slice none 0 0)) = W3 at zf Bf ⊢
    have s0 := zf.cell (i := 0) rfl
    have s1 := zf.cell (i := 1) rfl
    have s2 := zf.cell (i := 2) rfl
    have s3 := zf.cell (i := 3) rfl
    have s4 := zf.cell (i := 4) rfl
    have s5 := zf.cell (i := 5) rfl
    have s6 := zf.cell (i := 6) rfl
    have s7 := zf.cell (i := 7) rfl
    have s8 := zf.cell (i := 8) rfl
    have s9 := zf.cell (i := 9) rfl
    have s10 := zf.cell (i := 10) rfl
    have s11 := zf.cell (i := 11) rfl
    have s12 := zf.cell (i := 12) rfl
    refine bodyPost_ret (v := .tuple #[hopV 0 0 0, .bool false]) (by rw [Tak.res_cell_tmp rfl]; clear B3 z2 g2 t2 q0 y0 q1 y1 q2 y2 q3 y3 q4 y4 q5 y5 q6 y6 q7 y7 q8 y8 q9 y9 q10 y10 q11 y11 q12 y12 e0 f0 e1 f1 e2 f2 e3 f3 e4 f4 e5 f5; go_simp; done) rfl ⟨rfl, Bf⟩
  · have z0 : Var 85 (w.alloc (.cells #[.int .i64 0, .string ⟨#[]⟩, .int .i64 0, .int .i64 0, .bool false, .bool false, .int .i64 0, .string ⟨#[]⟩, .slice none 0 0, .int .i64 0, .int .i64 0, .bool false, .slice none 0 0] 85)) w.heap.size [.int .i64 0, .string ⟨#[]⟩, .int .i64 0, .int .i64 0, .bool false, .bool false, .int .i64 0, .string ⟨#[]⟩, .slice none 0 0, .int .i64 0, .int .i64 0, .bool false, .slice none 0 0] := Var.new w _
    have b0 : Below w.heap.size w (w.alloc (.cells #[.int .i64 0, .string ⟨#[]⟩, .int .i64 0, .int .i64 0, .bool false, .bool false, .int .i64 0, .string ⟨#[]⟩, .slice none 0 0, .int .i64 0, .int .i64 0, .bool false, .slice none 0 0] 85)) := (Below.refl _ _).alloc (Nat.le_refl _) _
    go_enter Try.func58, Try.ntmps58
    go_upto_region 1 with (fail)
    generalize w.alloc (.cells #[.int .i64 0, .string ⟨#[]⟩, .int .i64 0, .int .i64 0, .bool false, .bool false, .int .i64 0, .string ⟨#[]⟩, .slice none 0 0, .int .i64 0, .int .i64 0, .bool false, .slice none 0 0] 85) = W0 at *
    go_wp2_with fail
    refine (hG _).mono ?_
    rintro x w1 ⟨rfl, b1⟩
    have z1 := (z0.later b1).alloc (.cells #[.int .i64 0, .string ⟨#[]⟩, .int .i64 a, .int .i64 0, .bool false, .bool false] 79)
    have B0 := b0.trans (b1.mono b0.size)
    have B1 : Below w.heap.size w (w1.alloc (.cells #[.int .i64 0, .string ⟨#[]⟩, .int .i64 a, .int .i64 0, .bool false, .bool false] 79)) := B0.alloc B0.size _
    have g1 : Var 79 (w1.alloc (.cells #[.int .i64 0, .string ⟨#[]⟩, .int .i64 a, .int .i64 0, .bool false, .bool false] 79)) w1.heap.size [.int .i64 0, .string ⟨#[]⟩, .int .i64 a, .int .i64 0, .bool false, .bool false] := Var.new w1 _
    go_upto_region 2 with (fail)
    generalize w1.alloc (.cells #[.int .i64 0, .string ⟨#[]⟩, .int .i64 a, .int .i64 0, .bool false, .bool false] 79) = W1 at *
    generalize w1.heap.size = k1 at *
    go_wp2_with fail
    refine (hT _).mono ?_
    rintro x w2 ⟨rfl, b2⟩
    have z2 := (z1.later b2).alloc (.cells #[.int .i64 0, .string ⟨#[]⟩, .slice none 0 0, .int .i64 b, .int .i64 (-1), .bool false] 82)
    have g2 := (g1.later b2).alloc (.cells #[.int .i64 0, .string ⟨#[]⟩, .slice none 0 0, .int .i64 b, .int .i64 (-1), .bool false] 82)
    have B2 := B1.trans (b2.mono B1.size)
    have B3 : Below w.heap.size w (w2.alloc (.cells #[.int .i64 0, .string ⟨#[]⟩, .slice none 0 0, .int .i64 b, .int .i64 (-1), .bool false] 82)) := B2.alloc B2.size _
    have t2 : Var 82 (w2.alloc (.cells #[.int .i64 0, .string ⟨#[]⟩, .slice none 0 0, .int .i64 b, .int .i64 (-1), .bool false] 82)) w2.heap.size [.int .i64 0, .string ⟨#[]⟩, .slice none 0 0, .int .i64 b, .int .i64 (-1), .bool false] := Var.new w2 _
    go_upto_region 3 with (fail)
    generalize w2.alloc (.cells #[.int .i64 0, .string ⟨#[]⟩, .slice none 0 0, .int .i64 b, .int .i64 (-1), .bool false] 82) = W2 at *
    generalize w2.heap.size = k2 at *
    clear b0 b1 b2 z0 z1 g1 B0 B1 B2 hG hT
    have e0 := g2.cell (i := 0) rfl
    have e1 := g2.cell (i := 1) rfl
    have e2 := g2.cell (i := 2) rfl
    have e3 := g2.cell (i := 3) rfl
    have e4 := g2.cell (i := 4) rfl
    have e5 := g2.cell (i := 5) rfl
    have f0 := t2.cell (i := 0) rfl
    have f1 := t2.cell (i := 1) rfl
    have f2 := t2.cell (i := 2) rfl
    have f3 := t2.cell (i := 3) rfl
    have f4 := t2.cell (i := 4) rfl
    have f5 := t2.cell (i := 5) rfl
    have q0 := z2.cell (i := 0) rfl
    have q1 := z2.cell (i := 1) rfl
    have q2 := z2.cell (i := 2) rfl
    have q3 := z2.cell (i := 3) rfl
    have q4 := z2.cell (i := 4) rfl
    have q5 := z2.cell (i := 5) rfl
    have q6 := z2.cell (i := 6) rfl
    have q7 := z2.cell (i := 7) rfl
    have q8 := z2.cell (i := 8) rfl
    have q9 := z2.cell (i := 9) rfl
    have q10 := z2.cell (i := 10) rfl
    have q11 := z2.cell (i := 11) rfl
    have q12 := z2.cell (i := 12) rfl
    have y0 := z2.free 0
    have y1 := z2.free 1
    have y2 := z2.free 2
    have y3 := z2.free 3
    have y4 := z2.free 4
    have y5 := z2.free 5
    have y6 := z2.free 6
    have y7 := z2.free 7
    have y8 := z2.free 8
    have y9 := z2.free 9
    have y10 := z2.free 10
    have y11 := z2.free 11
    have y12 := z2.free 12
    go_wp2_with fail
    have zf : Var 85 ((((((((((((((W2.setCell ⟨w.heap.size, 0, none⟩ (.int .i64 0)).setCell ⟨w.heap.size, 1, none⟩ (.string ⟨#[]⟩)).setCell ⟨w.heap.size, 2, none⟩ (.int .i64 a)).setCell ⟨w.heap.size, 3, none⟩ (.int .i64 0)).setCell ⟨w.heap.size, 4, none⟩ (.bool false)).setCell ⟨w.heap.size, 5, none⟩ (.bool false)).setCell ⟨w.heap.size, 6, none⟩ (.int .i64 0)).setCell ⟨w.heap.size, 7, none⟩ (.string ⟨#[]⟩)).setCell ⟨w.heap.size, 8, none⟩ (.slice none 0 0)).setCell ⟨w.heap.size, 9, none⟩ (.int .i64 b)).setCell ⟨w.heap.size, 10, none⟩ (.int .i64 (-1))).setCell ⟨w.heap.size, 11, none⟩ (.bool false)).setCell ⟨w.heap.size, 12, none⟩ (.slice none 0 0))) w.heap.size [.int .i64 0, .string ⟨#[]⟩, .int .i64 a, .int .i64 0, .bool false, .bool false, .int .i64 0, .string ⟨#[]⟩, .slice none 0 0, .int .i64 b, .int .i64 (-1), .bool false, .slice none 0 0] := (((((((((((((z2.set 0 _).set 1 _).set 2 _).set 3 _).set 4 _).set 5 _).set 6 _).set 7 _).set 8 _).set 9 _).set 10 _).set 11 _).set 12 _)
    have Bf : Below w.heap.size w ((((((((((((((W2.setCell ⟨w.heap.size, 0, none⟩ (.int .i64 0)).setCell ⟨w.heap.size, 1, none⟩ (.string ⟨#[]⟩)).setCell ⟨w.heap.size, 2, none⟩ (.int .i64 a)).setCell ⟨w.heap.size, 3, none⟩ (.int .i64 0)).setCell ⟨w.heap.size, 4, none⟩ (.bool false)).setCell ⟨w.heap.size, 5, none⟩ (.bool false)).setCell ⟨w.heap.size, 6, none⟩ (.int .i64 0)).setCell ⟨w.heap.size, 7, none⟩ (.string ⟨#[]⟩)).setCell ⟨w.heap.size, 8, none⟩ (.slice none 0 0)).setCell ⟨w.heap.size, 9, none⟩ (.int .i64 b)).setCell ⟨w.heap.size, 10, none⟩ (.int .i64 (-1))).setCell ⟨w.heap.size, 11, none⟩ (.bool false)).setCell ⟨w.heap.size, 12, none⟩ (.slice none 0 0))) := by
      iterate 13 (refine Below.setCell ?_ (by dsimp only; omega) _)
      exact B3
    generalize (((((((((((((W2.setCell ⟨w.heap.size, 0, none⟩ (.int .i64 0)).setCell ⟨w.heap.size, 1, none⟩ (.string ⟨#[]⟩)).setCell ⟨w.heap.size, 2, none⟩ (.int .i64 a)).setCell ⟨w.heap.size, 3, none⟩ (.int .i64 0)).setCell ⟨w.heap.size, 4, none⟩ (.bool false)).setCell ⟨w.heap.size, 5, none⟩ (.bool false)).setCell ⟨w.heap.size, 6, none⟩ (.int .i64 0)).setCell ⟨w.heap.size, 7, none⟩ (.string ⟨#[]⟩)).setCell ⟨w.heap.size, 8, none⟩ (.slice none 0 0)).setCell ⟨w.heap.size, 9, none⟩ (.int .i64 b)).setCell ⟨w.heap.size, 10, none⟩ (.int .i64 (-1))).setCell ⟨w.heap.size, 11, none⟩ (.bool false)).setCell ⟨w.heap.size, 12, none⟩ (.slice none 0 0)) = W3 at zf Bf ⊢
    have s0 := zf.cell (i := 0) rfl
    have s1 := zf.cell (i := 1) rfl
    have s2 := zf.cell (i := 2) rfl
    have s3 := zf.cell (i := 3) rfl
    have s4 := zf.cell (i := 4) rfl
    have s5 := zf.cell (i := 5) rfl
    have s6 := zf.cell (i := 6) rfl
    have s7 := zf.cell (i := 7) rfl
    have s8 := zf.cell (i := 8) rfl
    have s9 := zf.cell (i := 9) rfl
    have s10 := zf.cell (i := 10) rfl
    have s11 := zf.cell (i := 11) rfl
    have s12 := zf.cell (i := 12) rfl
    refine bodyPost_ret (v := .tuple #[hopV a b (-1), .bool true]) (by rw [Tak.res_cell_tmp rfl]; clear B3 z2 g2 t2 q0 y0 q1 y1 q2 y2 q3 y3 q4 y4 q5 y5 q6 y6 q7 y7 q8 y8 q9 y9 q10 y10 q11 y11 q12 y12 e0 f0 e1 f1 e2 f2 e3 f3 e4 f4 e5 f5; go_simp; done) rfl ⟨rfl, Bf⟩
theorem implNewHop (a b : Int) (w : World) :
    Calls Try.prog 61 #[.int .i64 a, .int .i64 b] w fun x w' => x = .returned (.tuple #[hopV (newH a b).1 (newH a b).2.1 (newH a b).2.2.1, .bool (newH a b).2.2.2]) ∧ Below w.heap.size w w' := by
  have hG := fun w' => Giv.implNewGiver a w'
  have hT := fun w' => Tak.implNewTaker b w'
  unfold Giv.newG at hG
  unfold newH
  cases ha : Tak.capB a <;> cases hb : Tak.capB b <;> rw [ha] at hG <;> rw [hb] at hT <;> simp only [Bool.false_eq_true, if_false, if_true, Bool.and_true, Bool.and_false, Bool.true_and, Bool.false_and, Giv.Gv.v, Tak.newT, Tak.zeroT, Giv.zeroG] at hG hT ⊢ <;> clear ha hb
  · have z0 : Var 85 (w.alloc (.cells #[.int .i64 0, .string ⟨#[]⟩, .int .i64 0, .int .i64 0, .bool false, .bool false, .int .i64 0, .string ⟨#[]⟩, .slice none 0 0, .int .i64 0, .int .i64 0, .bool false, .slice none 0 0] 85)) w.heap.size [.int .i64 0, .string ⟨#[]⟩, .int .i64 0, .int .i64 0, .bool false, .bool false, .int .i64 0, .string ⟨#[]⟩, .slice none 0 0, .int .i64 0, .int .i64 0, .bool false, .slice none 0 0] := Var.new w _
    have b0 : Below w.heap.size w (w.alloc (.cells #[.int .i64 0, .string ⟨#[]⟩, .int .i64 0, .int .i64 0, .bool false, .bool false, .int .i64 0, .string ⟨#[]⟩, .slice none 0 0, .int .i64 0, .int .i64 0, .bool false, .slice none 0 0] 85)) := (Below.refl _ _).alloc (Nat.le_refl _) _
    go_enter Try.func61, Try.ntmps61
    go_upto_region 1 with (fail)
    generalize w.alloc (.cells #[.int .i64 0, .string ⟨#[]⟩, .int .i64 0, .int .i64 0, .bool false, .bool false, .int .i64 0, .string ⟨#[]⟩, .slice none 0 0, .int .i64 0, .int .i64 0, .bool false, .slice none 0 0] 85) = W0 at *
    go_wp2_with fail
    refine (hG _).mono ?_
    rintro x w1 ⟨rfl, b1⟩
    have z1 := (z0.later b1).alloc (.cells #[.int .i64 0, .string ⟨#[]⟩, .int .i64 0, .int .i64 0, .bool false, .bool false] 79)
    have B0 := b0.trans (b1.mono b0.size)
    have B1 : Below w.heap.size w (w1.alloc (.cells #[.int .i64 0, .string ⟨#[]⟩, .int .i64 0, .int .i64 0, .bool false, .bool false] 79)) := B0.alloc B0.size _
    have g1 : Var 79 (w1.alloc (.cells #[.int .i64 0, .string ⟨#[]⟩, .int .i64 0, .int .i64 0, .bool false, .bool false] 79)) w1.heap.size [.int .i64 0, .string ⟨#[]⟩, .int .i64 0, .int .i64 0, .bool false, .bool false] := Var.new w1 _
    go_upto_region 2 with (fail)
    generalize w1.alloc (.cells #[.int .i64 0, .string ⟨#[]⟩, .int .i64 0, .int .i64 0, .bool false, .bool false] 79) = W1 at *
    generalize w1.heap.size = k1 at *
    go_wp2_with fail
    refine (hT _).mono ?_
    rintro x w2 ⟨rfl, b2⟩
    have z2 := (z1.later b2).alloc (.cells #[.int .i64 0, .string ⟨#[]⟩, .slice none 0 0, .int .i64 0, .int .i64 0, .bool false] 82)
    have g2 := (g1.later b2).alloc (.cells #[.int .i64 0, .string ⟨#[]⟩, .slice none 0 0, .int .i64 0, .int .i64 0, .bool false] 82)
    have B2 := B1.trans (b2.mono B1.size)
    have B3 : Below w.heap.size w (w2.alloc (.cells #[.int .i64 0, .string ⟨#[]⟩, .slice none 0 0, .int .i64 0, .int .i64 0, .bool false] 82)) := B2.alloc B2.size _
    have t2 : Var 82 (w2.alloc (.cells #[.int .i64 0, .string ⟨#[]⟩, .slice none 0 0, .int .i64 0, .int .i64 0, .bool false] 82)) w2.heap.size [.int .i64 0, .string ⟨#[]⟩, .slice none 0 0, .int .i64 0, .int .i64 0, .bool false] := Var.new w2 _
    go_upto_region 3 with (fail)
    generalize w2.alloc (.cells #[.int .i64 0, .string ⟨#[]⟩, .slice none 0 0, .int .i64 0, .int .i64 0, .bool false] 82) = W2 at *
    generalize w2.heap.size = k2 at *
    clear b0 b1 b2 z0 z1 g1 B0 B1 B2 hG hT
    have e0 := g2.cell (i := 0) rfl
    have e1 := g2.cell (i := 1) rfl
    have e2 := g2.cell (i := 2) rfl
    have e3 := g2.cell (i := 3) rfl
    have e4 := g2.cell (i := 4) rfl
    have e5 := g2.cell (i := 5) rfl
    have f0 := t2.cell (i := 0) rfl
    have f1 := t2.cell (i := 1) rfl
    have f2 := t2.cell (i := 2) rfl
    have f3 := t2.cell (i := 3) rfl
    have f4 := t2.cell (i := 4) rfl
    have f5 := t2.cell (i := 5) rfl
    have q0 := z2.cell (i := 0) rfl
    have q1 := z2.cell (i := 1) rfl
    have q2 := z2.cell (i := 2) rfl
    have q3 := z2.cell (i := 3) rfl
    have q4 := z2.cell (i := 4) rfl
    have q5 := z2.cell (i := 5) rfl
    have q6 := z2.cell (i := 6) rfl
    have q7 := z2.cell (i := 7) rfl
    have q8 := z2.cell (i := 8) rfl
    have q9 := z2.cell (i := 9) rfl
    have q10 := z2.cell (i := 10) rfl
    have q11 := z2.cell (i := 11) rfl
    have q12 := z2.cell (i := 12) rfl
    have y0 := z2.free 0
    have y1 := z2.free 1
    have y2 := z2.free 2
    have y3 := z2.free 3
    have y4 := z2.free 4
    have y5 := z2.free 5
    have y6 := z2.free 6
    have y7 := z2.free 7
    have y8 := z2.free 8
    have y9 := z2.free 9
    have y10 := z2.free 10
    have y11 := z2.free 11
    have y12 := z2.free 12
    go_wp2_with fail
    have zf : Var 85 ((((((((((((((W2.setCell ⟨w.heap.size, 0, none⟩ (.int .i64 0)).setCell ⟨w.heap.size, 1, none⟩ (.string ⟨#[]⟩)).setCell ⟨w.heap.size, 2, none⟩ (.int .i64 0)).setCell ⟨w.heap.size, 3, none⟩ (.int .i64 0)).setCell ⟨w.heap.size, 4, none⟩ (.bool false)).setCell ⟨w.heap.size, 5, none⟩ (.bool false)).setCell ⟨w.heap.size, 6, none⟩ (.int .i64 0)).setCell ⟨w.heap.size, 7, none⟩ (.string ⟨#[]⟩)).setCell ⟨w.heap.size, 8, none⟩ (.slice none 0 0)).setCell ⟨w.heap.size, 9, none⟩ (.int .i64 0)).setCell ⟨w.heap.size, 10, none⟩ (.int .i64 0)).setCell ⟨w.heap.size, 11, none⟩ (.bool false)).setCell ⟨w.heap.size, 12, none⟩ (.slice none 0 0))) w.heap.size [.int .i64 0, .string ⟨#[]⟩, .int .i64 0, .int .i64 0, .bool false, .bool false, .int .i64 0, .string ⟨#[]⟩, .slice none 0 0, .int .i64 0, .int .i64 0, .bool false, .slice none 0 0] := (((((((((((((z2.set 0 _).set 1 _).set 2 _).set 3 _).set 4 _).set 5 _).set 6 _).set 7 _).set 8 _).set 9 _).set 10 _).set 11 _).set 12 _)
    have Bf : Below w.heap.size w ((((((((((((((W2.setCell ⟨w.heap.size, 0, none⟩ (.int .i64 0)).setCell ⟨w.heap.size, 1, none⟩ (.string ⟨#[]⟩)).setCell ⟨w.heap.size, 2, none⟩ (.int .i64 0)).setCell ⟨w.heap.size, 3, none⟩ (.int .i64 0)).setCell ⟨w.heap.size, 4, none⟩ (.bool false)).setCell ⟨w.heap.size, 5, none⟩ (.bool false)).setCell ⟨w.heap.size, 6, none⟩ (.int .i64 0)).setCell ⟨w.heap.size, 7, none⟩ (.string ⟨#[]⟩)).setCell ⟨w.heap.size, 8, none⟩ (.slice none 0 0)).setCell ⟨w.heap.size, 9, none⟩ (.int .i64 0)).setCell ⟨w.heap.size, 10, none⟩ (.int .i64 0)).setCell ⟨w.heap.size, 11, none⟩ (.bool false)).setCell ⟨w.heap.size, 12, none⟩ (.slice none 0 0))) := by
      iterate 13 (refine Below.setCell ?_ (by dsimp only; omega) _)
      exact B3
    generalize (((((((((((((W2.setCell ⟨w.heap.size, 0, none⟩ (.int .i64 0)).setCell ⟨w.heap.size, 1, none⟩ (.string ⟨#[]⟩)).setCell ⟨w.heap.size, 2, none⟩ (.int .i64 0)).setCell ⟨w.heap.size, 3, none⟩ (.int .i64 0)).setCell ⟨w.heap.size, 4, none⟩ (.bool false)).setCell ⟨w.heap.size, 5, none⟩ (.bool false)).setCell ⟨w.heap.size, 6, none⟩ (.int .i64 0)).setCell ⟨w.heap.size, 7, none⟩ (.string ⟨#[]⟩)).setCell ⟨w.heap.size, 8, none⟩ (.slice none 0 0)).setCell ⟨w.heap.size, 9, none⟩ (.int .i64 0)).setCell ⟨w.heap.size, 10, none⟩ (.int .i64 0)).setCell ⟨w.heap.size, 11, none⟩ (.bool false)).setCell ⟨w.heap.size, 12, none⟩ (.slice none 0 0)) = W3 at zf Bf ⊢
    have s0 := zf.cell (i := 0) rfl
    have s1 := zf.cell (i := 1) rfl
    have s2 := zf.cell (i := 2) rfl
    have s3 := zf.cell (i := 3) rfl
    have s4 := zf.cell (i := 4) rfl
    have s5 := zf.cell (i := 5) rfl
    have s6 := zf.cell (i := 6) rfl
    have s7 := zf.cell (i := 7) rfl
    have s8 := zf.cell (i := 8) rfl
    have s9 := zf.cell (i := 9) rfl
    have s10 := zf.cell (i := 10) rfl
    have s11 := zf.cell (i := 11) rfl
    have s12 := zf.cell (i := 12) rfl
    refine bodyPost_ret (v := .tuple #[hopV 0 0 0, .bool false]) (by rw [Tak.res_cell_tmp rfl]; clear B3 z2 g2 t2 q0 y0 q1 y1 q2 y2 q3 y3 q4 y4 q5 y5 q6 y6 q7 y7 q8 y8 q9 y9 q10 y10 q11 y11 q12 y12 e0 f0 e1 f1 e2 f2 e3 f3 e4 f4 e5 f5; go_simp; done) rfl ⟨rfl, Bf⟩
  · have z0 : Var 85 (w.alloc (.cells #[.int .i64 0, .string ⟨#[]⟩, .int .i64 0, .int .i64 0, .bool false, .bool false, .int .i64 0, .string ⟨#[]⟩, .slice none 0 0, .int .i64 0, .int .i64 0, .bool false, .slice none 0 0] 85)) w.heap.size [.int .i64 0, .string ⟨#[]⟩, .int .i64 0, .int .i64 0, .bool false, .bool false, .int .i64 0, .string ⟨#[]⟩, .slice none 0 0, .int .i64 0, .int .i64 0, .bool false, .slice none 0 0] := Var.new w _
    have b0 : Below w.heap.size w (w.alloc (.cells #[.int .i64 0, .string ⟨#[]⟩, .int .i64 0, .int .i64 0, .bool false, .bool false, .int .i64 0, .string ⟨#[]⟩, .slice none 0 0, .int .i64 0, .int .i64 0, .bool false, .slice none 0 0] 85)) := (Below.refl _ _).alloc (Nat.le_refl _) _
    go_enter Try.func61, Try.ntmps61
    go_upto_region 1 with (fail)
    generalize w.alloc (.cells #[.int .i64 0, .string ⟨#[]⟩, .int .i64 0, .int .i64 0, .bool false, .bool false, .int .i64 0, .string ⟨#[]⟩, .slice none 0 0, .int .i64 0, .int .i64 0, .bool false, .slice none 0 0] 85) = W0 at *
    go_wp2_with fail
    refine (hG _).mono ?_
    rintro x w1 ⟨rfl, b1⟩
    have z1 := (z0.later b1).alloc (.cells #[.int .i64 0, .string ⟨#[]⟩, .int .i64 0, .int .i64 0, .bool false, .bool false] 79)
    have B0 := b0.trans (b1.mono b0.size)
    have B1 : Below w.heap.size w (w1.alloc (.cells #[.int .i64 0, .string ⟨#[]⟩, .int .i64 0, .int .i64 0, .bool false, .bool false] 79)) := B0.alloc B0.size _
    have g1 : Var 79 (w1.alloc (.cells #[.int .i64 0, .string ⟨#[]⟩, .int .i64 0, .int .i64 0, .bool false, .bool false] 79)) w1.heap.size [.int .i64 0, .string ⟨#[]⟩, .int .i64 0, .int .i64 0, .bool false, .bool false] := Var.new w1 _
    go_upto_region 2 with (fail)
    generalize w1.alloc (.cells #[.int .i64 0, .string ⟨#[]⟩, .int .i64 0, .int .i64 0, .bool false, .bool false] 79) = W1 at *
    generalize w1.heap.size = k1 at *
    go_wp2_with fail
    refine (hT _).mono ?_
    rintro x w2 ⟨rfl, b2⟩
    have z2 := (z1.later b2).alloc (.cells #[.int .i64 0, .string ⟨#[]⟩, .slice none 0 0, .int .i64 b, .int .i64 (-1), .bool false] 82)
    have g2 := (g1.later b2).alloc (.cells #[.int .i64 0, .string ⟨#[]⟩, .slice none 0 0, .int .i64 b, .int .i64 (-1), .bool false] 82)
    have B2 := B1.trans (b2.mono B1.size)
    have B3 : Below w.heap.size w (w2.alloc (.cells #[.int .i64 0, .string ⟨#[]⟩, .slice none 0 0, .int .i64 b, .int .i64 (-1), .bool false] 82)) := B2.alloc B2.size _
    have t2 : Var 82 (w2.alloc (.cells #[.int .i64 0, .string ⟨#[]⟩, .slice none 0 0, .int .i64 b, .int .i64 (-1), .bool false] 82)) w2.heap.size [.int .i64 0, .string ⟨#[]⟩, .slice none 0 0, .int .i64 b, .int .i64 (-1), .bool false] := Var.new w2 _
    go_upto_region 3 with (fail)
    generalize w2.alloc (.cells #[.int .i64 0, .string ⟨#[]⟩, .slice none 0 0, .int .i64 b, .int .i64 (-1), .bool false] 82) = W2 at *
    generalize w2.heap.size = k2 at *
    clear b0 b1 b2 z0 z1 g1 B0 B1 B2 hG hT
    have e0 := g2.cell (i := 0) rfl
    have e1 := g2.cell (i := 1) rfl
    have e2 := g2.cell (i := 2) rfl
    have e3 := g2.cell (i := 3) rfl
    have e4 := g2.cell (i := 4) rfl
    have e5 := g2.cell (i := 5) rfl
    have f0 := t2.cell (i := 0) rfl
    have f1 := t2.cell (i := 1) rfl
    have f2 := t2.cell (i := 2) rfl
    have f3 := t2.cell (i := 3) rfl
    have f4 := t2.cell (i := 4) rfl
    have f5 := t2.cell (i := 5) rfl
    have q0 := z2.cell (i := 0) rfl
    have q1 := z2.cell (i := 1) rfl
    have q2 := z2.cell (i := 2) rfl
    have q3 := z2.cell (i := 3) rfl
    have q4 := z2.cell (i := 4) rfl
    have q5 := z2.cell (i := 5) rfl
    have q6 := z2.cell (i := 6) rfl
    have q7 := z2.cell (i := 7) rfl
    have q8 := z2.cell (i := 8) rfl
    have q9 := z2.cell (i := 9) rfl
    have q10 := z2.cell (i := 10) rfl
    have q11 := z2.cell (i := 11) rfl
    have q12 := z2.cell (i := 12) rfl
    have y0 := z2.free 0
    have y1 := z2.free 1
    have y2 := z2.free 2
    have y3 := z2.free 3
    have y4 := z2.free 4
    have y5 := z2.free 5
    have y6 := z2.free 6
    have y7 := z2.free 7
    have y8 := z2.free 8
    have y9 := z2.free 9
    have y10 := z2.free 10
    have y11 := z2.free 11
    have y12 := z2.free 12
    go_wp2_with fail
    have zf : Var 85 ((((((((((((((W2.setCell ⟨w.heap.size, 0, none⟩ (.int .i64 0)).setCell ⟨w.heap.size, 1, none⟩ (.string ⟨#[]⟩)).setCell ⟨w.heap.size, 2, none⟩ (.int .i64 0)).setCell ⟨w.heap.size, 3, none⟩ (.int .i64 0)).setCell ⟨w.heap.size, 4, none⟩ (.bool false)).setCell ⟨w.heap.size, 5, none⟩ (.bool false)).setCell ⟨w.heap.size, 6, none⟩ (.int .i64 0)).setCell ⟨w.heap.size, 7, none⟩ (.string ⟨#[]⟩)).setCell ⟨w.heap.size, 8, none⟩ (.slice none 0 0)).setCell ⟨w.heap.size, 9, none⟩ (.int .i64 0)).setCell ⟨w.heap.size, 10, none⟩ (.int .i64 0)).setCell ⟨w.heap.size, 11, none⟩ (.bool false)).setCell ⟨w.heap.size, 12, none⟩ (.slice none 0 0))) w.heap.size [.int .i64 0, .string ⟨#[]⟩, .int .i64 0, .int .i64 0, .bool false, .bool false, .int .i64 0, .string ⟨#[]⟩, .slice none 0 0, .int .i64 0, .int .i64 0, .bool false, .slice none 0 0] := (((((((((((((z2.set 0 _).set 1 _).set 2 _).set 3 _).set 4 _).set 5 _).set 6 _).set 7 _).set 8 _).set 9 _).set 10 _).set 11 _).set 12 _)
    have Bf : Below w.heap.size w ((((((((((((((W2.setCell ⟨w.heap.size, 0, none⟩ (.int .i64 0)).setCell ⟨w.heap.size, 1, none⟩ (.string ⟨#[]⟩)).setCell ⟨w.heap.size, 2, none⟩ (.int .i64 0)).setCell ⟨w.heap.size, 3, none⟩ (.int .i64 0)).setCell ⟨w.heap.size, 4, none⟩ (.bool false)).setCell ⟨w.heap.size, 5, none⟩ (.bool false)).setCell ⟨w.heap.size, 6, none⟩ (.int .i64 0)).setCell ⟨w.heap.size, 7, none⟩ (.string ⟨#[]⟩)).setCell ⟨w.heap.size, 8, none⟩ (.slice none 0 0)).setCell ⟨w.heap.size, 9, none⟩ (.int .i64 0)).setCell ⟨w.heap.size, 10, none⟩ (.int .i64 0)).setCell ⟨w.heap.size, 11, none⟩ (.bool false)).setCell ⟨w.heap.size, 12, none⟩ (.slice none 0 0))) := by
      iterate 13 (refine Below.setCell ?_ (by dsimp only; omega) _)
      exact B3
    generalize (((((((((((((W2.setCell ⟨w.heap.size, 0, none⟩ (.int .i64 0)).setCell ⟨w.heap.size, 1, none⟩ (.string ⟨#[]⟩)).setCell ⟨w.heap.size, 2, none⟩ (.int .i64 0)).setCell ⟨w.heap.size, 3, none⟩ (.int .i64 0)).setCell ⟨w.heap.size, 4, none⟩ (.bool false)).setCell ⟨w.heap.size, 5, none⟩ (.bool false)).setCell ⟨w.heap.size, 6, none⟩ (.int .i64 0)).setCell ⟨w.heap.size, 7, none⟩ (.string ⟨#[]⟩)).setCell ⟨w.heap.size, 8, none⟩ (.slice none 0 0)).setCell ⟨w.heap.size, 9, none⟩ (.int .i64 0)).setCell ⟨w.heap.size, 10, none⟩ (.int .i64 0)).setCell ⟨w.heap.size, 11, none⟩ (.bool false)).setCell ⟨w.heap.size, 12, none⟩ (.slice none 0 0)) = W3 at zf Bf ⊢
    have s0 := zf.cell (i := 0) rfl
    have s1 := zf.cell (i := 1) rfl
    have s2 := zf.cell (i := 2) rfl
    have s3 := zf.cell (i := 3) rfl
    have s4 := zf.cell (i := 4) rfl
    have s5 := zf.cell (i := 5) rfl
    have s6 := zf.cell (i := 6) rfl
    have s7 := zf.cell (i := 7) rfl
    have s8 := zf.cell (i := 8) rfl
    have s9 := zf.cell (i := 9) rfl
    have s10 := zf.cell (i := 10) rfl
    have s11 := zf.cell (i := 11) rfl
    have s12 := zf.cell (i := 12) rfl
    refine bodyPost_ret (v := .tuple #[hopV 0 0 0, .bool false]) (by rw [Tak.res_cell_tmp rfl]; clear B3 z2 g2 t2 q0 y0 q1 y1 q2 y2 q3 y3 q4 y4 q5 y5 q6 y6 q7 y7 q8 y8 q9 y9 q10 y10 q11 y11 q12 y12 e0 f0 e1 f1 e2 f2 e3 f3 e4 f4 e5 f5; go_simp; done) rfl ⟨rfl, Bf⟩
  · have z0 : Var 85 (w.alloc (.cells #[.int .i64 0, .string ⟨#[]⟩, .int .i64 0, .int .i64 0, .bool false, .bool false, .int .i64 0, .string ⟨#[]⟩, .slice none 0 0, .int .i64 0, .int .i64 0, .bool false, .slice none 0 0] 85)) w.heap.size [.int .i64 0, .string ⟨#[]⟩, .int .i64 0, .int .i64 0, .bool false, .bool false, .int .i64 0, .string ⟨#[]⟩, .slice none 0 0, .int .i64 0, .int .i64 0, .bool false, .slice none 0 0] := Var.new w _
    have b0 : Below w.heap.size w (w.alloc (.cells #[.int .i64 0, .string ⟨#[]⟩, .int .i64 0, .int .i64 0, .bool false, .bool false, .int .i64 0, .string ⟨#[]⟩, .slice none 0 0, .int .i64 0, .int .i64 0, .bool false, .slice none 0 0] 85)) := (Below.refl _ _).alloc (Nat.le_refl _) _
    go_enter Try.func61, Try.ntmps61
    go_upto_region 1 with (fail)
    generalize w.alloc (.cells #[.int .i64 0, .string ⟨#[]⟩, .int .i64 0, .int .i64 0, .bool false, .bool false, .int .i64 0, .string ⟨#[]⟩, .slice none 0 0, .int .i64 0, .int .i64 0, .bool false, .slice none 0 0] 85) = W0 at *
    go_wp2_with fail
    refine (hG _).mono ?_
    rintro x w1 ⟨rfl, b1⟩
    have z1 := (z0.later b1).alloc (.cells #[.int .i64 0, .string ⟨#[]⟩, .int .i64 a, .int .i64 0, .bool false, .bool false] 79)
    have B0 := b0.trans (b1.mono b0.size)
    have B1 : Below w.heap.size w (w1.alloc (.cells #[.int .i64 0, .string ⟨#[]⟩, .int .i64 a, .int .i64 0, .bool false, .bool false] 79)) := B0.alloc B0.size _
    have g1 : Var 79 (w1.alloc (.cells #[.int .i64 0, .string ⟨#[]⟩, .int .i64 a, .int .i64 0, .bool false, .bool false] 79)) w1.heap.size [.int .i64 0, .string ⟨#[]⟩, .int .i64 a, .int .i64 0, .bool false, .bool false] := Var.new w1 _
    go_upto_region 2 with (fail)
    generalize w1.alloc (.cells #[.int .i64 0, .string ⟨#[]⟩, .int .i64 a, .int .i64 0, .bool false, .bool false] 79) = W1 at *
    generalize w1.heap.size = k1 at *
    go_wp2_with fail
    refine (hT _).mono ?_
    rintro x w2 ⟨rfl, b2⟩
    have z2 := (z1.later b2).alloc (.cells #[.int .i64 0, .string ⟨#[]⟩, .slice none 0 0, .int .i64 0, .int .i64 0, .bool false] 82)
    have g2 := (g1.later b2).alloc (.cells #[.int .i64 0, .string ⟨#[]⟩, .slice none 0 0, .int .i64 0, .int .i64 0, .bool false] 82)
    have B2 := B1.trans (b2.mono B1.size)
    have B3 : Below w.heap.size w (w2.alloc (.cells #[.int .i64 0, .string ⟨#[]⟩, .slice none 0 0, .int .i64 0, .int .i64 0, .bool false] 82)) := B2.alloc B2.size _
    have t2 : Var 82 (w2.alloc (.cells #[.int .i64 0, .string ⟨#[]⟩, .slice none 0 0, .int .i64 0, .int .i64 0, .bool false] 82)) w2.heap.size [.int .i64 0, .string ⟨#[]⟩, .slice none 0 0, .int .i64 0, .int .i64 0, .bool false] := Var.new w2 _
    go_upto_region 3 with (fail)
    generalize w2.alloc (.cells #[.int .i64 0, .string ⟨#[]⟩, .slice none 0 0, .int .i64 0, .int .i64 0, .bool false] 82) = W2 at *
    generalize w2.heap.size = k2 at *
    clear b0 b1 b2 z0 z1 g1 B0 B1 B2 hG hT
    have e0 := g2.cell (i := 0) rfl
    have e1 := g2.cell (i := 1) rfl
    have e2 := g2.cell (i := 2) rfl
    have e3 := g2.cell (i := 3) rfl
    have e4 := g2.cell (i := 4) rfl
    have e5 := g2.cell (i := 5) rfl
    have f0 := t2.cell (i := 0) rfl
    have f1 := t2.cell (i := 1) rfl
    have f2 := t2.cell (i := 2) rfl
    have f3 := t2.cell (i := 3) rfl
    have f4 := t2.cell (i := 4) rfl
    have f5 := t2.cell (i := 5) rfl
    have q0 := z2.cell (i := 0) rfl
    have q1 := z2.cell (i := 1) rfl
    have q2 := z2.cell (i := 2) rfl
    have q3 := z2.cell (i := 3) rfl
    have q4 := z2.cell (i := 4) rfl
    have q5 := z2.cell (i := 5) rfl
    have q6 := z2.cell (i := 6) rfl
    have q7 := z2.cell (i := 7) rfl
    have q8 := z2.cell (i := 8) rfl
    have q9 := z2.cell (i := 9) rfl
    have q10 := z2.cell (i := 10) rfl
    have q11 := z2.cell (i := 11) rfl
    have q12 := z2.cell (i := 12) rfl
    have y0 := z2.free 0
    have y1 := z2.free 1
    have y2 := z2.free 2
    have y3 := z2.free 3
    have y4 := z2.free 4
    have y5 := z2.free 5
    have y6 := z2.free 6
    have y7 := z2.free 7
    have y8 := z2.free 8
    have y9 := z2.free 9
    have y10 := z2.free 10
    have y11 := z2.free 11
    have y12 := z2.free 12
    go_wp2_with fail
    have zf : Var 85 ((((((((((((((W2.setCell ⟨w.heap.size, 0, none⟩ (.int .i64 0)).setCell ⟨w.heap.size, 1, none⟩ (.string ⟨#[]⟩)).setCell ⟨w.heap.size, 2, none⟩ (.int .i64 0)).setCell ⟨w.heap.size, 3, none⟩ (.int .i64 0)).setCell ⟨w.heap.size, 4, none⟩ (.bool false)).setCell ⟨w.heap.size, 5, none⟩ (.bool false)).setCell ⟨w.heap.size, 6, none⟩ (.int .i64 0)).setCell ⟨w.heap.size, 7, none⟩ (.string ⟨#[]⟩)).setCell ⟨w.heap.size, 8, none⟩ (.slice none 0 0)).setCell ⟨w.heap.size, 9, none⟩ (.int .i64 0)).setCell ⟨w.heap.size, 10, none⟩ (.int .i64 0)).setCell ⟨w.heap.size, 11, none⟩ (.bool false)).setCell ⟨w.heap.size, 12, none⟩ (.slice none 0 0))) w.heap.size [.int .i64 0, .string ⟨#[]⟩, .int .i64 0, .int .i64 0, .bool false, .bool false, .int .i64 0, .string ⟨#[]⟩, .slice none 0 0, .int .i64 0, .int .i64 0, .bool false, .slice none 0 0] := (((((((((((((z2.set 0 _).set 1 _).set 2 _).set 3 _).set 4 _).set 5 _).set 6 _).set 7 _).set 8 _).set 9 _).set 10 _).set 11 _).set 12 _)
    have Bf : Below w.heap.size w ((((((((((((((W2.setCell ⟨w.heap.size, 0, none⟩ (.int .i64 0)).setCell ⟨w.heap.size, 1, none⟩ (.string ⟨#[]⟩)).setCell ⟨w.heap.size, 2, none⟩ (.int .i64 0)).setCell ⟨w.heap.size, 3, none⟩ (.int .i64 0)).setCell ⟨w.heap.size, 4, none⟩ (.bool false)).setCell ⟨w.heap.size, 5, none⟩ (.bool false)).setCell ⟨w.heap.size, 6, none⟩ (.int .i64 0)).setCell ⟨w.heap.size, 7, none⟩ (.string ⟨#[]⟩)).setCell ⟨w.heap.size, 8, none⟩ (.slice none 0 0)).setCell ⟨w.heap.size, 9, none⟩ (.int .i64 0)).setCell ⟨w.heap.size, 10, none⟩ (.int .i64 0)).setCell ⟨w.heap.size, 11, none⟩ (.bool false)).setCell ⟨w.heap.size, 12, none⟩ (.slice none 0 0))) := by
      iterate 13 (refine Below.setCell ?_ (by dsimp only; omega) _)
      exact B3
    generalize (((((((((((((W2.setCell ⟨w.heap.size, 0, none⟩ (.int .i64 0)).setCell ⟨w.heap.size, 1, none⟩ (.string ⟨#[]⟩)).setCell ⟨w.heap.size, 2, none⟩ (.int .i64 0)).setCell ⟨w.heap.size, 3, none⟩ (.int .i64 0)).setCell ⟨w.heap.size, 4, none⟩ (.bool false)).setCell ⟨w.heap.size, 5, none⟩ (.bool false)).setCell ⟨w.heap.size, 6, none⟩ (.int .i64 0)).setCell ⟨w.heap.size, 7, none⟩ (.string ⟨#[]⟩)).setCell ⟨w.heap.size, 8, none⟩ (.slice none 0 0)).setCell ⟨w.heap.size, 9, none⟩ (.int .i64 0)).setCell ⟨w.heap.size, 10, none⟩ (.int .i64 0)).setCell ⟨w.heap.size, 11, none⟩ (.bool false)).setCell ⟨w.heap.size, 12, none⟩ (.slice none 0 0)) = W3 at zf Bf ⊢
    have s0 := zf.cell (i := 0) rfl
    have s1 := zf.cell (i := 1) rfl
    have s2 := zf.cell (i := 2) rfl
    have s3 := zf.cell (i := 3) rfl
    have s4 := zf.cell (i := 4) rfl
    have s5 := zf.cell (i := 5) rfl
    have s6 := zf.cell (i := 6) rfl
    have s7 := zf.cell (i := 7) rfl
    have s8 := zf.cell (i := 8) rfl
    have s9 := zf.cell (i := 9) rfl
    have s10 := zf.cell (i := 10) rfl
    have s11 := zf.cell (i := 11) rfl
    have s12 := zf.cell (i := 12) rfl
    refine bodyPost_ret (v := .tuple #[hopV 0 0 0, .bool false]) (by rw [Tak.res_cell_tmp rfl]; clear B3 z2 g2 t2 q0 y0 q1 y1 q2 y2 q3 y3 q4 y4 q5 y5 q6 y6 q7 y7 q8 y8 q9 y9 q10 y10 q11 y11 q12 y12 e0 f0 e1 f1 e2 f2 e3 f3 e4 f4 e5 f5; go_simp; done) rfl ⟨rfl, Bf⟩
  · have z0 : Var 85 (w.alloc (.cells #[.int .i64 0, .string ⟨#[]⟩, .int .i64 0, .int .i64 0, .bool false, .bool false, .int .i64 0, .string ⟨#[]⟩, .slice none 0 0, .int .i64 0, .int .i64 0, .bool false, .slice none 0 0] 85)) w.heap.size [.int .i64 0, .string ⟨#[]⟩, .int .i64 0, .int .i64 0, .bool false, .bool false, .int .i64 0, .string ⟨#[]⟩, .slice none 0 0, .int .i64 0, .int .i64 0, .bool false, .slice none 0 0] := Var.new w _
    have b0 : Below w.heap.size w (w.alloc (.cells #[.int .i64 0, .string ⟨#[]⟩, .int .i64 0, .int .i64 0, .bool false, .bool false, .int .i64 0, .string ⟨#[]⟩, .slice none 0 0, .int .i64 0, .int .i64 0, .bool false, .slice none 0 0] 85)) := (Below.refl _ _).alloc (Nat.le_refl _) _
    go_enter Try.func61, Try.ntmps61
    go_upto_region 1 with (fail)
    generalize w.alloc (.cells #[.int .i64 0, .string ⟨#[]⟩, .int .i64 0, .int .i64 0, .bool false, .bool false, .int .i64 0, .string ⟨#[]⟩, .slice none 0 0, .int .i64 0, .int .i64 0, .bool false, .slice none 0 0] 85) = W0 at *
    go_wp2_with fail
    refine (hG _).mono ?_
    rintro x w1 ⟨rfl, b1⟩
    have z1 := (z0.later b1).alloc (.cells #[.int .i64 0, .string ⟨#[]⟩, .int .i64 a, .int .i64 0, .bool false, .bool false] 79)
    have B0 := b0.trans (b1.mono b0.size)
    have B1 : Below w.heap.size w (w1.alloc (.cells #[.int .i64 0, .string ⟨#[]⟩, .int .i64 a, .int .i64 0, .bool false, .bool false] 79)) := B0.alloc B0.size _
    have g1 : Var 79 (w1.alloc (.cells #[.int .i64 0, .string ⟨#[]⟩, .int .i64 a, .int .i64 0, .bool false, .bool false] 79)) w1.heap.size [.int .i64 0, .string ⟨#[]⟩, .int .i64 a, .int .i64 0, .bool false, .bool false] := Var.new w1 _
    go_upto_region 2 with (fail)
    generalize w1.alloc (.cells #[.int .i64 0, .string ⟨#[]⟩, .int .i64 a, .int .i64 0, .bool false, .bool false] 79) = W1 at *
    generalize w1.heap.size = k1 at *
    go_wp2_with fail
    refine (hT _).mono ?_
    rintro x w2 ⟨rfl, b2⟩
    have z2 := (z1.later b2).alloc (.cells #[.int .i64 0, .string ⟨#[]⟩, .slice none 0 0, .int .i64 b, .int .i64 (-1), .bool false] 82)
    have g2 := (g1.later b2).alloc (.cells #[.int .i64 0, .string ⟨#[]⟩, .slice none 0 0, .int .i64 b, .int .i64 (-1), .bool false] 82)
    have B2 := B1.trans (b2.mono B1.size)
    have B3 : Below w.heap.size w (w2.alloc (.cells #[.int .i64 0, .string ⟨#[]⟩, .slice none 0 0, .int .i64 b, .int .i64 (-1), .bool false] 82)) := B2.alloc B2.size _
    have t2 : Var 82 (w2.alloc (.cells #[.int .i64 0, .string ⟨#[]⟩, .slice none 0 0, .int .i64 b, .int .i64 (-1), .bool false] 82)) w2.heap.size [.int .i64 0, .string ⟨#[]⟩, .slice none 0 0, .int .i64 b, .int .i64 (-1), .bool false] := Var.new w2 _
    go_upto_region 3 with (fail)
    generalize w2.alloc (.cells #[.int .i64 0, .string ⟨#[]⟩, .slice none 0 0, .int .i64 b, .int .i64 (-1), .bool false] 82) = W2 at *
    generalize w2.heap.size = k2 at *
    clear b0 b1 b2 z0 z1 g1 B0 B1 B2 hG hT
    have e0 := g2.cell (i := 0) rfl
    have e1 := g2.cell (i := 1) rfl
    have e2 := g2.cell (i := 2) rfl
    have e3 := g2.cell (i := 3) rfl
    have e4 := g2.cell (i := 4) rfl
    have e5 := g2.cell (i := 5) rfl
    have f0 := t2.cell (i := 0) rfl
    have f1 := t2.cell (i := 1) rfl
    have f2 := t2.cell (i := 2) rfl
    have f3 := t2.cell (i := 3) rfl
    have f4 := t2.cell (i := 4) rfl
    have f5 := t2.cell (i := 5) rfl
    have q0 := z2.cell (i := 0) rfl
    have q1 := z2.cell (i := 1) rfl
    have q2 := z2.cell (i := 2) rfl
    have q3 := z2.cell (i := 3) rfl
    have q4 := z2.cell (i := 4) rfl
    have q5 := z2.cell (i := 5) rfl
    have q6 := z2.cell (i := 6) rfl
    have q7 := z2.cell (i := 7) rfl
    have q8 := z2.cell (i := 8) rfl
    have q9 := z2.cell (i := 9) rfl
    have q10 := z2.cell (i := 10) rfl
    have q11 := z2.cell (i := 11) rfl
    have q12 := z2.cell (i := 12) rfl
    have y0 := z2.free 0
    have y1 := z2.free 1
    have y2 := z2.free 2
    have y3 := z2.free 3
    have y4 := z2.free 4
    have y5 := z2.free 5
    have y6 := z2.free 6
    have y7 := z2.free 7
    have y8 := z2.free 8
    have y9 := z2.free 9
    have y10 := z2.free 10
    have y11 := z2.free 11
    have y12 := z2.free 12
    go_wp2_with fail
    have zf : Var 85 ((((((((((((((W2.setCell ⟨w.heap.size, 0, none⟩ (.int .i64 0)).setCell ⟨w.heap.size, 1, none⟩ (.string ⟨#[]⟩)).setCell ⟨w.heap.size, 2, none⟩ (.int .i64 a)).setCell ⟨w.heap.size, 3, none⟩ (.int .i64 0)).setCell ⟨w.heap.size, 4, none⟩ (.bool false)).setCell ⟨w.heap.size, 5, none⟩ (.bool false)).setCell ⟨w.heap.size, 6, none⟩ (.int .i64 0)).setCell ⟨w.heap.size, 7, none⟩ (.string ⟨#[]⟩)).setCell ⟨w.heap.size, 8, none⟩ (.slice none 0 0)).setCell ⟨w.heap.size, 9, none⟩ (.int .i64 b)).setCell ⟨w.heap.size, 10, none⟩ (.int .i64 (-1))).setCell ⟨w.heap.size, 11, none⟩ (.bool false)).setCell ⟨w.heap.size, 12, none⟩ (.slice none 0 0))) w.heap.size [.int .i64 0, .string ⟨#[]⟩, .int .i64 a, .int .i64 0, .bool false, .bool false, .int .i64 0, .string ⟨#[]⟩, .slice none 0 0, .int .i64 b, .int .i64 (-1), .bool false, .slice none 0 0] := (((((((((((((z2.set 0 _).set 1 _).set 2 _).set 3 _).set 4 _).set 5 _).set 6 _).set 7 _).set 8 _).set 9 _).set 10 _).set 11 _).set 12 _)
    have Bf : Below w.heap.size w ((((((((((((((W2.setCell ⟨w.heap.size, 0, none⟩ (.int .i64 0)).setCell ⟨w.heap.size, 1, none⟩ (.string ⟨#[]⟩)).setCell ⟨w.heap.size, 2, none⟩ (.int .i64 a)).setCell ⟨w.heap.size, 3, none⟩ (.int .i64 0)).setCell ⟨w.heap.size, 4, none⟩ (.bool false)).setCell ⟨w.heap.size, 5, none⟩ (.bool false)).setCell ⟨w.heap.size, 6, none⟩ (.int .i64 0)).setCell ⟨w.heap.size, 7, none⟩ (.string ⟨#[]⟩)).setCell ⟨w.heap.size, 8, none⟩ (.slice none 0 0)).setCell ⟨w.heap.size, 9, none⟩ (.int .i64 b)).setCell ⟨w.heap.size, 10, none⟩ (.int .i64 (-1))).setCell ⟨w.heap.size, 11, none⟩ (.bool false)).setCell ⟨w.heap.size, 12, none⟩ (.slice none 0 0))) := by
      iterate 13 (refine Below.setCell ?_ (by dsimp only; omega) _)
      exact B3
    generalize (((((((((((((W2.setCell ⟨w.heap.size, 0, none⟩ (.int .i64 0)).setCell ⟨w.heap.size, 1, none⟩ (.string ⟨#[]⟩)).setCell ⟨w.heap.size, 2, none⟩ (.int .i64 a)).setCell ⟨w.heap.size, 3, none⟩ (.int .i64 0)).setCell ⟨w.heap.size, 4, none⟩ (.bool false)).setCell ⟨w.heap.size, 5, none⟩ (.bool false)).setCell ⟨w.heap.size, 6, none⟩ (.int .i64 0)).setCell ⟨w.heap.size, 7, none⟩ (.string ⟨#[]⟩)).setCell ⟨w.heap.size, 8, none⟩ (.slice none 0 0)).setCell ⟨w.heap.size, 9, none⟩ (.int .i64 b)).setCell ⟨w.heap.size, 10, none⟩ (.int .i64 (-1))).setCell ⟨w.heap.size, 11, none⟩ (.bool false)).setCell ⟨w.heap.size, 12, none⟩ (.slice none 0 0)) = W3 at zf Bf ⊢
    have s0 := zf.cell (i := 0) rfl
    have s1 := zf.cell (i := 1) rfl
    have s2 := zf.cell (i := 2) rfl
    have s3 := zf.cell (i := 3) rfl
    have s4 := zf.cell (i := 4) rfl
    have s5 := zf.cell (i := 5) rfl
    have s6 := zf.cell (i := 6) rfl
    have s7 := zf.cell (i := 7) rfl
    have s8 := zf.cell (i := 8) rfl
    have s9 := zf.cell (i := 9) rfl
    have s10 := zf.cell (i := 10) rfl
    have s11 := zf.cell (i := 11) rfl
    have s12 := zf.cell (i := 12) rfl
    refine bodyPost_ret (v := .tuple #[hopV a b (-1), .bool true]) (by rw [Tak.res_cell_tmp rfl]; clear B3 z2 g2 t2 q0 y0 q1 y1 q2 y2 q3 y3 q4 y4 q5 y5 q6 y6 q7 y7 q8 y8 q9 y9 q10 y10 q11 y11 q12 y12 e0 f0 e1 f1 e2 f2 e3 f3 e4 f4 e5 f5; go_simp; done) rfl ⟨rfl, Bf⟩
theorem eqLetterS0 (w : World) : Calls Try.prog 104 #[.slice none 0 0, .slice none 0 0] w fun x w' => x = .returned (.bool true) ∧ w' = w := by
  go_enter Try.func104, Try.ntmps104
  go_wp2_with fail
  go_loopw [5] (fun i wr => i = .int .i64 0 ∧ wr = w) (fun _ _ => 0)
  case atStart => exact ⟨rfl, rfl⟩
  case round =>
    obtain ⟨rfl, rfl⟩ := hrel
    go_wp2_with fail
    go_ret
    exact ⟨rfl, rfl⟩
theorem markLetterS0 (k : Int) (w : World) : Calls Try.prog 85 #[.slice none 0 0, .int .i64 k] w fun x w' => x = .returned (.int .i64 k) ∧ w' = w := by
  go_enter Try.func85, Try.ntmps85
  go_wp2_with fail
  go_loopw [1, 5] (fun q i wr => q = .int .i64 k ∧ i = .int .i64 0 ∧ wr = w) (fun _ _ _ => 0)
  case atStart => exact ⟨rfl, rfl, rfl⟩
  case round =>
    obtain ⟨rfl, rfl, rfl⟩ := hrel
    go_wp2_with fail
    go_ret
    exact ⟨rfl, rfl⟩
theorem heldLetterS0 (k : Int) (w : World) : Calls Try.prog 87 #[.slice none 0 0, .int .i64 k] w fun x w' => x = .returned (.int .i64 k) ∧ w' = w := by
  go_enter Try.func87, Try.ntmps87
  go_wp2_with fail
  go_loopw [1, 5] (fun q i wr => q = .int .i64 k ∧ i = .int .i64 0 ∧ wr = w) (fun _ _ _ => 0)
  case atStart => exact ⟨rfl, rfl, rfl⟩
  case round =>
    obtain ⟨rfl, rfl, rfl⟩ := hrel
    go_wp2_with fail
    go_ret
    exact ⟨rfl, rfl⟩
theorem eqHop0 (cg ct fi : Int) (w : World) : Calls Try.prog 76 #[hopV cg ct fi, hopV cg ct fi] w fun x w' => x = .returned (.bool true) ∧ Below w.heap.size w w' := by
  have hG := fun w' => Giv.eqGiver ⟨0, ⟨#[]⟩, cg, 0, false, false⟩ w'
  dsimp only [Giv.Gv.v] at hG
  have v0 : Var 85 (w.alloc (.cells #[.int .i64 0, .string ⟨#[]⟩, .int .i64 cg, .int .i64 0, .bool false, .bool false, .int .i64 0, .string ⟨#[]⟩, .slice none 0 0, .int .i64 ct, .int .i64 fi, .bool false, .slice none 0 0] 85)) w.heap.size [.int .i64 0, .string ⟨#[]⟩, .int .i64 cg, .int .i64 0, .bool false, .bool false, .int .i64 0, .string ⟨#[]⟩, .slice none 0 0, .int .i64 ct, .int .i64 fi, .bool false, .slice none 0 0] := Var.new w _
  have v1 : Var 85 ((w.alloc (.cells #[.int .i64 0, .string ⟨#[]⟩, .int .i64 cg, .int .i64 0, .bool false, .bool false, .int .i64 0, .string ⟨#[]⟩, .slice none 0 0, .int .i64 ct, .int .i64 fi, .bool false, .slice none 0 0] 85)).alloc (.cells #[.int .i64 0, .string ⟨#[]⟩, .int .i64 cg, .int .i64 0, .bool false, .bool false, .int .i64 0, .string ⟨#[]⟩, .slice none 0 0, .int .i64 ct, .int .i64 fi, .bool false, .slice none 0 0] 85)) (w.heap.size + 1) [.int .i64 0, .string ⟨#[]⟩, .int .i64 cg, .int .i64 0, .bool false, .bool false, .int .i64 0, .string ⟨#[]⟩, .slice none 0 0, .int .i64 ct, .int .i64 fi, .bool false, .slice none 0 0] := by have h := Var.new (T := 85) (w.alloc (.cells #[.int .i64 0, .string ⟨#[]⟩, .int .i64 cg, .int .i64 0, .bool false, .bool false, .int .i64 0, .string ⟨#[]⟩, .slice none 0 0, .int .i64 ct, .int .i64 fi, .bool false, .slice none 0 0] 85)) [.int .i64 0, .string ⟨#[]⟩, .int .i64 cg, .int .i64 0, .bool false, .bool false, .int .i64 0, .string ⟨#[]⟩, .slice none 0 0, .int .i64 ct, .int .i64 fi, .bool false, .slice none 0 0]; simpa using h
  replace v0 := v0.alloc (.cells #[.int .i64 0, .string ⟨#[]⟩, .int .i64 cg, .int .i64 0, .bool false, .bool false, .int .i64 0, .string ⟨#[]⟩, .slice none 0 0, .int .i64 ct, .int .i64 fi, .bool false, .slice none 0 0] 85)
  have b0 : Below w.heap.size w ((w.alloc (.cells #[.int .i64 0, .string ⟨#[]⟩, .int .i64 cg, .int .i64 0, .bool false, .bool false, .int .i64 0, .string ⟨#[]⟩, .slice none 0 0, .int .i64 ct, .int .i64 fi, .bool false, .slice none 0 0] 85)).alloc (.cells #[.int .i64 0, .string ⟨#[]⟩, .int .i64 cg, .int .i64 0, .bool false, .bool false, .int .i64 0, .string ⟨#[]⟩, .slice none 0 0, .int .i64 ct, .int .i64 fi, .bool false, .slice none 0 0] 85)) := ((Below.refl _ _).alloc (Nat.le_refl _) _).alloc (by simp) _
  go_enter Try.func76, Try.ntmps76
  go_upto_region 1 with (fail)
  generalize (w.alloc (.cells #[.int .i64 0, .string ⟨#[]⟩, .int .i64 cg, .int .i64 0, .bool false, .bool false, .int .i64 0, .string ⟨#[]⟩, .slice none 0 0, .int .i64 ct, .int .i64 fi, .bool false, .slice none 0 0] 85)).alloc (.cells #[.int .i64 0, .string ⟨#[]⟩, .int .i64 cg, .int .i64 0, .bool false, .bool false, .int .i64 0, .string ⟨#[]⟩, .slice none 0 0, .int .i64 ct, .int .i64 fi, .bool false, .slice none 0 0] 85) = W at *
  have e0 := v0.cell (i := 0) rfl
  have e1 := v0.cell (i := 1) rfl
  have e2 := v0.cell (i := 2) rfl
  have e3 := v0.cell (i := 3) rfl
  have e4 := v0.cell (i := 4) rfl
  have e5 := v0.cell (i := 5) rfl
  have e6 := v0.cell (i := 6) rfl
  have e7 := v0.cell (i := 7) rfl
  have e8 := v0.cell (i := 8) rfl
  have e9 := v0.cell (i := 9) rfl
  have e10 := v0.cell (i := 10) rfl
  have e11 := v0.cell (i := 11) rfl
  have e12 := v0.cell (i := 12) rfl
  have f0 := v1.cell (i := 0) rfl
  have f1 := v1.cell (i := 1) rfl
  have f2 := v1.cell (i := 2) rfl
  have f3 := v1.cell (i := 3) rfl
  have f4 := v1.cell (i := 4) rfl
  have f5 := v1.cell (i := 5) rfl
  have f6 := v1.cell (i := 6) rfl
  have f7 := v1.cell (i := 7) rfl
  have f8 := v1.cell (i := 8) rfl
  have f9 := v1.cell (i := 9) rfl
  have f10 := v1.cell (i := 10) rfl
  have f11 := v1.cell (i := 11) rfl
  have f12 := v1.cell (i := 12) rfl
  go_wp2_with fail
  refine (hG _).mono ?_
  rintro x w1 ⟨rfl, b1⟩
  replace v0 := v0.later b1
  replace v1 := v1.later b1
  replace b0 := b0.trans (b1.mono b0.size)
  clear b1 hG e0 f0 e1 f1 e2 f2 e3 f3 e4 f4 e5 f5 e6 f6 e7 f7 e8 f8 e9 f9 e10 f10 e11 f11 e12 f12
  have e0 := v0.cell (i := 0) rfl
  have e1 := v0.cell (i := 1) rfl
  have e2 := v0.cell (i := 2) rfl
  have e3 := v0.cell (i := 3) rfl
  have e4 := v0.cell (i := 4) rfl
  have e5 := v0.cell (i := 5) rfl
  have e6 := v0.cell (i := 6) rfl
  have e7 := v0.cell (i := 7) rfl
  have e8 := v0.cell (i := 8) rfl
  have e9 := v0.cell (i := 9) rfl
  have e10 := v0.cell (i := 10) rfl
  have e11 := v0.cell (i := 11) rfl
  have e12 := v0.cell (i := 12) rfl
  have f0 := v1.cell (i := 0) rfl
  have f1 := v1.cell (i := 1) rfl
  have f2 := v1.cell (i := 2) rfl
  have f3 := v1.cell (i := 3) rfl
  have f4 := v1.cell (i := 4) rfl
  have f5 := v1.cell (i := 5) rfl
  have f6 := v1.cell (i := 6) rfl
  have f7 := v1.cell (i := 7) rfl
  have f8 := v1.cell (i := 8) rfl
  have f9 := v1.cell (i := 9) rfl
  have f10 := v1.cell (i := 10) rfl
  have f11 := v1.cell (i := 11) rfl
  have f12 := v1.cell (i := 12) rfl
  go_wp2_with fail
  refine (Tak.eqTaker0 _ _ _ _ _ _).mono ?_
  rintro x w2 ⟨rfl, b2⟩
  replace v0 := v0.later b2
  replace v1 := v1.later b2
  replace b0 := b0.trans (b2.mono b0.size)
  clear b2 e0 f0 e1 f1 e2 f2 e3 f3 e4 f4 e5 f5 e6 f6 e7 f7 e8 f8 e9 f9 e10 f10 e11 f11 e12 f12
  have e0 := v0.cell (i := 0) rfl
  have e1 := v0.cell (i := 1) rfl
  have e2 := v0.cell (i := 2) rfl
  have e3 := v0.cell (i := 3) rfl
  have e4 := v0.cell (i := 4) rfl
  have e5 := v0.cell (i := 5) rfl
  have e6 := v0.cell (i := 6) rfl
  have e7 := v0.cell (i := 7) rfl
  have e8 := v0.cell (i := 8) rfl
  have e9 := v0.cell (i := 9) rfl
  have e10 := v0.cell (i := 10) rfl
  have e11 := v0.cell (i := 11) rfl
  have e12 := v0.cell (i := 12) rfl
  have f0 := v1.cell (i := 0) rfl
  have f1 := v1.cell (i := 1) rfl
  have f2 := v1.cell (i := 2) rfl
  have f3 := v1.cell (i := 3) rfl
  have f4 := v1.cell (i := 4) rfl
  have f5 := v1.cell (i := 5) rfl
  have f6 := v1.cell (i := 6) rfl
  have f7 := v1.cell (i := 7) rfl
  have f8 := v1.cell (i := 8) rfl
  have f9 := v1.cell (i := 9) rfl
  have f10 := v1.cell (i := 10) rfl
  have f11 := v1.cell (i := 11) rfl
  have f12 := v1.cell (i := 12) rfl
  go_wp2_with fail
  refine (eqLetterS0 _).mono ?_
  rintro x w3 ⟨rfl, rfl⟩
  go_wp2_with fail
  go_ret
  exact ⟨rfl, b0⟩
end Go.Proofs.Ytldghgadkncehaa.Hop
