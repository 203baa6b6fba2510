/- Contracts of this seat's functions, and their mathematics (HopA). -/
import Derived.Test.YtanfnphdgcnojaaGreatR32
set_option linter.unusedVariables false
set_option linter.unusedSimpArgs false
set_option maxRecDepth 10000
set_option maxHeartbeats 4000000
namespace Go.Proofs.YtanfnphdgcnojaaGreat.Hop
open Go.RowKit RowG
abbrev hopV (cg ct fi : Int) : Value := .agg #[.int .i64 0, .string ⟨#[]⟩, .int .i64 cg, .int .i64 0, .bool false, .bool false, .int .i64 0, .string ⟨#[]⟩, .slice none 0 0, .int .i64 ct, .int .i64 fi, .bool false, .slice none 0 0]
abbrev hopC (cg ct fi : Int) : List Value := [.int .i64 0, .string ⟨#[]⟩, .int .i64 cg, .int .i64 0, .bool false, .bool false, .int .i64 0, .string ⟨#[]⟩, .slice none 0 0, .int .i64 ct, .int .i64 fi, .bool false, .slice none 0 0]
def newH (a b : Int) : Int × Int × Int × Bool := if Tak.capB a && Tak.capB b then (a, b, -1, true) else (0, 0, 0, false)
theorem specNewHop (a b : Int) (w : World) :
  Calls Tryz.prog 35 #[.int .i64 a, .int .i64 b] w fun x w' => x = .returned (.tuple #[hopV (newH a b).1 (newH a b).2.1 (newH a b).2.2.1, .bool (newH a b).2.2.2]) ∧ Below w.heap.size w w' := by
 have hG := fun w' => Giv.specNewGiver a w'
 have hT := fun w' => Tak.specNewTaker b w'
 unfold Giv.newG at hG
 unfold newH
 cases ha : Tak.capB a <;> cases hb : Tak.capB b <;> rw [ha] at hG <;> rw [hb] at hT <;> simp only [Bool.false_eq_true, if_false, if_true, Bool.and_true, Bool.and_false, Bool.true_and, Bool.false_and, Giv.Gv.v, Tak.newT, Tak.zeroT, Giv.zeroG] at hG hT ⊢ <;> clear ha hb
 ·have z0 : Var 49 (w.alloc (.cells #[.int .i64 0, .string ⟨#[]⟩, .int .i64 0, .int .i64 0, .bool false, .bool false, .int .i64 0, .string ⟨#[]⟩, .slice none 0 0, .int .i64 0, .int .i64 0, .bool false, .slice none 0 0] 49)) w.heap.size [.int .i64 0, .string ⟨#[]⟩, .int .i64 0, .int .i64 0, .bool false, .bool false, .int .i64 0, .string ⟨#[]⟩, .slice none 0 0, .int .i64 0, .int .i64 0, .bool false, .slice none 0 0] := Var.new w _
  have b0 : Below w.heap.size w (w.alloc (.cells #[.int .i64 0, .string ⟨#[]⟩, .int .i64 0, .int .i64 0, .bool false, .bool false, .int .i64 0, .string ⟨#[]⟩, .slice none 0 0, .int .i64 0, .int .i64 0, .bool false, .slice none 0 0] 49)) := (Below.refl _ _).alloc (Nat.le_refl _) _
  go_enter Tryz.func35, Tryz.ntmps35
  go_upto_region 1 with (fail)
  generalize w.alloc (.cells #[.int .i64 0, .string ⟨#[]⟩, .int .i64 0, .int .i64 0, .bool false, .bool false, .int .i64 0, .string ⟨#[]⟩, .slice none 0 0, .int .i64 0, .int .i64 0, .bool false, .slice none 0 0] 49) = W0 at *
  go_wp2_with fail
  refine (hG _).mono ?_
  rintro x w1 ⟨rfl, b1⟩
  have z1 := (z0.later b1).alloc (.cells #[.int .i64 0, .string ⟨#[]⟩, .int .i64 0, .int .i64 0, .bool false, .bool false] 46)
  have B0 := b0.trans (b1.mono b0.size)
  obtain ⟨W1, hW1⟩ : ∃ z, Hid (z = w1.alloc (.cells #[.int .i64 0, .string ⟨#[]⟩, .int .i64 0, .int .i64 0, .bool false, .bool false] 46)) := ⟨_, rfl⟩
  have B1 : Below w.heap.size w W1 := by rw [hW1.out]; exact B0.alloc B0.size _
  have g1 : Var 46 W1 w1.heap.size [.int .i64 0, .string ⟨#[]⟩, .int .i64 0, .int .i64 0, .bool false, .bool false] := by rw [hW1.out]; exact Var.new w1 _
  go_upto_region 2 with (fail)
  have hW1o := hW1.out
  clear hW1
  subst hW1o
  generalize w1.alloc (.cells #[.int .i64 0, .string ⟨#[]⟩, .int .i64 0, .int .i64 0, .bool false, .bool false] 46) = W1 at *
  generalize w1.heap.size = k1 at *
  go_wp2_with fail
  refine (hT _).mono ?_
  rintro x w2 ⟨rfl, b2⟩
  have z2 := (z1.later b2).alloc (.cells #[.int .i64 0, .string ⟨#[]⟩, .slice none 0 0, .int .i64 0, .int .i64 0, .bool false] 44)
  have g2 := (g1.later b2).alloc (.cells #[.int .i64 0, .string ⟨#[]⟩, .slice none 0 0, .int .i64 0, .int .i64 0, .bool false] 44)
  have B2 := B1.trans (b2.mono B1.size)
  obtain ⟨W2, hW2⟩ : ∃ z, Hid (z = w2.alloc (.cells #[.int .i64 0, .string ⟨#[]⟩, .slice none 0 0, .int .i64 0, .int .i64 0, .bool false] 44)) := ⟨_, rfl⟩
  have B3 : Below w.heap.size w W2 := by rw [hW2.out]; exact B2.alloc B2.size _
  have t2 : Var 44 W2 w2.heap.size [.int .i64 0, .string ⟨#[]⟩, .slice none 0 0, .int .i64 0, .int .i64 0, .bool false] := by rw [hW2.out]; exact Var.new w2 _
  go_upto_region 3 with (fail)
  have hW2o := hW2.out
  clear hW2
  subst hW2o
  generalize w2.alloc (.cells #[.int .i64 0, .string ⟨#[]⟩, .slice none 0 0, .int .i64 0, .int .i64 0, .bool false] 44) = W2 at *
  generalize w2.heap.size = k2 at *
  clear b0 b1 b2 z0 z1 g1 B0 B1 B2 hG hT
  obtain ⟨e0, e1, e2, e3, e4, e5⟩ := g2.c6
  obtain ⟨f0, f1, f2, f3, f4, f5⟩ := t2.c6
  obtain ⟨q0, q1, q2, q3, q4, q5, q6, q7, q8, q9, q10, q11, q12⟩ := z2.c13
  obtain ⟨y0, y1, y2, y3, y4, y5, y6, y7, y8, y9, y10, y11, y12⟩ := z2.f13
  go_wp2_with fail
  have zf : Var 49 ((((((((((((((W2.setCell ⟨w.heap.size, 0, none⟩ (.int .i64 0)).setCell ⟨w.heap.size, 1, none⟩ (.string ⟨#[]⟩)).setCell ⟨w.heap.size, 2, none⟩ (.int .i64 0)).setCell ⟨w.heap.size, 3, none⟩ (.int .i64 0)).setCell ⟨w.heap.size, 4, none⟩ (.bool false)).setCell ⟨w.heap.size, 5, none⟩ (.bool false)).setCell ⟨w.heap.size, 6, none⟩ (.int .i64 0)).setCell ⟨w.heap.size, 7, none⟩ (.string ⟨#[]⟩)).setCell ⟨w.heap.size, 8, none⟩ (.slice none 0 0)).setCell ⟨w.heap.size, 9, none⟩ (.int .i64 0)).setCell ⟨w.heap.size, 10, none⟩ (.int .i64 0)).setCell ⟨w.heap.size, 11, none⟩ (.bool false)).setCell ⟨w.heap.size, 12, none⟩ (.slice none 0 0))) w.heap.size [.int .i64 0, .string ⟨#[]⟩, .int .i64 0, .int .i64 0, .bool false, .bool false, .int .i64 0, .string ⟨#[]⟩, .slice none 0 0, .int .i64 0, .int .i64 0, .bool false, .slice none 0 0] := (((((((((((((z2.set 0 _).set 1 _).set 2 _).set 3 _).set 4 _).set 5 _).set 6 _).set 7 _).set 8 _).set 9 _).set 10 _).set 11 _).set 12 _)
  have Bf : Below w.heap.size w ((((((((((((((W2.setCell ⟨w.heap.size, 0, none⟩ (.int .i64 0)).setCell ⟨w.heap.size, 1, none⟩ (.string ⟨#[]⟩)).setCell ⟨w.heap.size, 2, none⟩ (.int .i64 0)).setCell ⟨w.heap.size, 3, none⟩ (.int .i64 0)).setCell ⟨w.heap.size, 4, none⟩ (.bool false)).setCell ⟨w.heap.size, 5, none⟩ (.bool false)).setCell ⟨w.heap.size, 6, none⟩ (.int .i64 0)).setCell ⟨w.heap.size, 7, none⟩ (.string ⟨#[]⟩)).setCell ⟨w.heap.size, 8, none⟩ (.slice none 0 0)).setCell ⟨w.heap.size, 9, none⟩ (.int .i64 0)).setCell ⟨w.heap.size, 10, none⟩ (.int .i64 0)).setCell ⟨w.heap.size, 11, none⟩ (.bool false)).setCell ⟨w.heap.size, 12, none⟩ (.slice none 0 0))) := by
   iterate 13 (refine Below.setCell ?_ (by dsimp only; omega) _)
   exact B3
  generalize (((((((((((((W2.setCell ⟨w.heap.size, 0, none⟩ (.int .i64 0)).setCell ⟨w.heap.size, 1, none⟩ (.string ⟨#[]⟩)).setCell ⟨w.heap.size, 2, none⟩ (.int .i64 0)).setCell ⟨w.heap.size, 3, none⟩ (.int .i64 0)).setCell ⟨w.heap.size, 4, none⟩ (.bool false)).setCell ⟨w.heap.size, 5, none⟩ (.bool false)).setCell ⟨w.heap.size, 6, none⟩ (.int .i64 0)).setCell ⟨w.heap.size, 7, none⟩ (.string ⟨#[]⟩)).setCell ⟨w.heap.size, 8, none⟩ (.slice none 0 0)).setCell ⟨w.heap.size, 9, none⟩ (.int .i64 0)).setCell ⟨w.heap.size, 10, none⟩ (.int .i64 0)).setCell ⟨w.heap.size, 11, none⟩ (.bool false)).setCell ⟨w.heap.size, 12, none⟩ (.slice none 0 0)) = W3 at zf Bf ⊢
  obtain ⟨s0, s1, s2, s3, s4, s5, s6, s7, s8, s9, s10, s11, s12⟩ := zf.c13
  refine bodyPost_ret (v := .tuple #[hopV 0 0 0, .bool false]) (by rw [Tak.res_cell_tmp rfl]; clear B3 z2 g2 t2 q0 y0 q1 y1 q2 y2 q3 y3 q4 y4 q5 y5 q6 y6 q7 y7 q8 y8 q9 y9 q10 y10 q11 y11 q12 y12 e0 f0 e1 f1 e2 f2 e3 f3 e4 f4 e5 f5; go_simp; done) rfl ⟨rfl, Bf⟩
 ·have z0 : Var 49 (w.alloc (.cells #[.int .i64 0, .string ⟨#[]⟩, .int .i64 0, .int .i64 0, .bool false, .bool false, .int .i64 0, .string ⟨#[]⟩, .slice none 0 0, .int .i64 0, .int .i64 0, .bool false, .slice none 0 0] 49)) w.heap.size [.int .i64 0, .string ⟨#[]⟩, .int .i64 0, .int .i64 0, .bool false, .bool false, .int .i64 0, .string ⟨#[]⟩, .slice none 0 0, .int .i64 0, .int .i64 0, .bool false, .slice none 0 0] := Var.new w _
  have b0 : Below w.heap.size w (w.alloc (.cells #[.int .i64 0, .string ⟨#[]⟩, .int .i64 0, .int .i64 0, .bool false, .bool false, .int .i64 0, .string ⟨#[]⟩, .slice none 0 0, .int .i64 0, .int .i64 0, .bool false, .slice none 0 0] 49)) := (Below.refl _ _).alloc (Nat.le_refl _) _
  go_enter Tryz.func35, Tryz.ntmps35
  go_upto_region 1 with (fail)
  generalize w.alloc (.cells #[.int .i64 0, .string ⟨#[]⟩, .int .i64 0, .int .i64 0, .bool false, .bool false, .int .i64 0, .string ⟨#[]⟩, .slice none 0 0, .int .i64 0, .int .i64 0, .bool false, .slice none 0 0] 49) = W0 at *
  go_wp2_with fail
  refine (hG _).mono ?_
  rintro x w1 ⟨rfl, b1⟩
  have z1 := (z0.later b1).alloc (.cells #[.int .i64 0, .string ⟨#[]⟩, .int .i64 0, .int .i64 0, .bool false, .bool false] 46)
  have B0 := b0.trans (b1.mono b0.size)
  obtain ⟨W1, hW1⟩ : ∃ z, Hid (z = w1.alloc (.cells #[.int .i64 0, .string ⟨#[]⟩, .int .i64 0, .int .i64 0, .bool false, .bool false] 46)) := ⟨_, rfl⟩
  have B1 : Below w.heap.size w W1 := by rw [hW1.out]; exact B0.alloc B0.size _
  have g1 : Var 46 W1 w1.heap.size [.int .i64 0, .string ⟨#[]⟩, .int .i64 0, .int .i64 0, .bool false, .bool false] := by rw [hW1.out]; exact Var.new w1 _
  go_upto_region 2 with (fail)
  have hW1o := hW1.out
  clear hW1
  subst hW1o
  generalize w1.alloc (.cells #[.int .i64 0, .string ⟨#[]⟩, .int .i64 0, .int .i64 0, .bool false, .bool false] 46) = W1 at *
  generalize w1.heap.size = k1 at *
  go_wp2_with fail
  refine (hT _).mono ?_
  rintro x w2 ⟨rfl, b2⟩
  have z2 := (z1.later b2).alloc (.cells #[.int .i64 0, .string ⟨#[]⟩, .slice none 0 0, .int .i64 b, .int .i64 (-1), .bool false] 44)
  have g2 := (g1.later b2).alloc (.cells #[.int .i64 0, .string ⟨#[]⟩, .slice none 0 0, .int .i64 b, .int .i64 (-1), .bool false] 44)
  have B2 := B1.trans (b2.mono B1.size)
  obtain ⟨W2, hW2⟩ : ∃ z, Hid (z = w2.alloc (.cells #[.int .i64 0, .string ⟨#[]⟩, .slice none 0 0, .int .i64 b, .int .i64 (-1), .bool false] 44)) := ⟨_, rfl⟩
  have B3 : Below w.heap.size w W2 := by rw [hW2.out]; exact B2.alloc B2.size _
  have t2 : Var 44 W2 w2.heap.size [.int .i64 0, .string ⟨#[]⟩, .slice none 0 0, .int .i64 b, .int .i64 (-1), .bool false] := by rw [hW2.out]; exact Var.new w2 _
  go_upto_region 3 with (fail)
  have hW2o := hW2.out
  clear hW2
  subst hW2o
  generalize w2.alloc (.cells #[.int .i64 0, .string ⟨#[]⟩, .slice none 0 0, .int .i64 b, .int .i64 (-1), .bool false] 44) = W2 at *
  generalize w2.heap.size = k2 at *
  clear b0 b1 b2 z0 z1 g1 B0 B1 B2 hG hT
  obtain ⟨e0, e1, e2, e3, e4, e5⟩ := g2.c6
  obtain ⟨f0, f1, f2, f3, f4, f5⟩ := t2.c6
  obtain ⟨q0, q1, q2, q3, q4, q5, q6, q7, q8, q9, q10, q11, q12⟩ := z2.c13
  obtain ⟨y0, y1, y2, y3, y4, y5, y6, y7, y8, y9, y10, y11, y12⟩ := z2.f13
  go_wp2_with fail
  have zf : Var 49 ((((((((((((((W2.setCell ⟨w.heap.size, 0, none⟩ (.int .i64 0)).setCell ⟨w.heap.size, 1, none⟩ (.string ⟨#[]⟩)).setCell ⟨w.heap.size, 2, none⟩ (.int .i64 0)).setCell ⟨w.heap.size, 3, none⟩ (.int .i64 0)).setCell ⟨w.heap.size, 4, none⟩ (.bool false)).setCell ⟨w.heap.size, 5, none⟩ (.bool false)).setCell ⟨w.heap.size, 6, none⟩ (.int .i64 0)).setCell ⟨w.heap.size, 7, none⟩ (.string ⟨#[]⟩)).setCell ⟨w.heap.size, 8, none⟩ (.slice none 0 0)).setCell ⟨w.heap.size, 9, none⟩ (.int .i64 0)).setCell ⟨w.heap.size, 10, none⟩ (.int .i64 0)).setCell ⟨w.heap.size, 11, none⟩ (.bool false)).setCell ⟨w.heap.size, 12, none⟩ (.slice none 0 0))) w.heap.size [.int .i64 0, .string ⟨#[]⟩, .int .i64 0, .int .i64 0, .bool false, .bool false, .int .i64 0, .string ⟨#[]⟩, .slice none 0 0, .int .i64 0, .int .i64 0, .bool false, .slice none 0 0] := (((((((((((((z2.set 0 _).set 1 _).set 2 _).set 3 _).set 4 _).set 5 _).set 6 _).set 7 _).set 8 _).set 9 _).set 10 _).set 11 _).set 12 _)
  have Bf : Below w.heap.size w ((((((((((((((W2.setCell ⟨w.heap.size, 0, none⟩ (.int .i64 0)).setCell ⟨w.heap.size, 1, none⟩ (.string ⟨#[]⟩)).setCell ⟨w.heap.size, 2, none⟩ (.int .i64 0)).setCell ⟨w.heap.size, 3, none⟩ (.int .i64 0)).setCell ⟨w.heap.size, 4, none⟩ (.bool false)).setCell ⟨w.heap.size, 5, none⟩ (.bool false)).setCell ⟨w.heap.size, 6, none⟩ (.int .i64 0)).setCell ⟨w.heap.size, 7, none⟩ (.string ⟨#[]⟩)).setCell ⟨w.heap.size, 8, none⟩ (.slice none 0 0)).setCell ⟨w.heap.size, 9, none⟩ (.int .i64 0)).setCell ⟨w.heap.size, 10, none⟩ (.int .i64 0)).setCell ⟨w.heap.size, 11, none⟩ (.bool false)).setCell ⟨w.heap.size, 12, none⟩ (.slice none 0 0))) := by
   iterate 13 (refine Below.setCell ?_ (by dsimp only; omega) _)
   exact B3
  generalize (((((((((((((W2.setCell ⟨w.heap.size, 0, none⟩ (.int .i64 0)).setCell ⟨w.heap.size, 1, none⟩ (.string ⟨#[]⟩)).setCell ⟨w.heap.size, 2, none⟩ (.int .i64 0)).setCell ⟨w.heap.size, 3, none⟩ (.int .i64 0)).setCell ⟨w.heap.size, 4, none⟩ (.bool false)).setCell ⟨w.heap.size, 5, none⟩ (.bool false)).setCell ⟨w.heap.size, 6, none⟩ (.int .i64 0)).setCell ⟨w.heap.size, 7, none⟩ (.string ⟨#[]⟩)).setCell ⟨w.heap.size, 8, none⟩ (.slice none 0 0)).setCell ⟨w.heap.size, 9, none⟩ (.int .i64 0)).setCell ⟨w.heap.size, 10, none⟩ (.int .i64 0)).setCell ⟨w.heap.size, 11, none⟩ (.bool false)).setCell ⟨w.heap.size, 12, none⟩ (.slice none 0 0)) = W3 at zf Bf ⊢
  obtain ⟨s0, s1, s2, s3, s4, s5, s6, s7, s8, s9, s10, s11, s12⟩ := zf.c13
  refine bodyPost_ret (v := .tuple #[hopV 0 0 0, .bool false]) (by rw [Tak.res_cell_tmp rfl]; clear B3 z2 g2 t2 q0 y0 q1 y1 q2 y2 q3 y3 q4 y4 q5 y5 q6 y6 q7 y7 q8 y8 q9 y9 q10 y10 q11 y11 q12 y12 e0 f0 e1 f1 e2 f2 e3 f3 e4 f4 e5 f5; go_simp; done) rfl ⟨rfl, Bf⟩
 ·have z0 : Var 49 (w.alloc (.cells #[.int .i64 0, .string ⟨#[]⟩, .int .i64 0, .int .i64 0, .bool false, .bool false, .int .i64 0, .string ⟨#[]⟩, .slice none 0 0, .int .i64 0, .int .i64 0, .bool false, .slice none 0 0] 49)) w.heap.size [.int .i64 0, .string ⟨#[]⟩, .int .i64 0, .int .i64 0, .bool false, .bool false, .int .i64 0, .string ⟨#[]⟩, .slice none 0 0, .int .i64 0, .int .i64 0, .bool false, .slice none 0 0] := Var.new w _
  have b0 : Below w.heap.size w (w.alloc (.cells #[.int .i64 0, .string ⟨#[]⟩, .int .i64 0, .int .i64 0, .bool false, .bool false, .int .i64 0, .string ⟨#[]⟩, .slice none 0 0, .int .i64 0, .int .i64 0, .bool false, .slice none 0 0] 49)) := (Below.refl _ _).alloc (Nat.le_refl _) _
  go_enter Tryz.func35, Tryz.ntmps35
  go_upto_region 1 with (fail)
  generalize w.alloc (.cells #[.int .i64 0, .string ⟨#[]⟩, .int .i64 0, .int .i64 0, .bool false, .bool false, .int .i64 0, .string ⟨#[]⟩, .slice none 0 0, .int .i64 0, .int .i64 0, .bool false, .slice none 0 0] 49) = W0 at *
  go_wp2_with fail
  refine (hG _).mono ?_
  rintro x w1 ⟨rfl, b1⟩
  have z1 := (z0.later b1).alloc (.cells #[.int .i64 0, .string ⟨#[]⟩, .int .i64 a, .int .i64 0, .bool false, .bool false] 46)
  have B0 := b0.trans (b1.mono b0.size)
  obtain ⟨W1, hW1⟩ : ∃ z, Hid (z = w1.alloc (.cells #[.int .i64 0, .string ⟨#[]⟩, .int .i64 a, .int .i64 0, .bool false, .bool false] 46)) := ⟨_, rfl⟩
  have B1 : Below w.heap.size w W1 := by rw [hW1.out]; exact B0.alloc B0.size _
  have g1 : Var 46 W1 w1.heap.size [.int .i64 0, .string ⟨#[]⟩, .int .i64 a, .int .i64 0, .bool false, .bool false] := by rw [hW1.out]; exact Var.new w1 _
  go_upto_region 2 with (fail)
  have hW1o := hW1.out
  clear hW1
  subst hW1o
  generalize w1.alloc (.cells #[.int .i64 0, .string ⟨#[]⟩, .int .i64 a, .int .i64 0, .bool false, .bool false] 46) = W1 at *
  generalize w1.heap.size = k1 at *
  go_wp2_with fail
  refine (hT _).mono ?_
  rintro x w2 ⟨rfl, b2⟩
  have z2 := (z1.later b2).alloc (.cells #[.int .i64 0, .string ⟨#[]⟩, .slice none 0 0, .int .i64 0, .int .i64 0, .bool false] 44)
  have g2 := (g1.later b2).alloc (.cells #[.int .i64 0, .string ⟨#[]⟩, .slice none 0 0, .int .i64 0, .int .i64 0, .bool false] 44)
  have B2 := B1.trans (b2.mono B1.size)
  obtain ⟨W2, hW2⟩ : ∃ z, Hid (z = w2.alloc (.cells #[.int .i64 0, .string ⟨#[]⟩, .slice none 0 0, .int .i64 0, .int .i64 0, .bool false] 44)) := ⟨_, rfl⟩
  have B3 : Below w.heap.size w W2 := by rw [hW2.out]; exact B2.alloc B2.size _
  have t2 : Var 44 W2 w2.heap.size [.int .i64 0, .string ⟨#[]⟩, .slice none 0 0, .int .i64 0, .int .i64 0, .bool false] := by rw [hW2.out]; exact Var.new w2 _
  go_upto_region 3 with (fail)
  have hW2o := hW2.out
  clear hW2
  subst hW2o
  generalize w2.alloc (.cells #[.int .i64 0, .string ⟨#[]⟩, .slice none 0 0, .int .i64 0, .int .i64 0, .bool false] 44) = W2 at *
  generalize w2.heap.size = k2 at *
  clear b0 b1 b2 z0 z1 g1 B0 B1 B2 hG hT
  obtain ⟨e0, e1, e2, e3, e4, e5⟩ := g2.c6
  obtain ⟨f0, f1, f2, f3, f4, f5⟩ := t2.c6
  obtain ⟨q0, q1, q2, q3, q4, q5, q6, q7, q8, q9, q10, q11, q12⟩ := z2.c13
  obtain ⟨y0, y1, y2, y3, y4, y5, y6, y7, y8, y9, y10, y11, y12⟩ := z2.f13
  go_wp2_with fail
  have zf : Var 49 ((((((((((((((W2.setCell ⟨w.heap.size, 0, none⟩ (.int .i64 0)).setCell ⟨w.heap.size, 1, none⟩ (.string ⟨#[]⟩)).setCell ⟨w.heap.size, 2, none⟩ (.int .i64 0)).setCell ⟨w.heap.size, 3, none⟩ (.int .i64 0)).setCell ⟨w.heap.size, 4, none⟩ (.bool false)).setCell ⟨w.heap.size, 5, none⟩ (.bool false)).setCell ⟨w.heap.size, 6, none⟩ (.int .i64 0)).setCell ⟨w.heap.size, 7, none⟩ (.string ⟨#[]⟩)).setCell ⟨w.heap.size, 8, none⟩ (.slice none 0 0)).setCell ⟨w.heap.size, 9, none⟩ (.int .i64 0)).setCell ⟨w.heap.size, 10, none⟩ (.int .i64 0)).setCell ⟨w.heap.size, 11, none⟩ (.bool false)).setCell ⟨w.heap.size, 12, none⟩ (.slice none 0 0))) w.heap.size [.int .i64 0, .string ⟨#[]⟩, .int .i64 0, .int .i64 0, .bool false, .bool false, .int .i64 0, .string ⟨#[]⟩, .slice none 0 0, .int .i64 0, .int .i64 0, .bool false, .slice none 0 0] := (((((((((((((z2.set 0 _).set 1 _).set 2 _).set 3 _).set 4 _).set 5 _).set 6 _).set 7 _).set 8 _).set 9 _).set 10 _).set 11 _).set 12 _)
  have Bf : Below w.heap.size w ((((((((((((((W2.setCell ⟨w.heap.size, 0, none⟩ (.int .i64 0)).setCell ⟨w.heap.size, 1, none⟩ (.string ⟨#[]⟩)).setCell ⟨w.heap.size, 2, none⟩ (.int .i64 0)).setCell ⟨w.heap.size, 3, none⟩ (.int .i64 0)).setCell ⟨w.heap.size, 4, none⟩ (.bool false)).setCell ⟨w.heap.size, 5, none⟩ (.bool false)).setCell ⟨w.heap.size, 6, none⟩ (.int .i64 0)).setCell ⟨w.heap.size, 7, none⟩ (.string ⟨#[]⟩)).setCell ⟨w.heap.size, 8, none⟩ (.slice none 0 0)).setCell ⟨w.heap.size, 9, none⟩ (.int .i64 0)).setCell ⟨w.heap.size, 10, none⟩ (.int .i64 0)).setCell ⟨w.heap.size, 11, none⟩ (.bool false)).setCell ⟨w.heap.size, 12, none⟩ (.slice none 0 0))) := by
   iterate 13 (refine Below.setCell ?_ (by dsimp only; omega) _)
   exact B3
  generalize (((((((((((((W2.setCell ⟨w.heap.size, 0, none⟩ (.int .i64 0)).setCell ⟨w.heap.size, 1, none⟩ (.string ⟨#[]⟩)).setCell ⟨w.heap.size, 2, none⟩ (.int .i64 0)).setCell ⟨w.heap.size, 3, none⟩ (.int .i64 0)).setCell ⟨w.heap.size, 4, none⟩ (.bool false)).setCell ⟨w.heap.size, 5, none⟩ (.bool false)).setCell ⟨w.heap.size, 6, none⟩ (.int .i64 0)).setCell ⟨w.heap.size, 7, none⟩ (.string ⟨#[]⟩)).setCell ⟨w.heap.size, 8, none⟩ (.slice none 0 0)).setCell ⟨w.heap.size, 9, none⟩ (.int .i64 0)).setCell ⟨w.heap.size, 10, none⟩ (.int .i64 0)).setCell ⟨w.heap.size, 11, none⟩ (.bool false)).setCell ⟨w.heap.size, 12, none⟩ (.slice none 0 0)) = W3 at zf Bf ⊢
  obtain ⟨s0, s1, s2, s3, s4, s5, s6, s7, s8, s9, s10, s11, s12⟩ := zf.c13
  refine bodyPost_ret (v := .tuple #[hopV 0 0 0, .bool false]) (by rw [Tak.res_cell_tmp rfl]; clear B3 z2 g2 t2 q0 y0 q1 y1 q2 y2 q3 y3 q4 y4 q5 y5 q6 y6 q7 y7 q8 y8 q9 y9 q10 y10 q11 y11 q12 y12 e0 f0 e1 f1 e2 f2 e3 f3 e4 f4 e5 f5; go_simp; done) rfl ⟨rfl, Bf⟩
 ·have z0 : Var 49 (w.alloc (.cells #[.int .i64 0, .string ⟨#[]⟩, .int .i64 0, .int .i64 0, .bool false, .bool false, .int .i64 0, .string ⟨#[]⟩, .slice none 0 0, .int .i64 0, .int .i64 0, .bool false, .slice none 0 0] 49)) w.heap.size [.int .i64 0, .string ⟨#[]⟩, .int .i64 0, .int .i64 0, .bool false, .bool false, .int .i64 0, .string ⟨#[]⟩, .slice none 0 0, .int .i64 0, .int .i64 0, .bool false, .slice none 0 0] := Var.new w _
  have b0 : Below w.heap.size w (w.alloc (.cells #[.int .i64 0, .string ⟨#[]⟩, .int .i64 0, .int .i64 0, .bool false, .bool false, .int .i64 0, .string ⟨#[]⟩, .slice none 0 0, .int .i64 0, .int .i64 0, .bool false, .slice none 0 0] 49)) := (Below.refl _ _).alloc (Nat.le_refl _) _
  go_enter Tryz.func35, Tryz.ntmps35
  go_upto_region 1 with (fail)
  generalize w.alloc (.cells #[.int .i64 0, .string ⟨#[]⟩, .int .i64 0, .int .i64 0, .bool false, .bool false, .int .i64 0, .string ⟨#[]⟩, .slice none 0 0, .int .i64 0, .int .i64 0, .bool false, .slice none 0 0] 49) = W0 at *
  go_wp2_with fail
  refine (hG _).mono ?_
  rintro x w1 ⟨rfl, b1⟩
  have z1 := (z0.later b1).alloc (.cells #[.int .i64 0, .string ⟨#[]⟩, .int .i64 a, .int .i64 0, .bool false, .bool false] 46)
  have B0 := b0.trans (b1.mono b0.size)
  obtain ⟨W1, hW1⟩ : ∃ z, Hid (z = w1.alloc (.cells #[.int .i64 0, .string ⟨#[]⟩, .int .i64 a, .int .i64 0, .bool false, .bool false] 46)) := ⟨_, rfl⟩
  have B1 : Below w.heap.size w W1 := by rw [hW1.out]; exact B0.alloc B0.size _
  have g1 : Var 46 W1 w1.heap.size [.int .i64 0, .string ⟨#[]⟩, .int .i64 a, .int .i64 0, .bool false, .bool false] := by rw [hW1.out]; exact Var.new w1 _
  go_upto_region 2 with (fail)
  have hW1o := hW1.out
  clear hW1
  subst hW1o
  generalize w1.alloc (.cells #[.int .i64 0, .string ⟨#[]⟩, .int .i64 a, .int .i64 0, .bool false, .bool false] 46) = W1 at *
  generalize w1.heap.size = k1 at *
  go_wp2_with fail
  refine (hT _).mono ?_
  rintro x w2 ⟨rfl, b2⟩
  have z2 := (z1.later b2).alloc (.cells #[.int .i64 0, .string ⟨#[]⟩, .slice none 0 0, .int .i64 b, .int .i64 (-1), .bool false] 44)
  have g2 := (g1.later b2).alloc (.cells #[.int .i64 0, .string ⟨#[]⟩, .slice none 0 0, .int .i64 b, .int .i64 (-1), .bool false] 44)
  have B2 := B1.trans (b2.mono B1.size)
  obtain ⟨W2, hW2⟩ : ∃ z, Hid (z = w2.alloc (.cells #[.int .i64 0, .string ⟨#[]⟩, .slice none 0 0, .int .i64 b, .int .i64 (-1), .bool false] 44)) := ⟨_, rfl⟩
  have B3 : Below w.heap.size w W2 := by rw [hW2.out]; exact B2.alloc B2.size _
  have t2 : Var 44 W2 w2.heap.size [.int .i64 0, .string ⟨#[]⟩, .slice none 0 0, .int .i64 b, .int .i64 (-1), .bool false] := by rw [hW2.out]; exact Var.new w2 _
  go_upto_region 3 with (fail)
  have hW2o := hW2.out
  clear hW2
  subst hW2o
  generalize w2.alloc (.cells #[.int .i64 0, .string ⟨#[]⟩, .slice none 0 0, .int .i64 b, .int .i64 (-1), .bool false] 44) = W2 at *
  generalize w2.heap.size = k2 at *
  clear b0 b1 b2 z0 z1 g1 B0 B1 B2 hG hT
  obtain ⟨e0, e1, e2, e3, e4, e5⟩ := g2.c6
  obtain ⟨f0, f1, f2, f3, f4, f5⟩ := t2.c6
  obtain ⟨q0, q1, q2, q3, q4, q5, q6, q7, q8, q9, q10, q11, q12⟩ := z2.c13
  obtain ⟨y0, y1, y2, y3, y4, y5, y6, y7, y8, y9, y10, y11, y12⟩ := z2.f13
  go_wp2_with fail
  have zf : Var 49 ((((((((((((((W2.setCell ⟨w.heap.size, 0, none⟩ (.int .i64 0)).setCell ⟨w.heap.size, 1, none⟩ (.string ⟨#[]⟩)).setCell ⟨w.heap.size, 2, none⟩ (.int .i64 a)).setCell ⟨w.heap.size, 3, none⟩ (.int .i64 0)).setCell ⟨w.heap.size, 4, none⟩ (.bool false)).setCell ⟨w.heap.size, 5, none⟩ (.bool false)).setCell ⟨w.heap.size, 6, none⟩ (.int .i64 0)).setCell ⟨w.heap.size, 7, none⟩ (.string ⟨#[]⟩)).setCell ⟨w.heap.size, 8, none⟩ (.slice none 0 0)).setCell ⟨w.heap.size, 9, none⟩ (.int .i64 b)).setCell ⟨w.heap.size, 10, none⟩ (.int .i64 (-1))).setCell ⟨w.heap.size, 11, none⟩ (.bool false)).setCell ⟨w.heap.size, 12, none⟩ (.slice none 0 0))) w.heap.size [.int .i64 0, .string ⟨#[]⟩, .int .i64 a, .int .i64 0, .bool false, .bool false, .int .i64 0, .string ⟨#[]⟩, .slice none 0 0, .int .i64 b, .int .i64 (-1), .bool false, .slice none 0 0] := (((((((((((((z2.set 0 _).set 1 _).set 2 _).set 3 _).set 4 _).set 5 _).set 6 _).set 7 _).set 8 _).set 9 _).set 10 _).set 11 _).set 12 _)
  have Bf : Below w.heap.size w ((((((((((((((W2.setCell ⟨w.heap.size, 0, none⟩ (.int .i64 0)).setCell ⟨w.heap.size, 1, none⟩ (.string ⟨#[]⟩)).setCell ⟨w.heap.size, 2, none⟩ (.int .i64 a)).setCell ⟨w.heap.size, 3, none⟩ (.int .i64 0)).setCell ⟨w.heap.size, 4, none⟩ (.bool false)).setCell ⟨w.heap.size, 5, none⟩ (.bool false)).setCell ⟨w.heap.size, 6, none⟩ (.int .i64 0)).setCell ⟨w.heap.size, 7, none⟩ (.string ⟨#[]⟩)).setCell ⟨w.heap.size, 8, none⟩ (.slice none 0 0)).setCell ⟨w.heap.size, 9, none⟩ (.int .i64 b)).setCell ⟨w.heap.size, 10, none⟩ (.int .i64 (-1))).setCell ⟨w.heap.size, 11, none⟩ (.bool false)).setCell ⟨w.heap.size, 12, none⟩ (.slice none 0 0))) := by
   iterate 13 (refine Below.setCell ?_ (by dsimp only; omega) _)
   exact B3
  generalize (((((((((((((W2.setCell ⟨w.heap.size, 0, none⟩ (.int .i64 0)).setCell ⟨w.heap.size, 1, none⟩ (.string ⟨#[]⟩)).setCell ⟨w.heap.size, 2, none⟩ (.int .i64 a)).setCell ⟨w.heap.size, 3, none⟩ (.int .i64 0)).setCell ⟨w.heap.size, 4, none⟩ (.bool false)).setCell ⟨w.heap.size, 5, none⟩ (.bool false)).setCell ⟨w.heap.size, 6, none⟩ (.int .i64 0)).setCell ⟨w.heap.size, 7, none⟩ (.string ⟨#[]⟩)).setCell ⟨w.heap.size, 8, none⟩ (.slice none 0 0)).setCell ⟨w.heap.size, 9, none⟩ (.int .i64 b)).setCell ⟨w.heap.size, 10, none⟩ (.int .i64 (-1))).setCell ⟨w.heap.size, 11, none⟩ (.bool false)).setCell ⟨w.heap.size, 12, none⟩ (.slice none 0 0)) = W3 at zf Bf ⊢
  obtain ⟨s0, s1, s2, s3, s4, s5, s6, s7, s8, s9, s10, s11, s12⟩ := zf.c13
  refine bodyPost_ret (v := .tuple #[hopV a b (-1), .bool true]) (by rw [Tak.res_cell_tmp rfl]; clear B3 z2 g2 t2 q0 y0 q1 y1 q2 y2 q3 y3 q4 y4 q5 y5 q6 y6 q7 y7 q8 y8 q9 y9 q10 y10 q11 y11 q12 y12 e0 f0 e1 f1 e2 f2 e3 f3 e4 f4 e5 f5; go_simp; done) rfl ⟨rfl, Bf⟩
end Go.Proofs.YtanfnphdgcnojaaGreat.Hop
