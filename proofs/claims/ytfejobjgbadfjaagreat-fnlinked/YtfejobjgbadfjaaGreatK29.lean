/- Contracts of this seat's functions, and their mathematics (HopA LinN). -/
import Derived.Test.YtfejobjgbadfjaaGreatK28
import Derived.Test.YtfejobjgbadfjaaGreatK14
import Derived.Test.YtfejobjgbadfjaaGreatK26
import Derived.Test.YtfejobjgbadfjaaGreatK8
import Derived.Test.YtfejobjgbadfjaaGreatK13
set_option linter.unusedVariables false
set_option linter.unusedSimpArgs false
set_option maxRecDepth 10000
set_option maxHeartbeats 4000000
namespace Go.Proofs.YtfejobjgbadfjaaGreat.Hop
open Go.RowKit RowG
abbrev hopV (cg ct fi:Int):Value:=.agg #[.int .i64 0,.string ⟨#[]⟩,.int .i64 cg,.int .i64 0,.bool false,.bool false,.int .i64 0,.string ⟨#[]⟩,.slice none 0 0,.int .i64 ct,.int .i64 fi,.bool false,.slice none 0 0]
abbrev hopC (cg ct fi:Int):List Value:=[.int .i64 0,.string ⟨#[]⟩,.int .i64 cg,.int .i64 0,.bool false,.bool false,.int .i64 0,.string ⟨#[]⟩,.slice none 0 0,.int .i64 ct,.int .i64 fi,.bool false,.slice none 0 0]
def newH (a b:Int):Int×Int×Int×Bool:=if Tak.capB a&&Tak.capB b then(a,b,-1,true)else(0,0,0,false)
theorem specNewHop (a b:Int)(w:World):
  Calls Tryz.prog 63 #[.int .i64 a,.int .i64 b] w fun x w'=>x=.returned (.tuple #[hopV (newH a b).1 (newH a b).2.1 (newH a b).2.2.1,.bool (newH a b).2.2.2])∧Below w.heap.size w w':=by
 have hG:=fun w'=>Giv.specNewGiver a w'
 have hT:=fun w'=>Tak.specNewTaker b w'
 unfold Giv.newG at hG
 unfold newH
 cases ha:Tak.capB a <;>cases hb:Tak.capB b <;>rw [ha]at hG <;>rw [hb]at hT <;>simp only [Bool.false_eq_true,if_false,if_true,Bool.and_true,Bool.and_false,Bool.true_and,Bool.false_and,Giv.Gv.v,Tak.newT,Tak.zeroT,Giv.zeroG]at hG hT ⊢ <;>clear ha hb
 ·have z0:Var 47 (w.alloc (.cells #[.int .i64 0,.string ⟨#[]⟩,.int .i64 0,.int .i64 0,.bool false,.bool false,.int .i64 0,.string ⟨#[]⟩,.slice none 0 0,.int .i64 0,.int .i64 0,.bool false,.slice none 0 0] 47)) w.heap.size [.int .i64 0,.string ⟨#[]⟩,.int .i64 0,.int .i64 0,.bool false,.bool false,.int .i64 0,.string ⟨#[]⟩,.slice none 0 0,.int .i64 0,.int .i64 0,.bool false,.slice none 0 0]:=Var.new w _
  have b0:Below w.heap.size w (w.alloc (.cells #[.int .i64 0,.string ⟨#[]⟩,.int .i64 0,.int .i64 0,.bool false,.bool false,.int .i64 0,.string ⟨#[]⟩,.slice none 0 0,.int .i64 0,.int .i64 0,.bool false,.slice none 0 0] 47)):=(Below.refl _ _).alloc (Nat.le_refl _) _
  go_enter Tryz.func63,Tryz.ntmps63
  go_upto_region 1 with(fail)
  generalize w.alloc (.cells #[.int .i64 0,.string ⟨#[]⟩,.int .i64 0,.int .i64 0,.bool false,.bool false,.int .i64 0,.string ⟨#[]⟩,.slice none 0 0,.int .i64 0,.int .i64 0,.bool false,.slice none 0 0] 47)=W0 at *
  go_wp2_with fail
  refine(hG _).mono ?_
  rintro x w1 ⟨rfl,b1⟩
  have z1:=(z0.later b1).alloc (.cells #[.int .i64 0,.string ⟨#[]⟩,.int .i64 0,.int .i64 0,.bool false,.bool false] 41)
  have B0:=b0.trans (b1.mono b0.size)
  obtain⟨W1,hW1⟩: ∃z,Hid (z=w1.alloc (.cells #[.int .i64 0,.string ⟨#[]⟩,.int .i64 0,.int .i64 0,.bool false,.bool false] 41)):=⟨_,rfl⟩
  have B1:Below w.heap.size w W1:=by rw [hW1.out];exact B0.alloc B0.size _
  have g1:Var 41 W1 w1.heap.size [.int .i64 0,.string ⟨#[]⟩,.int .i64 0,.int .i64 0,.bool false,.bool false]:=by rw [hW1.out];exact Var.new w1 _
  go_upto_region 2 with(fail)
  have hW1o:=hW1.out
  clear hW1
  subst hW1o
  generalize w1.alloc (.cells #[.int .i64 0,.string ⟨#[]⟩,.int .i64 0,.int .i64 0,.bool false,.bool false] 41)=W1 at *
  generalize w1.heap.size=k1 at *
  go_wp2_with fail
  refine(hT _).mono ?_
  rintro x w2 ⟨rfl,b2⟩
  have z2:=(z1.later b2).alloc (.cells #[.int .i64 0,.string ⟨#[]⟩,.slice none 0 0,.int .i64 0,.int .i64 0,.bool false] 44)
  have g2:=(g1.later b2).alloc (.cells #[.int .i64 0,.string ⟨#[]⟩,.slice none 0 0,.int .i64 0,.int .i64 0,.bool false] 44)
  have B2:=B1.trans (b2.mono B1.size)
  obtain⟨W2,hW2⟩: ∃z,Hid (z=w2.alloc (.cells #[.int .i64 0,.string ⟨#[]⟩,.slice none 0 0,.int .i64 0,.int .i64 0,.bool false] 44)):=⟨_,rfl⟩
  have B3:Below w.heap.size w W2:=by rw [hW2.out];exact B2.alloc B2.size _
  have t2:Var 44 W2 w2.heap.size [.int .i64 0,.string ⟨#[]⟩,.slice none 0 0,.int .i64 0,.int .i64 0,.bool false]:=by rw [hW2.out];exact Var.new w2 _
  go_upto_region 3 with(fail)
  have hW2o:=hW2.out
  clear hW2
  subst hW2o
  generalize w2.alloc (.cells #[.int .i64 0,.string ⟨#[]⟩,.slice none 0 0,.int .i64 0,.int .i64 0,.bool false] 44)=W2 at *
  generalize w2.heap.size=k2 at *
  clear b0 b1 b2 z0 z1 g1 B0 B1 B2 hG hT
  obtain⟨e0,e1,e2,e3,e4,e5⟩:=g2.c6
  obtain⟨f0,f1,f2,f3,f4,f5⟩:=t2.c6
  obtain⟨q0,q1,q2,q3,q4,q5,q6,q7,q8,q9,q10,q11,q12⟩:=z2.c13
  obtain⟨y0,y1,y2,y3,y4,y5,y6,y7,y8,y9,y10,y11,y12⟩:=z2.f13
  go_wp2_with fail
  have zf:Var 47 ((((((((((((((W2.setCell ⟨w.heap.size,0,none⟩ (.int .i64 0)).setCell ⟨w.heap.size,1,none⟩ (.string ⟨#[]⟩)).setCell ⟨w.heap.size,2,none⟩ (.int .i64 0)).setCell ⟨w.heap.size,3,none⟩ (.int .i64 0)).setCell ⟨w.heap.size,4,none⟩ (.bool false)).setCell ⟨w.heap.size,5,none⟩ (.bool false)).setCell ⟨w.heap.size,6,none⟩ (.int .i64 0)).setCell ⟨w.heap.size,7,none⟩ (.string ⟨#[]⟩)).setCell ⟨w.heap.size,8,none⟩ (.slice none 0 0)).setCell ⟨w.heap.size,9,none⟩ (.int .i64 0)).setCell ⟨w.heap.size,10,none⟩ (.int .i64 0)).setCell ⟨w.heap.size,11,none⟩ (.bool false)).setCell ⟨w.heap.size,12,none⟩ (.slice none 0 0))) w.heap.size [.int .i64 0,.string ⟨#[]⟩,.int .i64 0,.int .i64 0,.bool false,.bool false,.int .i64 0,.string ⟨#[]⟩,.slice none 0 0,.int .i64 0,.int .i64 0,.bool false,.slice none 0 0]:=(((((((((((((z2.set 0 _).set 1 _).set 2 _).set 3 _).set 4 _).set 5 _).set 6 _).set 7 _).set 8 _).set 9 _).set 10 _).set 11 _).set 12 _)
  have Bf:Below w.heap.size w ((((((((((((((W2.setCell ⟨w.heap.size,0,none⟩ (.int .i64 0)).setCell ⟨w.heap.size,1,none⟩ (.string ⟨#[]⟩)).setCell ⟨w.heap.size,2,none⟩ (.int .i64 0)).setCell ⟨w.heap.size,3,none⟩ (.int .i64 0)).setCell ⟨w.heap.size,4,none⟩ (.bool false)).setCell ⟨w.heap.size,5,none⟩ (.bool false)).setCell ⟨w.heap.size,6,none⟩ (.int .i64 0)).setCell ⟨w.heap.size,7,none⟩ (.string ⟨#[]⟩)).setCell ⟨w.heap.size,8,none⟩ (.slice none 0 0)).setCell ⟨w.heap.size,9,none⟩ (.int .i64 0)).setCell ⟨w.heap.size,10,none⟩ (.int .i64 0)).setCell ⟨w.heap.size,11,none⟩ (.bool false)).setCell ⟨w.heap.size,12,none⟩ (.slice none 0 0))):=by
   iterate 13 (refine Below.setCell ?_ (by dsimp only;omega) _)
   exact B3
  generalize (((((((((((((W2.setCell ⟨w.heap.size,0,none⟩ (.int .i64 0)).setCell ⟨w.heap.size,1,none⟩ (.string ⟨#[]⟩)).setCell ⟨w.heap.size,2,none⟩ (.int .i64 0)).setCell ⟨w.heap.size,3,none⟩ (.int .i64 0)).setCell ⟨w.heap.size,4,none⟩ (.bool false)).setCell ⟨w.heap.size,5,none⟩ (.bool false)).setCell ⟨w.heap.size,6,none⟩ (.int .i64 0)).setCell ⟨w.heap.size,7,none⟩ (.string ⟨#[]⟩)).setCell ⟨w.heap.size,8,none⟩ (.slice none 0 0)).setCell ⟨w.heap.size,9,none⟩ (.int .i64 0)).setCell ⟨w.heap.size,10,none⟩ (.int .i64 0)).setCell ⟨w.heap.size,11,none⟩ (.bool false)).setCell ⟨w.heap.size,12,none⟩ (.slice none 0 0))=W3 at zf Bf ⊢
  obtain⟨s0,s1,s2,s3,s4,s5,s6,s7,s8,s9,s10,s11,s12⟩:=zf.c13
  refine bodyPost_ret (v:=.tuple #[hopV 0 0 0,.bool false]) (by rw [Tak.res_cell_tmp rfl];clear B3 z2 g2 t2 q0 y0 q1 y1 q2 y2 q3 y3 q4 y4 q5 y5 q6 y6 q7 y7 q8 y8 q9 y9 q10 y10 q11 y11 q12 y12 e0 f0 e1 f1 e2 f2 e3 f3 e4 f4 e5 f5;go_simp;done) rfl ⟨rfl,Bf⟩
 ·have z0:Var 47 (w.alloc (.cells #[.int .i64 0,.string ⟨#[]⟩,.int .i64 0,.int .i64 0,.bool false,.bool false,.int .i64 0,.string ⟨#[]⟩,.slice none 0 0,.int .i64 0,.int .i64 0,.bool false,.slice none 0 0] 47)) w.heap.size [.int .i64 0,.string ⟨#[]⟩,.int .i64 0,.int .i64 0,.bool false,.bool false,.int .i64 0,.string ⟨#[]⟩,.slice none 0 0,.int .i64 0,.int .i64 0,.bool false,.slice none 0 0]:=Var.new w _
  have b0:Below w.heap.size w (w.alloc (.cells #[.int .i64 0,.string ⟨#[]⟩,.int .i64 0,.int .i64 0,.bool false,.bool false,.int .i64 0,.string ⟨#[]⟩,.slice none 0 0,.int .i64 0,.int .i64 0,.bool false,.slice none 0 0] 47)):=(Below.refl _ _).alloc (Nat.le_refl _) _
  go_enter Tryz.func63,Tryz.ntmps63
  go_upto_region 1 with(fail)
  generalize w.alloc (.cells #[.int .i64 0,.string ⟨#[]⟩,.int .i64 0,.int .i64 0,.bool false,.bool false,.int .i64 0,.string ⟨#[]⟩,.slice none 0 0,.int .i64 0,.int .i64 0,.bool false,.slice none 0 0] 47)=W0 at *
  go_wp2_with fail
  refine(hG _).mono ?_
  rintro x w1 ⟨rfl,b1⟩
  have z1:=(z0.later b1).alloc (.cells #[.int .i64 0,.string ⟨#[]⟩,.int .i64 0,.int .i64 0,.bool false,.bool false] 41)
  have B0:=b0.trans (b1.mono b0.size)
  obtain⟨W1,hW1⟩: ∃z,Hid (z=w1.alloc (.cells #[.int .i64 0,.string ⟨#[]⟩,.int .i64 0,.int .i64 0,.bool false,.bool false] 41)):=⟨_,rfl⟩
  have B1:Below w.heap.size w W1:=by rw [hW1.out];exact B0.alloc B0.size _
  have g1:Var 41 W1 w1.heap.size [.int .i64 0,.string ⟨#[]⟩,.int .i64 0,.int .i64 0,.bool false,.bool false]:=by rw [hW1.out];exact Var.new w1 _
  go_upto_region 2 with(fail)
  have hW1o:=hW1.out
  clear hW1
  subst hW1o
  generalize w1.alloc (.cells #[.int .i64 0,.string ⟨#[]⟩,.int .i64 0,.int .i64 0,.bool false,.bool false] 41)=W1 at *
  generalize w1.heap.size=k1 at *
  go_wp2_with fail
  refine(hT _).mono ?_
  rintro x w2 ⟨rfl,b2⟩
  have z2:=(z1.later b2).alloc (.cells #[.int .i64 0,.string ⟨#[]⟩,.slice none 0 0,.int .i64 b,.int .i64 (-1),.bool false] 44)
  have g2:=(g1.later b2).alloc (.cells #[.int .i64 0,.string ⟨#[]⟩,.slice none 0 0,.int .i64 b,.int .i64 (-1),.bool false] 44)
  have B2:=B1.trans (b2.mono B1.size)
  obtain⟨W2,hW2⟩: ∃z,Hid (z=w2.alloc (.cells #[.int .i64 0,.string ⟨#[]⟩,.slice none 0 0,.int .i64 b,.int .i64 (-1),.bool false] 44)):=⟨_,rfl⟩
  have B3:Below w.heap.size w W2:=by rw [hW2.out];exact B2.alloc B2.size _
  have t2:Var 44 W2 w2.heap.size [.int .i64 0,.string ⟨#[]⟩,.slice none 0 0,.int .i64 b,.int .i64 (-1),.bool false]:=by rw [hW2.out];exact Var.new w2 _
  go_upto_region 3 with(fail)
  have hW2o:=hW2.out
  clear hW2
  subst hW2o
  generalize w2.alloc (.cells #[.int .i64 0,.string ⟨#[]⟩,.slice none 0 0,.int .i64 b,.int .i64 (-1),.bool false] 44)=W2 at *
  generalize w2.heap.size=k2 at *
  clear b0 b1 b2 z0 z1 g1 B0 B1 B2 hG hT
  obtain⟨e0,e1,e2,e3,e4,e5⟩:=g2.c6
  obtain⟨f0,f1,f2,f3,f4,f5⟩:=t2.c6
  obtain⟨q0,q1,q2,q3,q4,q5,q6,q7,q8,q9,q10,q11,q12⟩:=z2.c13
  obtain⟨y0,y1,y2,y3,y4,y5,y6,y7,y8,y9,y10,y11,y12⟩:=z2.f13
  go_wp2_with fail
  have zf:Var 47 ((((((((((((((W2.setCell ⟨w.heap.size,0,none⟩ (.int .i64 0)).setCell ⟨w.heap.size,1,none⟩ (.string ⟨#[]⟩)).setCell ⟨w.heap.size,2,none⟩ (.int .i64 0)).setCell ⟨w.heap.size,3,none⟩ (.int .i64 0)).setCell ⟨w.heap.size,4,none⟩ (.bool false)).setCell ⟨w.heap.size,5,none⟩ (.bool false)).setCell ⟨w.heap.size,6,none⟩ (.int .i64 0)).setCell ⟨w.heap.size,7,none⟩ (.string ⟨#[]⟩)).setCell ⟨w.heap.size,8,none⟩ (.slice none 0 0)).setCell ⟨w.heap.size,9,none⟩ (.int .i64 0)).setCell ⟨w.heap.size,10,none⟩ (.int .i64 0)).setCell ⟨w.heap.size,11,none⟩ (.bool false)).setCell ⟨w.heap.size,12,none⟩ (.slice none 0 0))) w.heap.size [.int .i64 0,.string ⟨#[]⟩,.int .i64 0,.int .i64 0,.bool false,.bool false,.int .i64 0,.string ⟨#[]⟩,.slice none 0 0,.int .i64 0,.int .i64 0,.bool false,.slice none 0 0]:=(((((((((((((z2.set 0 _).set 1 _).set 2 _).set 3 _).set 4 _).set 5 _).set 6 _).set 7 _).set 8 _).set 9 _).set 10 _).set 11 _).set 12 _)
  have Bf:Below w.heap.size w ((((((((((((((W2.setCell ⟨w.heap.size,0,none⟩ (.int .i64 0)).setCell ⟨w.heap.size,1,none⟩ (.string ⟨#[]⟩)).setCell ⟨w.heap.size,2,none⟩ (.int .i64 0)).setCell ⟨w.heap.size,3,none⟩ (.int .i64 0)).setCell ⟨w.heap.size,4,none⟩ (.bool false)).setCell ⟨w.heap.size,5,none⟩ (.bool false)).setCell ⟨w.heap.size,6,none⟩ (.int .i64 0)).setCell ⟨w.heap.size,7,none⟩ (.string ⟨#[]⟩)).setCell ⟨w.heap.size,8,none⟩ (.slice none 0 0)).setCell ⟨w.heap.size,9,none⟩ (.int .i64 0)).setCell ⟨w.heap.size,10,none⟩ (.int .i64 0)).setCell ⟨w.heap.size,11,none⟩ (.bool false)).setCell ⟨w.heap.size,12,none⟩ (.slice none 0 0))):=by
   iterate 13 (refine Below.setCell ?_ (by dsimp only;omega) _)
   exact B3
  generalize (((((((((((((W2.setCell ⟨w.heap.size,0,none⟩ (.int .i64 0)).setCell ⟨w.heap.size,1,none⟩ (.string ⟨#[]⟩)).setCell ⟨w.heap.size,2,none⟩ (.int .i64 0)).setCell ⟨w.heap.size,3,none⟩ (.int .i64 0)).setCell ⟨w.heap.size,4,none⟩ (.bool false)).setCell ⟨w.heap.size,5,none⟩ (.bool false)).setCell ⟨w.heap.size,6,none⟩ (.int .i64 0)).setCell ⟨w.heap.size,7,none⟩ (.string ⟨#[]⟩)).setCell ⟨w.heap.size,8,none⟩ (.slice none 0 0)).setCell ⟨w.heap.size,9,none⟩ (.int .i64 0)).setCell ⟨w.heap.size,10,none⟩ (.int .i64 0)).setCell ⟨w.heap.size,11,none⟩ (.bool false)).setCell ⟨w.heap.size,12,none⟩ (.slice none 0 0))=W3 at zf Bf ⊢
  obtain⟨s0,s1,s2,s3,s4,s5,s6,s7,s8,s9,s10,s11,s12⟩:=zf.c13
  refine bodyPost_ret (v:=.tuple #[hopV 0 0 0,.bool false]) (by rw [Tak.res_cell_tmp rfl];clear B3 z2 g2 t2 q0 y0 q1 y1 q2 y2 q3 y3 q4 y4 q5 y5 q6 y6 q7 y7 q8 y8 q9 y9 q10 y10 q11 y11 q12 y12 e0 f0 e1 f1 e2 f2 e3 f3 e4 f4 e5 f5;go_simp;done) rfl ⟨rfl,Bf⟩
 ·have z0:Var 47 (w.alloc (.cells #[.int .i64 0,.string ⟨#[]⟩,.int .i64 0,.int .i64 0,.bool false,.bool false,.int .i64 0,.string ⟨#[]⟩,.slice none 0 0,.int .i64 0,.int .i64 0,.bool false,.slice none 0 0] 47)) w.heap.size [.int .i64 0,.string ⟨#[]⟩,.int .i64 0,.int .i64 0,.bool false,.bool false,.int .i64 0,.string ⟨#[]⟩,.slice none 0 0,.int .i64 0,.int .i64 0,.bool false,.slice none 0 0]:=Var.new w _
  have b0:Below w.heap.size w (w.alloc (.cells #[.int .i64 0,.string ⟨#[]⟩,.int .i64 0,.int .i64 0,.bool false,.bool false,.int .i64 0,.string ⟨#[]⟩,.slice none 0 0,.int .i64 0,.int .i64 0,.bool false,.slice none 0 0] 47)):=(Below.refl _ _).alloc (Nat.le_refl _) _
  go_enter Tryz.func63,Tryz.ntmps63
  go_upto_region 1 with(fail)
  generalize w.alloc (.cells #[.int .i64 0,.string ⟨#[]⟩,.int .i64 0,.int .i64 0,.bool false,.bool false,.int .i64 0,.string ⟨#[]⟩,.slice none 0 0,.int .i64 0,.int .i64 0,.bool false,.slice none 0 0] 47)=W0 at *
  go_wp2_with fail
  refine(hG _).mono ?_
  rintro x w1 ⟨rfl,b1⟩
  have z1:=(z0.later b1).alloc (.cells #[.int .i64 0,.string ⟨#[]⟩,.int .i64 a,.int .i64 0,.bool false,.bool false] 41)
  have B0:=b0.trans (b1.mono b0.size)
  obtain⟨W1,hW1⟩: ∃z,Hid (z=w1.alloc (.cells #[.int .i64 0,.string ⟨#[]⟩,.int .i64 a,.int .i64 0,.bool false,.bool false] 41)):=⟨_,rfl⟩
  have B1:Below w.heap.size w W1:=by rw [hW1.out];exact B0.alloc B0.size _
  have g1:Var 41 W1 w1.heap.size [.int .i64 0,.string ⟨#[]⟩,.int .i64 a,.int .i64 0,.bool false,.bool false]:=by rw [hW1.out];exact Var.new w1 _
  go_upto_region 2 with(fail)
  have hW1o:=hW1.out
  clear hW1
  subst hW1o
  generalize w1.alloc (.cells #[.int .i64 0,.string ⟨#[]⟩,.int .i64 a,.int .i64 0,.bool false,.bool false] 41)=W1 at *
  generalize w1.heap.size=k1 at *
  go_wp2_with fail
  refine(hT _).mono ?_
  rintro x w2 ⟨rfl,b2⟩
  have z2:=(z1.later b2).alloc (.cells #[.int .i64 0,.string ⟨#[]⟩,.slice none 0 0,.int .i64 0,.int .i64 0,.bool false] 44)
  have g2:=(g1.later b2).alloc (.cells #[.int .i64 0,.string ⟨#[]⟩,.slice none 0 0,.int .i64 0,.int .i64 0,.bool false] 44)
  have B2:=B1.trans (b2.mono B1.size)
  obtain⟨W2,hW2⟩: ∃z,Hid (z=w2.alloc (.cells #[.int .i64 0,.string ⟨#[]⟩,.slice none 0 0,.int .i64 0,.int .i64 0,.bool false] 44)):=⟨_,rfl⟩
  have B3:Below w.heap.size w W2:=by rw [hW2.out];exact B2.alloc B2.size _
  have t2:Var 44 W2 w2.heap.size [.int .i64 0,.string ⟨#[]⟩,.slice none 0 0,.int .i64 0,.int .i64 0,.bool false]:=by rw [hW2.out];exact Var.new w2 _
  go_upto_region 3 with(fail)
  have hW2o:=hW2.out
  clear hW2
  subst hW2o
  generalize w2.alloc (.cells #[.int .i64 0,.string ⟨#[]⟩,.slice none 0 0,.int .i64 0,.int .i64 0,.bool false] 44)=W2 at *
  generalize w2.heap.size=k2 at *
  clear b0 b1 b2 z0 z1 g1 B0 B1 B2 hG hT
  obtain⟨e0,e1,e2,e3,e4,e5⟩:=g2.c6
  obtain⟨f0,f1,f2,f3,f4,f5⟩:=t2.c6
  obtain⟨q0,q1,q2,q3,q4,q5,q6,q7,q8,q9,q10,q11,q12⟩:=z2.c13
  obtain⟨y0,y1,y2,y3,y4,y5,y6,y7,y8,y9,y10,y11,y12⟩:=z2.f13
  go_wp2_with fail
  have zf:Var 47 ((((((((((((((W2.setCell ⟨w.heap.size,0,none⟩ (.int .i64 0)).setCell ⟨w.heap.size,1,none⟩ (.string ⟨#[]⟩)).setCell ⟨w.heap.size,2,none⟩ (.int .i64 0)).setCell ⟨w.heap.size,3,none⟩ (.int .i64 0)).setCell ⟨w.heap.size,4,none⟩ (.bool false)).setCell ⟨w.heap.size,5,none⟩ (.bool false)).setCell ⟨w.heap.size,6,none⟩ (.int .i64 0)).setCell ⟨w.heap.size,7,none⟩ (.string ⟨#[]⟩)).setCell ⟨w.heap.size,8,none⟩ (.slice none 0 0)).setCell ⟨w.heap.size,9,none⟩ (.int .i64 0)).setCell ⟨w.heap.size,10,none⟩ (.int .i64 0)).setCell ⟨w.heap.size,11,none⟩ (.bool false)).setCell ⟨w.heap.size,12,none⟩ (.slice none 0 0))) w.heap.size [.int .i64 0,.string ⟨#[]⟩,.int .i64 0,.int .i64 0,.bool false,.bool false,.int .i64 0,.string ⟨#[]⟩,.slice none 0 0,.int .i64 0,.int .i64 0,.bool false,.slice none 0 0]:=(((((((((((((z2.set 0 _).set 1 _).set 2 _).set 3 _).set 4 _).set 5 _).set 6 _).set 7 _).set 8 _).set 9 _).set 10 _).set 11 _).set 12 _)
  have Bf:Below w.heap.size w ((((((((((((((W2.setCell ⟨w.heap.size,0,none⟩ (.int .i64 0)).setCell ⟨w.heap.size,1,none⟩ (.string ⟨#[]⟩)).setCell ⟨w.heap.size,2,none⟩ (.int .i64 0)).setCell ⟨w.heap.size,3,none⟩ (.int .i64 0)).setCell ⟨w.heap.size,4,none⟩ (.bool false)).setCell ⟨w.heap.size,5,none⟩ (.bool false)).setCell ⟨w.heap.size,6,none⟩ (.int .i64 0)).setCell ⟨w.heap.size,7,none⟩ (.string ⟨#[]⟩)).setCell ⟨w.heap.size,8,none⟩ (.slice none 0 0)).setCell ⟨w.heap.size,9,none⟩ (.int .i64 0)).setCell ⟨w.heap.size,10,none⟩ (.int .i64 0)).setCell ⟨w.heap.size,11,none⟩ (.bool false)).setCell ⟨w.heap.size,12,none⟩ (.slice none 0 0))):=by
   iterate 13 (refine Below.setCell ?_ (by dsimp only;omega) _)
   exact B3
  generalize (((((((((((((W2.setCell ⟨w.heap.size,0,none⟩ (.int .i64 0)).setCell ⟨w.heap.size,1,none⟩ (.string ⟨#[]⟩)).setCell ⟨w.heap.size,2,none⟩ (.int .i64 0)).setCell ⟨w.heap.size,3,none⟩ (.int .i64 0)).setCell ⟨w.heap.size,4,none⟩ (.bool false)).setCell ⟨w.heap.size,5,none⟩ (.bool false)).setCell ⟨w.heap.size,6,none⟩ (.int .i64 0)).setCell ⟨w.heap.size,7,none⟩ (.string ⟨#[]⟩)).setCell ⟨w.heap.size,8,none⟩ (.slice none 0 0)).setCell ⟨w.heap.size,9,none⟩ (.int .i64 0)).setCell ⟨w.heap.size,10,none⟩ (.int .i64 0)).setCell ⟨w.heap.size,11,none⟩ (.bool false)).setCell ⟨w.heap.size,12,none⟩ (.slice none 0 0))=W3 at zf Bf ⊢
  obtain⟨s0,s1,s2,s3,s4,s5,s6,s7,s8,s9,s10,s11,s12⟩:=zf.c13
  refine bodyPost_ret (v:=.tuple #[hopV 0 0 0,.bool false]) (by rw [Tak.res_cell_tmp rfl];clear B3 z2 g2 t2 q0 y0 q1 y1 q2 y2 q3 y3 q4 y4 q5 y5 q6 y6 q7 y7 q8 y8 q9 y9 q10 y10 q11 y11 q12 y12 e0 f0 e1 f1 e2 f2 e3 f3 e4 f4 e5 f5;go_simp;done) rfl ⟨rfl,Bf⟩
 ·have z0:Var 47 (w.alloc (.cells #[.int .i64 0,.string ⟨#[]⟩,.int .i64 0,.int .i64 0,.bool false,.bool false,.int .i64 0,.string ⟨#[]⟩,.slice none 0 0,.int .i64 0,.int .i64 0,.bool false,.slice none 0 0] 47)) w.heap.size [.int .i64 0,.string ⟨#[]⟩,.int .i64 0,.int .i64 0,.bool false,.bool false,.int .i64 0,.string ⟨#[]⟩,.slice none 0 0,.int .i64 0,.int .i64 0,.bool false,.slice none 0 0]:=Var.new w _
  have b0:Below w.heap.size w (w.alloc (.cells #[.int .i64 0,.string ⟨#[]⟩,.int .i64 0,.int .i64 0,.bool false,.bool false,.int .i64 0,.string ⟨#[]⟩,.slice none 0 0,.int .i64 0,.int .i64 0,.bool false,.slice none 0 0] 47)):=(Below.refl _ _).alloc (Nat.le_refl _) _
  go_enter Tryz.func63,Tryz.ntmps63
  go_upto_region 1 with(fail)
  generalize w.alloc (.cells #[.int .i64 0,.string ⟨#[]⟩,.int .i64 0,.int .i64 0,.bool false,.bool false,.int .i64 0,.string ⟨#[]⟩,.slice none 0 0,.int .i64 0,.int .i64 0,.bool false,.slice none 0 0] 47)=W0 at *
  go_wp2_with fail
  refine(hG _).mono ?_
  rintro x w1 ⟨rfl,b1⟩
  have z1:=(z0.later b1).alloc (.cells #[.int .i64 0,.string ⟨#[]⟩,.int .i64 a,.int .i64 0,.bool false,.bool false] 41)
  have B0:=b0.trans (b1.mono b0.size)
  obtain⟨W1,hW1⟩: ∃z,Hid (z=w1.alloc (.cells #[.int .i64 0,.string ⟨#[]⟩,.int .i64 a,.int .i64 0,.bool false,.bool false] 41)):=⟨_,rfl⟩
  have B1:Below w.heap.size w W1:=by rw [hW1.out];exact B0.alloc B0.size _
  have g1:Var 41 W1 w1.heap.size [.int .i64 0,.string ⟨#[]⟩,.int .i64 a,.int .i64 0,.bool false,.bool false]:=by rw [hW1.out];exact Var.new w1 _
  go_upto_region 2 with(fail)
  have hW1o:=hW1.out
  clear hW1
  subst hW1o
  generalize w1.alloc (.cells #[.int .i64 0,.string ⟨#[]⟩,.int .i64 a,.int .i64 0,.bool false,.bool false] 41)=W1 at *
  generalize w1.heap.size=k1 at *
  go_wp2_with fail
  refine(hT _).mono ?_
  rintro x w2 ⟨rfl,b2⟩
  have z2:=(z1.later b2).alloc (.cells #[.int .i64 0,.string ⟨#[]⟩,.slice none 0 0,.int .i64 b,.int .i64 (-1),.bool false] 44)
  have g2:=(g1.later b2).alloc (.cells #[.int .i64 0,.string ⟨#[]⟩,.slice none 0 0,.int .i64 b,.int .i64 (-1),.bool false] 44)
  have B2:=B1.trans (b2.mono B1.size)
  obtain⟨W2,hW2⟩: ∃z,Hid (z=w2.alloc (.cells #[.int .i64 0,.string ⟨#[]⟩,.slice none 0 0,.int .i64 b,.int .i64 (-1),.bool false] 44)):=⟨_,rfl⟩
  have B3:Below w.heap.size w W2:=by rw [hW2.out];exact B2.alloc B2.size _
  have t2:Var 44 W2 w2.heap.size [.int .i64 0,.string ⟨#[]⟩,.slice none 0 0,.int .i64 b,.int .i64 (-1),.bool false]:=by rw [hW2.out];exact Var.new w2 _
  go_upto_region 3 with(fail)
  have hW2o:=hW2.out
  clear hW2
  subst hW2o
  generalize w2.alloc (.cells #[.int .i64 0,.string ⟨#[]⟩,.slice none 0 0,.int .i64 b,.int .i64 (-1),.bool false] 44)=W2 at *
  generalize w2.heap.size=k2 at *
  clear b0 b1 b2 z0 z1 g1 B0 B1 B2 hG hT
  obtain⟨e0,e1,e2,e3,e4,e5⟩:=g2.c6
  obtain⟨f0,f1,f2,f3,f4,f5⟩:=t2.c6
  obtain⟨q0,q1,q2,q3,q4,q5,q6,q7,q8,q9,q10,q11,q12⟩:=z2.c13
  obtain⟨y0,y1,y2,y3,y4,y5,y6,y7,y8,y9,y10,y11,y12⟩:=z2.f13
  go_wp2_with fail
  have zf:Var 47 ((((((((((((((W2.setCell ⟨w.heap.size,0,none⟩ (.int .i64 0)).setCell ⟨w.heap.size,1,none⟩ (.string ⟨#[]⟩)).setCell ⟨w.heap.size,2,none⟩ (.int .i64 a)).setCell ⟨w.heap.size,3,none⟩ (.int .i64 0)).setCell ⟨w.heap.size,4,none⟩ (.bool false)).setCell ⟨w.heap.size,5,none⟩ (.bool false)).setCell ⟨w.heap.size,6,none⟩ (.int .i64 0)).setCell ⟨w.heap.size,7,none⟩ (.string ⟨#[]⟩)).setCell ⟨w.heap.size,8,none⟩ (.slice none 0 0)).setCell ⟨w.heap.size,9,none⟩ (.int .i64 b)).setCell ⟨w.heap.size,10,none⟩ (.int .i64 (-1))).setCell ⟨w.heap.size,11,none⟩ (.bool false)).setCell ⟨w.heap.size,12,none⟩ (.slice none 0 0))) w.heap.size [.int .i64 0,.string ⟨#[]⟩,.int .i64 a,.int .i64 0,.bool false,.bool false,.int .i64 0,.string ⟨#[]⟩,.slice none 0 0,.int .i64 b,.int .i64 (-1),.bool false,.slice none 0 0]:=(((((((((((((z2.set 0 _).set 1 _).set 2 _).set 3 _).set 4 _).set 5 _).set 6 _).set 7 _).set 8 _).set 9 _).set 10 _).set 11 _).set 12 _)
  have Bf:Below w.heap.size w ((((((((((((((W2.setCell ⟨w.heap.size,0,none⟩ (.int .i64 0)).setCell ⟨w.heap.size,1,none⟩ (.string ⟨#[]⟩)).setCell ⟨w.heap.size,2,none⟩ (.int .i64 a)).setCell ⟨w.heap.size,3,none⟩ (.int .i64 0)).setCell ⟨w.heap.size,4,none⟩ (.bool false)).setCell ⟨w.heap.size,5,none⟩ (.bool false)).setCell ⟨w.heap.size,6,none⟩ (.int .i64 0)).setCell ⟨w.heap.size,7,none⟩ (.string ⟨#[]⟩)).setCell ⟨w.heap.size,8,none⟩ (.slice none 0 0)).setCell ⟨w.heap.size,9,none⟩ (.int .i64 b)).setCell ⟨w.heap.size,10,none⟩ (.int .i64 (-1))).setCell ⟨w.heap.size,11,none⟩ (.bool false)).setCell ⟨w.heap.size,12,none⟩ (.slice none 0 0))):=by
   iterate 13 (refine Below.setCell ?_ (by dsimp only;omega) _)
   exact B3
  generalize (((((((((((((W2.setCell ⟨w.heap.size,0,none⟩ (.int .i64 0)).setCell ⟨w.heap.size,1,none⟩ (.string ⟨#[]⟩)).setCell ⟨w.heap.size,2,none⟩ (.int .i64 a)).setCell ⟨w.heap.size,3,none⟩ (.int .i64 0)).setCell ⟨w.heap.size,4,none⟩ (.bool false)).setCell ⟨w.heap.size,5,none⟩ (.bool false)).setCell ⟨w.heap.size,6,none⟩ (.int .i64 0)).setCell ⟨w.heap.size,7,none⟩ (.string ⟨#[]⟩)).setCell ⟨w.heap.size,8,none⟩ (.slice none 0 0)).setCell ⟨w.heap.size,9,none⟩ (.int .i64 b)).setCell ⟨w.heap.size,10,none⟩ (.int .i64 (-1))).setCell ⟨w.heap.size,11,none⟩ (.bool false)).setCell ⟨w.heap.size,12,none⟩ (.slice none 0 0))=W3 at zf Bf ⊢
  obtain⟨s0,s1,s2,s3,s4,s5,s6,s7,s8,s9,s10,s11,s12⟩:=zf.c13
  refine bodyPost_ret (v:=.tuple #[hopV a b (-1),.bool true]) (by rw [Tak.res_cell_tmp rfl];clear B3 z2 g2 t2 q0 y0 q1 y1 q2 y2 q3 y3 q4 y4 q5 y5 q6 y6 q7 y7 q8 y8 q9 y9 q10 y10 q11 y11 q12 y12 e0 f0 e1 f1 e2 f2 e3 f3 e4 f4 e5 f5;go_simp;done) rfl ⟨rfl,Bf⟩
end Go.Proofs.YtfejobjgbadfjaaGreat.Hop
namespace Go.Proofs.YtfejobjgbadfjaaGreat.Lin
open Go.RowKit RowG
def H0:El (Int×Int) where
 enc x:=Hop.hopC x.1 x.2 (-1)
 size:=13
 len _:=rfl
 one x u hu:=by
  simp only [Hop.hopC,List.mem_cons,List.not_mem_nil,or_false]at hu
  rcases hu with rfl|rfl|rfl|rfl|rfl|rfl|rfl|rfl|rfl|rfl|rfl|rfl|rfl <;>rfl
 pos:=by decide
theorem infoHop0:(Tryz.prog.info? 47).map (fun i=>(i.zero,i.size,i.bytes))=some (some (.agg #[.int .i64 0,.string ByteArray.empty,.int .i64 0,.int .i64 0,.bool false,.bool false,.int .i64 0,.string ByteArray.empty,.slice none 0 0,.int .i64 0,.int .i64 0,.bool false,.slice none 0 0]),13,144):=by kernel_rfl
theorem typ0:Typ Tryz.prog 24 47 H0 144:=⟨Tryz.underlying24,by
 obtain⟨i,hi,h0,h1,h2⟩:=info_parts infoHop0
 exact⟨i,_,hi,h0,h1,h2,rfl⟩⟩
theorem infoHop1:(Tryz.prog.info? 47).map (·.size)=some 13:=by kernel_rfl
def capAt (l:List Int)(k:Nat):Int:=l.getD k 0
theorem cap_some {l:List Int}{k:Nat}(h:k<l.length):l[k]? =some (capAt l k):=by simp [capAt,h]
theorem capCell {w:World}{b off:Nat}{l:List Int}(h:Roa.EI.Lies w (some ⟨b,off,none⟩) l){k:Nat}(hk:k<l.length):w.cell? ⟨b,off+k,none⟩=some (.int .i64 (capAt l k)):=by
 rcases h with hs|⟨b',off',he,hs⟩
 ·simp [hs]at hk
 cases he
 have:=El.Lies.cell hs (cap_some hk) (j:=0) rfl
 simpa [Roa.EI]using this
def capsB (l:List Int)(n:Int):Bool:=decide (l.length=6)&&(decide (1≤n∧n≤4)&&l.all Tak.capB)
theorem caps_no {l:List Int}{n:Int}{k:Nat}(hk:k<l.length)(h:Tak.capB (capAt l k)=false):capsB l n=false:=by
 have:l.all Tak.capB=false:=by
  rw [List.all_eq_false]
  refine⟨l[k],List.getElem_mem hk,?_⟩
  have e:capAt l k=l[k]:=by simp [capAt,hk]
  rw [←e,h]
  decide
 simp [capsB,this]
theorem caps_yes {l:List Int}{n:Int}(h6:l.length=6)(hn:1≤n∧n≤4)(h: ∀j,j<6→Tak.capB (capAt l j)=true):capsB l n=true:=by
 have:l.all Tak.capB=true:=by
  rw [List.all_eq_true]
  intro x hx
  obtain⟨j,hj,rfl⟩:=List.getElem_of_mem hx
  have e:capAt l j=l[j]:=by simp [capAt,hj]
  rw [←e]
  exact h j (by omega)
 simp [capsB,this,h6,hn]
def newHs (l:List Int)(k:Nat):List (Int×Int):=(List.range k).map fun i=>(capAt l (2*i),capAt l (2*i+1))
def newRs (k:Nat):List Roa.Rd:=(List.range k).map fun i:Nat=>(⟨true,(i:Int)+1,0,0⟩:Roa.Rd)
theorem newHs_len (l:List Int)(k:Nat):(newHs l k).length=k:=by simp [newHs]
theorem newRs_len (k:Nat):(newRs k).length=k:=by simp [newRs]
theorem newHs_step (l:List Int)(k:Nat):newHs l (k+1)=newHs l k++[(capAt l (2*k),capAt l (2*k+1))]:=by simp [newHs,List.range_succ]
theorem newRs_step (k:Nat):newRs (k+1)=newRs k++[⟨true,(k:Int)+1,0,0⟩]:=by simp [newRs,List.range_succ]
theorem own_neL {w:World}{B k:Nat}{a:Option Addr}{c:Nat}{l:List (Int×Int)}{vs:List Value}(v:Var 27 w k vs)(o:H0.Own 47 w B a c l): ∀x,a=some x→x.block≠k:=by
 intro x hx
 rcases o.form with⟨h0,_⟩|⟨g,h0,_⟩
 ·rw [hx]at h0;cases h0
 ·subst h0;cases hx;exact own_varS (by decide) o v
theorem own_neR {w:World}{B k:Nat}{a:Option Addr}{c:Nat}{l:List Roa.Rd}{vs:List Value}(v:Var 27 w k vs)(o:Roa.E.Own 95 w B a c l): ∀x,a=some x→x.block≠k:=by
 intro x hx
 rcases o.form with⟨h0,_⟩|⟨g,h0,_⟩
 ·rw [hx]at h0;cases h0
 ·subst h0;cases hx;exact own_varS (by decide) o v
theorem own_HR {w:World}{B B' g:Nat}{a:Option Addr}{c c':Nat}{l:List (Int×Int)}{l':List Roa.Rd}(o:H0.Own 47 w B (some ⟨g,0,none⟩) c l)(o':Roa.E.Own 95 w B' a c' l'){y:Addr}(hy:a=some y):g≠y.block:=by
 rcases o'.form with⟨h0,_⟩|⟨g',h0,_⟩
 ·rw [hy]at h0;cases h0
 ·subst h0;cases hy;exact own_twoS (by decide) o o'
theorem H0one (p q r:Int): ∀v∈Hop.hopC p q r,v.oneCell'=true:=by
 intro u hu
 simp only [Hop.hopC,List.mem_cons,List.not_mem_nil,or_false]at hu
 rcases hu with rfl|rfl|rfl|rfl|rfl|rfl|rfl|rfl|rfl|rfl|rfl|rfl|rfl <;>rfl
theorem specNewLine (a:Option Addr)(cap:Nat)(l:List Int)(n:Int)(w:World)(h:Roa.EI.Lies w a l)(hl:l.length≤2097152):
  Calls Tryz.prog 45 #[.slice a l.length cap,.int .i64 n] w fun x w'=>Below w.heap.size w w'∧((capsB l n=false∧x=.returned (.tuple #[.agg #[.slice none 0 0,.slice none 0 0],.bool false]))∨
   (capsB l n=true∧ ∃g c g' c',x=.returned (.tuple #[.agg #[.slice (some ⟨g,0,none⟩) 3 c,.slice (some ⟨g',0,none⟩) n.toNat c'],.bool true])∧H0.Own 47 w' w.heap.size (some ⟨g,0,none⟩) c (newHs l 3)∧Roa.E.Own 95 w' w.heap.size (some ⟨g',0,none⟩) c' (newRs n.toNat))):=by
 have hmix:=Roa.mix
 have v0:Var 27 ((w.alloc (.cells #[.slice none 0 0,.slice none 0 0] 27)).alloc (.cells #[.slice none 0 0,.slice none 0 0] 27)) (w.heap.size+1) [.slice none 0 0,.slice none 0 0]:=by
  have q:=Var.new (T:=27) (w.alloc (.cells #[.slice none 0 0,.slice none 0 0] 27)) [.slice none 0 0,.slice none 0 0]
  simpa using q
 have b0:Below w.heap.size w ((w.alloc (.cells #[.slice none 0 0,.slice none 0 0] 27)).alloc (.cells #[.slice none 0 0,.slice none 0 0] 27)):=((Below.refl _ _).alloc (Nat.le_refl _) _).alloc (by simp) _
 by_cases h6:l.length=6
 case neg=>
  have h6': ¬(l.length:Int)=6:=by omega
  go_enter Tryz.func45,Tryz.ntmps45
  go_wp2_with fail
  refine bodyPost_ret (v:=.tuple #[.agg #[.slice none 0 0,.slice none 0 0],.bool false]) (by rw [Tak.res_cell_tmp rfl];go_simp) rfl ⟨b0,.inl ⟨by simp [capsB,h6],rfl⟩⟩
 by_cases hn:1≤n∧n≤4
 case neg=>
  have hin:=fun w'=>Tak.l1InEq (n:=n) (a:=1) (b:=4) (v:=false) (by simp;omega) w'
  go_enter Tryz.func45,Tryz.ntmps45
  rw [h6]
  go_wp2_with (refine(hin _).mono ?_;rintro e w' ⟨rfl,rfl⟩)
  refine bodyPost_ret (v:=.tuple #[.agg #[.slice none 0 0,.slice none 0 0],.bool false]) (by rw [Tak.res_cell_tmp rfl];go_simp) rfl ⟨b0,.inl ⟨by simp [capsB,hn],rfl⟩⟩
 have hin:=fun w'=>Tak.l1InEq (n:=n) (a:=1) (b:=4) (v:=true) (by simp;omega) w'
 go_enter Tryz.func45,Tryz.ntmps45
 rw [h6]
 have r0:Var 27 ((w.alloc (.cells #[.slice none 0 0,.slice none 0 0] 27)).alloc (.cells #[.slice none 0 0,.slice none 0 0] 27)) w.heap.size [.slice none 0 0,.slice none 0 0]:=(Var.new w _).alloc _
 go_wp2_with (refine(hin _).mono ?_;rintro e w' ⟨rfl,rfl⟩)
 go_loopw [7] (fun iv wr=> ∃(k c:Nat) (ao:Option Addr),k≤3∧iv=.int .i64 k∧Var 27 wr (w.heap.size+1) [.slice ao k c,.slice none 0 0]∧Var 27 wr w.heap.size [.slice none 0 0,.slice none 0 0]∧H0.Own 47 wr w.heap.size ao c (newHs l k)∧Hid (∀j,j<2*k→Tak.capB (capAt l j)=true)∧Below w.heap.size w wr) (fun iv _=>3-(intOf iv).toNat)
 case atStart=>exact⟨0,0,none,by omega,rfl,v0,r0,El.Own.none _ _,fun j hj=>by omega,b0⟩
 case round=>
  clear v0 r0 b0
  obtain⟨k,c,ao,hk,rfl,v1,r1,o1,hcs,b1⟩:=hrel
  by_cases hk3:k<3
  ·have i0:(k:Int)<3:=by omega
   have h1:=h.later b1
   obtain⟨b,off,rfl⟩: ∃b off,a=some ⟨b,off,none⟩:=by
    rcases h1 with hs|⟨b,off,rfl,_⟩
    ·simp [hs]at h6
    ·exact⟨b,off,rfl⟩
   have Lne: ∀y,some (⟨b,off,none⟩:Addr)=some y→y.block<w.heap.size:=fun y hy=>by
    have:=capCell h (k:=0) (by omega)
    cases hy
    exact Draw.lt_of_cell this
   have j0:(2:Int)*(k:Int)<6:=by omega
   have j1:(2:Int)*(k:Int)+1<6:=by omega
   have j2:(0:Int)≤2*(k:Int):=by omega
   have j3:(0:Int)≤2*(k:Int)+1:=by omega
   have e0:(2*(k:Int)).toNat=2*k:=by omega
   have e1:(2*(k:Int)+1).toNat=2*k+1:=by omega
   have w0:IntKind.i64.wrap (2*(k:Int))=2*(k:Int):=IntWalk.i64_in _ (by omega)
   have w1':IntKind.i64.wrap (2*(k:Int)+1)=2*(k:Int)+1:=IntWalk.i64_in _ (by omega)
   obtain⟨p,q,r,s,hnew⟩: ∃p q r s,Hop.newH (capAt l (2*k)) (capAt l (2*k+1))=(p,q,r,s):=⟨_,_,_,_,rfl⟩
   obtain⟨S0,hS0,hS1,hS2,hoB⟩: ∃S0,S0≤wr.drew.heap.size∧w.heap.size+1<S0∧S0=wr.heap.size∧ ∀y,ao=some y→y.block<S0:=⟨wr.heap.size,Nat.le_refl _,v1.lt,rfl,fun y hy=>(o1.lt y hy).2⟩
   go_wp2_with fail
   refine RegJ.wp_region_J (W:=fun d wr=>Var 27 wr (w.heap.size+1) [.slice ao k c,.slice none 0 0]∧Var 27 wr (w.heap.size) [.slice none 0 0,.slice none 0 0]∧H0.Own 47 wr w.heap.size ao c (newHs l k)∧Roa.EI.Lies wr (some ⟨b,off,none⟩) l∧Below w.heap.size w wr∧S0≤wr.heap.size) (RegJ.Tell (S0-1) [.eq (.slice (some ⟨b,off,none⟩) 6 cap),.eq (.int .i64 (k:Int)),.eq (.int .i64 (2*(k:Int))),.eq (.pointer (some ⟨b,off+2*k,none⟩)),.eq (.int .i64 (capAt l (2*k))),.eq (.slice (some ⟨b,off,none⟩) 6 cap),.eq (.int .i64 (k:Int)),.eq (.int .i64 (2*(k:Int))),.eq (.int .i64 (2*(k:Int)+1)),.eq (.pointer (some ⟨b,off+(2*k+1),none⟩)),.eq (.int .i64 (capAt l (2*k+1))),.eq (.tuple #[Hop.hopV p q r,.bool s]),.eq (.tuple #[Hop.hopV p q r,.bool s]),.eq (Hop.hopV p q r),.eq (.bool s),.made 16 47 [.int .i64 0,.string ⟨#[]⟩,.int .i64 0,.int .i64 0,.bool false,.bool false,.int .i64 0,.string ⟨#[]⟩,.slice none 0 0,.int .i64 0,.int .i64 0,.bool false,.slice none 0 0] (fun vs=>vs=Hop.hopC p q r),.any,.eq (.bool s)]) [some 26,some 27,some 28,some 29,some 30,some 31,some 32,some 33,some 34,some 35,some 36,some 37,some 25,some 38,some 39,some 8,none,some 9] (F:=?_) (is:=[0,1,2,3,4,5,6,7,8,9,10,11,12,13,14,15,16,17]) hmix (by kernel_rfl) (by kernel_rfl) (by kernel_rfl) (by kernel_rfl) (fun x=>?_) (⟨v1.drew,r1.drew,o1.drew,h1.drew,b1.drew,hS0⟩) ?_ (fun dR xR wR hWR hdR hJR=>?_)
   rotate_left 1
   focus (simp only [RegJ.lay,Act.put,Nat.reduceAdd,Nat.zero_add,Draw.lays];rfl)
   focus
    iterate 18 (refine RegJ.Steps.cons (RegJ.StepAt.mk rfl (fun d x w1 hW1 hJ1 hx1 K hK=>?_)) ?_;simp only [Draw.lays]at hK;rotate_left 1)
    exact RegJ.Steps.nil
    ·go_simp;exact hK.out _ _ hW1 RegJ.Tell.same rfl
    ·go_simp;exact hK.out _ _ hW1 RegJ.Tell.same rfl
    ·have j1:x 1=_:=(hJ1.out 1 (by kernel_rfl));rw [j1]at hK;go_simp;exact hK.out _ _ hW1 RegJ.Tell.same rfl
    ·have j0:x 0=_:=(hJ1.out 0 (by kernel_rfl));rw [j0]at hK;have j2:x 2=_:=(hJ1.out 2 (by kernel_rfl));rw [j2]at hK;go_simp;(try rw [e0]);exact hK.out _ _ hW1 RegJ.Tell.same rfl
    ·obtain⟨v2,r2,o2,L2,b2,z2⟩:=id hW1;have j3:x 3=_:=(hJ1.out 3 (by kernel_rfl));rw [j3]at hK;have q0:=capCell L2 (k:=2*k) (by omega);go_simp;exact hK.out _ _ hW1 RegJ.Tell.same rfl
    ·go_simp;exact hK.out _ _ hW1 RegJ.Tell.same rfl
    ·go_simp;exact hK.out _ _ hW1 RegJ.Tell.same rfl
    ·have j6:x 6=_:=(hJ1.out 6 (by kernel_rfl));rw [j6]at hK;go_simp;exact hK.out _ _ hW1 RegJ.Tell.same rfl
    ·have j7:x 7=_:=(hJ1.out 7 (by kernel_rfl));rw [j7]at hK;go_simp;exact hK.out _ _ hW1 RegJ.Tell.same rfl
    ·have j5:x 5=_:=(hJ1.out 5 (by kernel_rfl));rw [j5]at hK;have j8:x 8=_:=(hJ1.out 8 (by kernel_rfl));rw [j8]at hK;go_simp;(try rw [e1]);exact hK.out _ _ hW1 RegJ.Tell.same rfl
    ·obtain⟨v2,r2,o2,L2,b2,z2⟩:=id hW1;have j9:x 9=_:=(hJ1.out 9 (by kernel_rfl));rw [j9]at hK;have q0:=capCell L2 (k:=2*k+1) (by omega);go_simp;exact hK.out _ _ hW1 RegJ.Tell.same rfl
    ·obtain⟨v2,r2,o2,L2,b2,z2⟩:=id hW1;have j4:x 4=_:=(hJ1.out 4 (by kernel_rfl));rw [j4]at hK;have j10:x 10=_:=(hJ1.out 10 (by kernel_rfl));rw [j10]at hK;go_simp;refine(Hop.specNewHop _ _ _).mono ?_;rw [hnew];rintro e wa ⟨rfl,ba⟩;go_simp;exact hK.out _ _ ⟨v2.later ba,r2.later ba,o2.later ba,L2.later ba,b2.trans (ba.mono b2.size),Nat.le_trans z2 ba.size⟩ (RegJ.Tell.keepLe (Draw.Kept.ofBelow (c:=0) ba (Nat.le_refl _)) (by omega)) rfl
    ·have j11:x 11=_:=(hJ1.out 11 (by kernel_rfl));rw [j11]at hK;go_simp;exact hK.out _ _ hW1 RegJ.Tell.same rfl
    ·have j12:x 12=_:=(hJ1.out 12 (by kernel_rfl));rw [j12]at hK;go_simp;exact hK.out _ _ hW1 RegJ.Tell.same rfl
    ·have j12:x 12=_:=(hJ1.out 12 (by kernel_rfl));rw [j12]at hK;go_simp;exact hK.out _ _ hW1 RegJ.Tell.same rfl
    ·obtain⟨v2,r2,o2,L2,b2,z2⟩:=id hW1;go_simp;exact hK.out _ _ ⟨v2.alloc _,r2.alloc _,o2.alloc _,L2.alloc _,b2.alloc b2.size _,by simp;omega⟩ (RegJ.Tell.keepLe (c':=0) ((Draw.Kept.refl _ _).alloc _) (by omega)) ⟨w1.heap.size,(by omega),rfl,fun _=>Var.new _ _,fun hd=>absurd hd (by simp [(hx1.out 16 (.inr (by kernel_rfl))).1])⟩
    ·obtain⟨v2,r2,o2,L2,b2,z2⟩:=id hW1;obtain⟨m,hm,j15,h0,-⟩:=(hJ1.out 15 (by kernel_rfl));have j13:x 13=_:=(hJ1.out 13 (by kernel_rfl));have vm:=h0 (hx1.out 16 (.inl rfl)).1;refine step_store_win (by rfl) _ _ (by rfl) (vs:=Hop.hopC p q r) (by exact j15) (by exact j13) infoHop1 vm.win rfl (fun v hv=>H0one p q r v hv) ?_;intro wa va ka;exact hK.out _ _ ⟨v2.kept ka (by omega),r2.kept ka (by omega),o2.kept ka (fun y hy=>by have:=hoB y hy;omega),L2.kept ka (fun y hy=>by have:=Lne y hy;omega),b2.trans (ka.below (by omega) b2.size),Nat.le_trans z2 ka.size⟩ (RegJ.Tell.gave 15 rfl rfl ka j15 vm va.whole rfl hm) trivial
    ·have j14:x 14=_:=(hJ1.out 14 (by kernel_rfl));rw [j14]at hK;go_simp;exact hK.out _ _ hW1 RegJ.Tell.same rfl
   clear v1 r1 o1 h1 b1 w0 w1' e0 e1 j0 j1 j2 j3
   obtain⟨v1,r1,o1,h1,b1,z1⟩:=hWR
   obtain⟨m,hm,j15,-,hv⟩:=hJR 15 (by simp)
   obtain⟨vs,rfl,vm⟩:=hv (hdR 16 (by simp))
   have j17:xR 17=.bool s:=hJR 17 (by simp)
   rw [j15,j17]
   clear hJR hdR hv j15 j17
   cases hs:s
   ·subst hs
    have x0:=r1.cell (i:=0) rfl
    have x1:=r1.cell (i:=1) rfl
    have y0:=r1.free 0
    have y1:=r1.free 1
    have bb:Below w.heap.size w ((wR.setCell ⟨w.heap.size,0,none⟩ (.slice none 0 0)).setCell ⟨w.heap.size,1,none⟩ (.slice none 0 0)):=(b1.setCell (by dsimp only;omega) _).setCell (by dsimp only;omega) _
    have hno:capsB l n=false:=by
     unfold Hop.newH at hnew
     cases ha:Tak.capB (capAt l (2*k))
     ·exact caps_no (k:=2*k) (by omega) ha
     cases hb:Tak.capB (capAt l (2*k+1))
     ·exact caps_no (k:=2*k+1) (by omega) hb
     rw [ha,hb]at hnew
     simp at hnew
    go_wp2_with fail
    refine bodyPost_ret (v:=.tuple #[.agg #[.slice none 0 0,.slice none 0 0],.bool false]) (by rw [Tak.res_cell_tmp rfl];go_simp) rfl ⟨bb,.inl ⟨hno,rfl⟩⟩
   ·subst hs
    obtain⟨ha,hb,rfl,rfl,rfl⟩:Tak.capB (capAt l (2*k))=true∧Tak.capB (capAt l (2*k+1))=true∧p=capAt l (2*k)∧q=capAt l (2*k+1)∧r= -1:=by
     unfold Hop.newH at hnew
     cases ha:Tak.capB (capAt l (2*k)) <;>cases hb:Tak.capB (capAt l (2*k+1)) <;>rw [ha,hb]at hnew <;>simp at hnew
     exact⟨rfl,rfl,hnew.1.symm,hnew.2.1.symm,hnew.2.2.symm⟩
    have x0:=v1.cell (i:=0) rfl
    have e0:=vm.cell (i:=0) rfl;have e1:=vm.cell (i:=1) rfl;have e2:=vm.cell (i:=2) rfl;have e3:=vm.cell (i:=3) rfl;have e4:=vm.cell (i:=4) rfl;have e5:=vm.cell (i:=5) rfl;have e6:=vm.cell (i:=6) rfl;have e7:=vm.cell (i:=7) rfl;have e8:=vm.cell (i:=8) rfl;have e9:=vm.cell (i:=9) rfl;have e10:=vm.cell (i:=10) rfl;have e11:=vm.cell (i:=11) rfl;have e12:=vm.cell (i:=12) rfl
    have A1:=o1.alloc (.cells #[.int .i64 0,.string ⟨#[]⟩,.int .i64 (capAt l (2*k)),.int .i64 0,.bool false,.bool false,.int .i64 0,.string ⟨#[]⟩,.slice none 0 0,.int .i64 (capAt l (2*k+1)),.int .i64 (-1),.bool false,.slice none 0 0] 47)
    have A2:=v1.alloc (.cells #[.int .i64 0,.string ⟨#[]⟩,.int .i64 (capAt l (2*k)),.int .i64 0,.bool false,.bool false,.int .i64 0,.string ⟨#[]⟩,.slice none 0 0,.int .i64 (capAt l (2*k+1)),.int .i64 (-1),.bool false,.slice none 0 0] 47)
    have A3:=r1.alloc (.cells #[.int .i64 0,.string ⟨#[]⟩,.int .i64 (capAt l (2*k)),.int .i64 0,.bool false,.bool false,.int .i64 0,.string ⟨#[]⟩,.slice none 0 0,.int .i64 (capAt l (2*k+1)),.int .i64 (-1),.bool false,.slice none 0 0] 47)
    have A4:=b1.alloc b1.size (.cells #[.int .i64 0,.string ⟨#[]⟩,.int .i64 (capAt l (2*k)),.int .i64 0,.bool false,.bool false,.int .i64 0,.string ⟨#[]⟩,.slice none 0 0,.int .i64 (capAt l (2*k+1)),.int .i64 (-1),.bool false,.slice none 0 0] 47)
    have A5:H0.Lies (wR.alloc (.cells #[.int .i64 0,.string ⟨#[]⟩,.int .i64 (capAt l (2*k)),.int .i64 0,.bool false,.bool false,.int .i64 0,.string ⟨#[]⟩,.slice none 0 0,.int .i64 (capAt l (2*k+1)),.int .i64 (-1),.bool false,.slice none 0 0] 47)) (some ⟨wR.heap.size,0,none⟩) [(capAt l (2*k),capAt l (2*k+1))]:=El.lies_new rfl
    have A6:w.heap.size≤(wR.alloc (.cells #[.int .i64 0,.string ⟨#[]⟩,.int .i64 (capAt l (2*k)),.int .i64 0,.bool false,.bool false,.int .i64 0,.string ⟨#[]⟩,.slice none 0 0,.int .i64 (capAt l (2*k+1)),.int .i64 (-1),.bool false,.slice none 0 0] 47)).heap.size:=A4.size
    go_wp2_with (at_builtin;refine wpList_app typ0 (by decide) (by rfl) _ _ (by rfl) w.heap.size ao c k (newHs l k) _ (newHs_len l k).symm (by rfl) A1 A6 (some ⟨wR.heap.size,0,none⟩) 1 1 rfl (by rfl) A5 (fun e=>by cases e) (by rw [newHs_len];simp;omega) ?_;intro a6 c6 w6 o6 gr6;refine Tak.stand ?_)
    have V6:=A2.grown gr6 (fun g hg=>by cases hao:ao with|none=>rw [hao]at hg;cases hg|some y=>(rw [hao]at hg;cases hg;have:=hoB y hao;have:=(A1.lt y hao).1;exact fun e=>own_neL v1 o1 y hao e.symm))
    have R6:=A3.grown gr6 (fun g hg=>by cases hao:ao with|none=>rw [hao]at hg;cases hg|some y=>(rw [hao]at hg;cases hg;exact fun e=>own_neL r1 o1 y hao e.symm))
    have B6:=grown_below A4 (by omega) (fun g hg=>by cases hao:ao with|none=>rw [hao]at hg;cases hg|some y=>(rw [hao]at hg;cases hg;exact(o1.lt y hao).1)) gr6
    rw [←newHs_step]at o6
    clear A1 A2 A3 A4 A5 A6 gr6 x0 e0 e1 e2 e3 e4 e5 e6 e7 e8 e9 e10 e11 e12
    show wpList _ _ _ _ _ _
    have x0:=V6.cell (i:=0) rfl
    have y0:=V6.free 0
    go_wp2_with fail
    have V7:=V6.set 0 (.slice a6 (k+1) c6)
    have R7:=R6.other (p:=⟨w.heap.size+1,0,none⟩) (by simp) (.slice a6 (k+1) c6)
    have O7:=o6.setCell (p:=⟨w.heap.size+1,0,none⟩) (fun y hy=>own_neL V6 o6 y hy) (.slice a6 (k+1) c6)
    have B7:=B6.setCell (p:=⟨w.heap.size+1,0,none⟩) (by dsimp only;omega) (.slice a6 (k+1) c6)
    have hcs': ∀j,j<2*(k+1)→Tak.capB (capAt l j)=true:=fun j hj=>by
     rcases Nat.lt_or_ge j (2*k)with h'|h'
     ·exact hcs.out j h'
     ·rcases(show j=2*k∨j=2*k+1 by omega)with rfl|rfl
      ·exact ha
      ·exact hb
    go_roundw
    case rel=>exact⟨k+1,c6,a6,by omega,by simp,V7,R7,O7,hcs',B7⟩
    case measure=>simp [intOf];omega
  ·have hk33:(k:Int)=3:=by omega
   rw [hk33]
   obtain rfl:k=3:=by omega
   clear hk33
   obtain⟨g,rfl⟩: ∃g,ao=some ⟨g,0,none⟩:=by
    rcases o1.form with⟨_,_,h0⟩|⟨g,h0,_⟩
    ·have:=congrArg List.length h0
     rw [newHs_len]at this
     simp at this
    ·exact⟨g,h0⟩
   have hyes:=caps_yes h6 hn (fun j hj=>hcs.out j hj)
   obtain⟨N,rfl⟩: ∃N:Nat,n=(N:Int):=⟨n.toNat,by omega⟩
   clear hcs hin
   go_wp2_with fail
   go_loopw [10] (fun iv wr=> ∃(k c':Nat) (ao:Option Addr),k≤N∧iv=.int .i64 (1+(k:Int))∧Var 27 wr (w.heap.size+1) [.slice (some ⟨g,0,none⟩) 3 c,.slice ao k c']∧Var 27 wr w.heap.size [.slice none 0 0,.slice none 0 0]∧H0.Own 47 wr w.heap.size (some ⟨g,0,none⟩) c (newHs l 3)∧Roa.E.Own 95 wr w.heap.size ao c' (newRs k)∧Below w.heap.size w wr) (fun iv _=>N+1-(intOf iv).toNat)
   case atStart=>exact⟨0,0,none,by omega,rfl,v1,r1,o1,El.Own.none _ _,b1⟩
   case round=>
    clear v1 r1 o1 b1
    obtain⟨k,c',ao,hk,rfl,v1,r1,o1,q1,b1⟩:=hrel
    by_cases hkN:k<N
    ·have i0:(1:Int)+(k:Int)≤(N:Int):=by omega
     have x0:=v1.cell (i:=1) rfl
     have A0:=o1.alloc (.cells #[.bool true,.int .i64 (1+(k:Int)),.int .i64 0,.int .i64 0] 95)
     have A1:=q1.alloc (.cells #[.bool true,.int .i64 (1+(k:Int)),.int .i64 0,.int .i64 0] 95)
     have A2:=v1.alloc (.cells #[.bool true,.int .i64 (1+(k:Int)),.int .i64 0,.int .i64 0] 95)
     have A3:=r1.alloc (.cells #[.bool true,.int .i64 (1+(k:Int)),.int .i64 0,.int .i64 0] 95)
     have A4:=b1.alloc b1.size (.cells #[.bool true,.int .i64 (1+(k:Int)),.int .i64 0,.int .i64 0] 95)
     have A5:Roa.E.Lies (wr.alloc (.cells #[.bool true,.int .i64 (1+(k:Int)),.int .i64 0,.int .i64 0] 95)) (some ⟨wr.heap.size,0,none⟩) [⟨true,1+(k:Int),0,0⟩]:=El.lies_new rfl
     have A6:w.heap.size≤(wr.alloc (.cells #[.bool true,.int .i64 (1+(k:Int)),.int .i64 0,.int .i64 0] 95)).heap.size:=A4.size
     go_wp2_with (at_builtin;refine wpList_app Roa.ty (by decide) (by rfl) _ _ (by rfl) w.heap.size ao c' k (newRs k) _ (newRs_len k).symm (by rfl) A1 A6 (some ⟨wr.heap.size,0,none⟩) 1 1 rfl (by rfl) A5 (fun e=>by cases e) (by rw [newRs_len];simp;omega) ?_;intro a6 c6 w6 o6 gr6;refine Tak.stand ?_)
     have V6:=A2.grown gr6 (fun g hg=>by cases hao:ao with|none=>rw [hao]at hg;cases hg|some y=>(rw [hao]at hg;cases hg;exact fun e=>own_neR v1 q1 y hao e.symm))
     have R6:=A3.grown gr6 (fun g hg=>by cases hao:ao with|none=>rw [hao]at hg;cases hg|some y=>(rw [hao]at hg;cases hg;exact fun e=>own_neR r1 q1 y hao e.symm))
     have O6:=A0.grown gr6 (fun x hx=>by cases hao:ao with|none=>(intro e;cases e)|some y=>(cases hx;intro e;simp only [blk,Option.map_some,Option.some.injEq]at e;exact own_HR o1 q1 hao e))
     have B6:=grown_below A4 (by omega) (fun g hg=>by cases hao:ao with|none=>rw [hao]at hg;cases hg|some y=>(rw [hao]at hg;cases hg;exact(q1.lt y hao).1)) gr6
     rw [show(1:Int)+(k:Int)=(k:Int)+1 by omega,←newRs_step]at o6
     clear A0 A1 A2 A3 A4 A5 A6 gr6 x0
     show wpList _ _ _ _ _ _
     have x0:=V6.cell (i:=1) rfl
     have y0:=V6.free 1
     go_wp2_with fail
     have V7:=V6.set 1 (.slice a6 (k+1) c6)
     have R7:=R6.other (p:=⟨w.heap.size+1,1,none⟩) (by simp) (.slice a6 (k+1) c6)
     have O7:=O6.setCell (p:=⟨w.heap.size+1,1,none⟩) (fun y hy=>own_neL V6 O6 y hy) (.slice a6 (k+1) c6)
     have Q7:=o6.setCell (p:=⟨w.heap.size+1,1,none⟩) (fun y hy=>own_neR V6 o6 y hy) (.slice a6 (k+1) c6)
     have B7:=B6.setCell (p:=⟨w.heap.size+1,1,none⟩) (by dsimp only;omega) (.slice a6 (k+1) c6)
     go_roundw
     case rel=>exact⟨k+1,c6,a6,by omega,by simp;omega,V7,R7,O7,Q7,B7⟩
     case measure=>simp [intOf];omega
    ·obtain rfl:k=N:=by omega
     obtain⟨g',rfl⟩: ∃g,ao=some ⟨g,0,none⟩:=by
      rcases q1.form with⟨_,_,h0⟩|⟨g,h0,_⟩
      ·have:=congrArg List.length h0
       rw [newRs_len]at this
       simp at this
       omega
      ·exact⟨g,h0⟩
     have x0:=v1.cell (i:=0) rfl
     have x1:=v1.cell (i:=1) rfl
     have z0:=r1.cell (i:=0) rfl
     have z1:=r1.cell (i:=1) rfl
     have y0:=r1.free 0
     have y1:=r1.free 1
     have O7:=(o1.setCell (p:=⟨w.heap.size,0,none⟩) (fun y hy=>own_neL r1 o1 y hy) (.slice (some ⟨g,0,none⟩) 3 c)).setCell (p:=⟨w.heap.size,1,none⟩) (fun y hy=>own_neL r1 o1 y hy) (.slice (some ⟨g',0,none⟩) k c')
     have Q7:=(q1.setCell (p:=⟨w.heap.size,0,none⟩) (fun y hy=>own_neR r1 q1 y hy) (.slice (some ⟨g,0,none⟩) 3 c)).setCell (p:=⟨w.heap.size,1,none⟩) (fun y hy=>own_neR r1 q1 y hy) (.slice (some ⟨g',0,none⟩) k c')
     have B7:=(b1.setCell (p:=⟨w.heap.size,0,none⟩) (by dsimp only;omega) (.slice (some ⟨g,0,none⟩) 3 c)).setCell (p:=⟨w.heap.size,1,none⟩) (by dsimp only;omega) (.slice (some ⟨g',0,none⟩) k c')
     go_wp2_with fail
     refine bodyPost_ret (v:=.tuple #[.agg #[.slice (some ⟨g,0,none⟩) 3 c,.slice (some ⟨g',0,none⟩) k c'],.bool true]) (by rw [Tak.res_cell_tmp rfl];go_simp) rfl ⟨B7,.inr ⟨hyes,g,c,g',c',rfl,O7,Q7⟩⟩
end Go.Proofs.YtfejobjgbadfjaaGreat.Lin
