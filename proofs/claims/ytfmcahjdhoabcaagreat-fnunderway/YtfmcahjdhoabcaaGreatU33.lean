/- Contracts of this seat's functions, and their mathematics (LawV Shape LawG HopA). -/
import Derived.Test.YtfmcahjdhoabcaaGreatU17
import Derived.Test.YtfmcahjdhoabcaaGreatRows
import Derived.Deep.Slices
import Derived.ChangeArms
import Derived.WideShapes
import Derived.Test.YtfmcahjdhoabcaaGreatU3
import Derived.Test.YtfmcahjdhoabcaaGreatU21
set_option linter.unusedVariables false
set_option linter.unusedSimpArgs false
set_option maxRecDepth 10000
set_option maxHeartbeats 4000000
namespace Go.Proofs.YtfmcahjdhoabcaaGreat.Tak
open Go.RowKit RowG
end Go.Proofs.YtfmcahjdhoabcaaGreat.Tak
namespace Go.Proofs.YtfmcahjdhoabcaaGreat.Shp
open Go.ChangeShapes Go.WideShapes Go.Deep
mutual
inductive Shape where
 | int (k:IntKind)|str|bool|struct (fs:Shapes)|slice (e:Shape)
inductive Shapes where
 | nil|cons (s:Shape) (r:Shapes)
end
mutual
def Shape.size:Shape→Nat
 | .struct fs=>fs.size
 | .int _=>1
 | .str=>1
 | .bool=>1
 | .slice _=>1
def Shapes.size:Shapes→Nat
 | .nil=>0
 | .cons s r=>s.size+r.size
end
mutual
def Shape.Holds (w:World):Shape→List Value→Prop
 | .int k,cs=> ∃n,cs=[.int k n]∧(Lit.int k n).wf=true
 | .str,cs=> ∃s:ByteArray,cs=[.string s]∧s.size≤maxLen
 | .bool,cs=> ∃b,cs=[.bool b]
 | .struct fs,cs=>fs.Holds w cs
 | .slice e,cs=>cs=[.slice none 0 0]∨ ∃(a:Addr) (len cap:Nat),cs=[.slice (some a) len cap]∧len≤cap∧cap≤maxLen∧ ∀i,i<len→ ∃cs':List Value,cs'.length=e.size∧(∀j u,cs'[j]? =some u→w.cell? (a.add (i*e.size+j))=some u)∧e.Holds w cs'
def Shapes.Holds (w:World):Shapes→List Value→Prop
 | .nil,cs=>cs=[]
 | .cons s r,cs=> ∃c1 c2,cs=c1++c2∧s.Holds w c1∧r.Holds w c2
end
mutual
def Shape.fits (P:Program):Shape→TypeId→Bool
 | .int k,t=>match P.underlying t with|some (.int k')=>k==k'|_=>false
 | .str,t=>match P.underlying t with|some .string=>true|_=>false
 | .bool,t=>match P.underlying t with|some .bool=>true|_=>false
 | .struct fs,t=>match P.underlying t with|some (.struct arr)=>fs.fits P arr.toList 0&&P.cellsOf t==fs.size|_=>false
 | .slice e,t=>match P.underlying t with|some (.slice u)=>e.fits P u&&P.cellsOf u==e.size|_=>false
def Shapes.fits (P:Program):Shapes→List Field→Nat→Bool
 | .nil,[],_=>true
 | .cons s r,f::fs,o=>f.offset==o&&(P.cellsOf f.type==s.size&&(s.fits P f.type&&r.fits P fs (o+s.size)))
 | _,_,_=>false
end
section
variable {H:Type} {enc:TypeId×Value→H} {P:Program} {w:World} {base:Nat} {spare:Nat→Bool} {held:Bool}
mutual
theorem Shape.reads: ∀(sh:Shape) {t:TypeId} {fuel:Nat} {cs:List Value} {x:DataW H×List MemPlace},sh.fits P t=true→DataW.trod enc P w base spare held fuel t cs=some x→sh.Holds w cs∧cs.length=sh.size
 | .int k,t,fuel,cs,x,hf,h=>by
  unfold Shape.fits at hf
  split at hf
  ·rename_i k' hu
   have e:k=k':=by simpa using hf
   subst e
   obtain⟨n,rfl,_,hw⟩:=DataW.trod_int hu h
   exact⟨⟨n,rfl,hw⟩,rfl⟩
  ·cases hf
 | .str,t,fuel,cs,x,hf,h=>by
  unfold Shape.fits at hf
  split at hf
  ·rename_i hu
   obtain⟨s,rfl,_,hw⟩:=DataW.trod_string hu h
   exact⟨⟨s,rfl,hw⟩,rfl⟩
  ·cases hf
 | .bool,t,fuel,cs,x,hf,h=>by
  unfold Shape.fits at hf
  split at hf
  ·rename_i hu
   obtain⟨b,rfl,_⟩:=DataW.trod_bool hu h
   exact⟨⟨b,rfl⟩,rfl⟩
  ·cases hf
 | .struct fs,t,fuel,cs,x,hf,h=>by
  unfold Shape.fits at hf
  split at hf
  ·rename_i arr hu
   rw [Bool.and_eq_true,beq_iff_eq]at hf
   obtain⟨xs,n,_,_,hl,hxl,hp⟩:=DataW.trod_struct hu h
   have hg:=Shapes.reads fs (l:=arr.toList) (o:=0) (n:=n) (cs:=cs) hf.1 (by rw [hl,hf.2];omega) (fun i f hi=>by
    have:=hp i f (by simpa using hi)
    have hx:i<xs.length:=by
     have:i<arr.toList.length:=(List.getElem?_eq_some_iff.1 hi).1
     rw [hxl];simpa using this
    rw [List.getElem?_eq_getElem hx]at this
    exact⟨_,this⟩)
   refine⟨?_,by rw [hl,hf.2];rfl⟩
   have e:(cs.drop 0).take fs.size=cs:=by rw [List.drop_zero];exact List.take_of_length_le (by rw [hl,hf.2];exact Nat.le_refl _)
   rw [e]at hg
   exact hg
  ·cases hf
 | .slice e,t,fuel,cs,x,hf,h=>by
  unfold Shape.fits at hf
  split at hf
  ·rename_i u hu
   rw [Bool.and_eq_true,beq_iff_eq]at hf
   rcases open_slice hu h with⟨rfl,_⟩|⟨a,len,cap,m,n,D,Pl,rfl,_,hl,hm,hmm,_,hx⟩
   ·exact⟨.inl rfl,rfl⟩
   ·refine⟨.inr ⟨a,len,cap,rfl,hl,hm,fun i hi=>?_⟩,rfl⟩
    obtain⟨cs',h1,h2⟩:=hx i (by rw [hmm];split <;>omega)
    rw [hf.2]at h1
    obtain⟨_,hlen,hcell⟩:=World.cells?_some h1
    refine⟨cs',hlen,fun j v hj=>?_,(Shape.reads e hf.1 h2).1⟩
    have hjl:j<cs'.length:=(List.getElem?_eq_some_iff.1 hj).1
    have:=hcell j (by omega)
    rw [add_add]at this
    rw [this,hj]
  ·cases hf
theorem Shapes.reads: ∀(sh:Shapes) {l:List Field} {o n:Nat} {cs:List Value},sh.fits P l o=true→o+sh.size≤cs.length→(∀(i:Nat) (f:Field),l[i]? =some f→ ∃x,DataW.trod enc P w base spare held n f.type ((cs.drop f.offset).take (P.cellsOf f.type))=some x)→sh.Holds w ((cs.drop o).take sh.size)
 | .nil,l,o,n,cs,hf,hl,h=>by simp [Shapes.size,Shapes.Holds]
 | .cons s r,[],o,n,cs,hf,hl,h=>by simp [Shapes.fits]at hf
 | .cons s r,f::fs,o,n,cs,hf,hl,h=>by
  simp only [Shapes.fits,Bool.and_eq_true,beq_iff_eq]at hf
  obtain⟨h1,h2,h3,h4⟩:=hf
  simp only [Shapes.size]at hl
  obtain⟨x,hx⟩:=h 0 f rfl
  rw [h1,h2]at hx
  have r1:=Shape.reads s h3 hx
  have r2:=Shapes.reads r (o:=o+s.size) (n:=n) (cs:=cs) h4 (by omega) (fun i g hi=>h (i+1) g (by simpa using hi))
  refine⟨(cs.drop o).take s.size,(cs.drop (o+s.size)).take r.size,?_,r1.1,r2⟩
  rw [Shapes.size,List.take_add,List.drop_drop]
end
end
end Go.Proofs.YtfmcahjdhoabcaaGreat.Shp
namespace Go.Proofs.YtfmcahjdhoabcaaGreat.Giv
open Go.RowKit RowG
end Go.Proofs.YtfmcahjdhoabcaaGreat.Giv
namespace Go.Proofs.YtfmcahjdhoabcaaGreat.Hop
open Go.RowKit RowG
abbrev hopV (cg ct fi:Int):Value:=.agg #[.int .i64 0,.string ⟨#[]⟩,.int .i64 cg,.int .i64 0,.bool false,.bool false,.int .i64 0,.string ⟨#[]⟩,.slice none 0 0,.int .i64 ct,.int .i64 fi,.bool false,.slice none 0 0]
abbrev hopC (cg ct fi:Int):List Value:=[.int .i64 0,.string ⟨#[]⟩,.int .i64 cg,.int .i64 0,.bool false,.bool false,.int .i64 0,.string ⟨#[]⟩,.slice none 0 0,.int .i64 ct,.int .i64 fi,.bool false,.slice none 0 0]
def newH (a b:Int):Int×Int×Int×Bool:=if Tak.capB a&&Tak.capB b then(a,b,-1,true)else(0,0,0,false)
theorem specNewHop (a b:Int)(w:World):
  Calls Tryz.prog 80 #[.int .i64 a,.int .i64 b] w fun x w'=>x=.returned (.tuple #[hopV (newH a b).1 (newH a b).2.1 (newH a b).2.2.1,.bool (newH a b).2.2.2])∧Below w.heap.size w w':=by
 have hG:=fun w'=>Giv.specNewGiver a w'
 have hT:=fun w'=>Tak.specNewTaker b w'
 unfold Giv.newG at hG
 unfold newH
 cases ha:Tak.capB a <;>cases hb:Tak.capB b <;>rw [ha]at hG <;>rw [hb]at hT <;>simp only [Bool.false_eq_true,if_false,if_true,Bool.and_true,Bool.and_false,Bool.true_and,Bool.false_and,Giv.Gv.v,Tak.newT,Tak.zeroT,Giv.zeroG]at hG hT ⊢ <;>clear ha hb
 ·have z0:Var 53 (w.alloc (.cells #[.int .i64 0,.string ⟨#[]⟩,.int .i64 0,.int .i64 0,.bool false,.bool false,.int .i64 0,.string ⟨#[]⟩,.slice none 0 0,.int .i64 0,.int .i64 0,.bool false,.slice none 0 0] 53)) w.heap.size [.int .i64 0,.string ⟨#[]⟩,.int .i64 0,.int .i64 0,.bool false,.bool false,.int .i64 0,.string ⟨#[]⟩,.slice none 0 0,.int .i64 0,.int .i64 0,.bool false,.slice none 0 0]:=Var.new w _
  have b0:Below w.heap.size w (w.alloc (.cells #[.int .i64 0,.string ⟨#[]⟩,.int .i64 0,.int .i64 0,.bool false,.bool false,.int .i64 0,.string ⟨#[]⟩,.slice none 0 0,.int .i64 0,.int .i64 0,.bool false,.slice none 0 0] 53)):=(Below.refl _ _).alloc (Nat.le_refl _) _
  go_enter Tryz.func80,Tryz.ntmps80
  go_upto_region 1 with(fail)
  generalize w.alloc (.cells #[.int .i64 0,.string ⟨#[]⟩,.int .i64 0,.int .i64 0,.bool false,.bool false,.int .i64 0,.string ⟨#[]⟩,.slice none 0 0,.int .i64 0,.int .i64 0,.bool false,.slice none 0 0] 53)=W0 at *
  go_wp2_with fail
  refine(hG _).mono ?_
  rintro x w1 ⟨rfl,b1⟩
  have z1:=(z0.later b1).alloc (.cells #[.int .i64 0,.string ⟨#[]⟩,.int .i64 0,.int .i64 0,.bool false,.bool false] 47)
  have B0:=b0.trans (b1.mono b0.size)
  obtain⟨W1,hW1⟩: ∃z,Hid (z=w1.alloc (.cells #[.int .i64 0,.string ⟨#[]⟩,.int .i64 0,.int .i64 0,.bool false,.bool false] 47)):=⟨_,rfl⟩
  have B1:Below w.heap.size w W1:=by rw [hW1.out];exact B0.alloc B0.size _
  have g1:Var 47 W1 w1.heap.size [.int .i64 0,.string ⟨#[]⟩,.int .i64 0,.int .i64 0,.bool false,.bool false]:=by rw [hW1.out];exact Var.new w1 _
  go_upto_region 2 with(fail)
  have hW1o:=hW1.out
  clear hW1
  subst hW1o
  generalize w1.alloc (.cells #[.int .i64 0,.string ⟨#[]⟩,.int .i64 0,.int .i64 0,.bool false,.bool false] 47)=W1 at *
  generalize w1.heap.size=k1 at *
  go_wp2_with fail
  refine(hT _).mono ?_
  rintro x w2 ⟨rfl,b2⟩
  have z2:=(z1.later b2).alloc (.cells #[.int .i64 0,.string ⟨#[]⟩,.slice none 0 0,.int .i64 0,.int .i64 0,.bool false] 50)
  have g2:=(g1.later b2).alloc (.cells #[.int .i64 0,.string ⟨#[]⟩,.slice none 0 0,.int .i64 0,.int .i64 0,.bool false] 50)
  have B2:=B1.trans (b2.mono B1.size)
  obtain⟨W2,hW2⟩: ∃z,Hid (z=w2.alloc (.cells #[.int .i64 0,.string ⟨#[]⟩,.slice none 0 0,.int .i64 0,.int .i64 0,.bool false] 50)):=⟨_,rfl⟩
  have B3:Below w.heap.size w W2:=by rw [hW2.out];exact B2.alloc B2.size _
  have t2:Var 50 W2 w2.heap.size [.int .i64 0,.string ⟨#[]⟩,.slice none 0 0,.int .i64 0,.int .i64 0,.bool false]:=by rw [hW2.out];exact Var.new w2 _
  go_upto_region 3 with(fail)
  have hW2o:=hW2.out
  clear hW2
  subst hW2o
  generalize w2.alloc (.cells #[.int .i64 0,.string ⟨#[]⟩,.slice none 0 0,.int .i64 0,.int .i64 0,.bool false] 50)=W2 at *
  generalize w2.heap.size=k2 at *
  clear b0 b1 b2 z0 z1 g1 B0 B1 B2 hG hT
  obtain⟨e0,e1,e2,e3,e4,e5⟩:=g2.c6
  obtain⟨f0,f1,f2,f3,f4,f5⟩:=t2.c6
  obtain⟨q0,q1,q2,q3,q4,q5,q6,q7,q8,q9,q10,q11,q12⟩:=z2.c13
  obtain⟨y0,y1,y2,y3,y4,y5,y6,y7,y8,y9,y10,y11,y12⟩:=z2.f13
  go_wp2_with fail
  have zf:Var 53 ((((((((((((((W2.setCell ⟨w.heap.size,0,none⟩ (.int .i64 0)).setCell ⟨w.heap.size,1,none⟩ (.string ⟨#[]⟩)).setCell ⟨w.heap.size,2,none⟩ (.int .i64 0)).setCell ⟨w.heap.size,3,none⟩ (.int .i64 0)).setCell ⟨w.heap.size,4,none⟩ (.bool false)).setCell ⟨w.heap.size,5,none⟩ (.bool false)).setCell ⟨w.heap.size,6,none⟩ (.int .i64 0)).setCell ⟨w.heap.size,7,none⟩ (.string ⟨#[]⟩)).setCell ⟨w.heap.size,8,none⟩ (.slice none 0 0)).setCell ⟨w.heap.size,9,none⟩ (.int .i64 0)).setCell ⟨w.heap.size,10,none⟩ (.int .i64 0)).setCell ⟨w.heap.size,11,none⟩ (.bool false)).setCell ⟨w.heap.size,12,none⟩ (.slice none 0 0))) w.heap.size [.int .i64 0,.string ⟨#[]⟩,.int .i64 0,.int .i64 0,.bool false,.bool false,.int .i64 0,.string ⟨#[]⟩,.slice none 0 0,.int .i64 0,.int .i64 0,.bool false,.slice none 0 0]:=(((((((((((((z2.set 0 _).set 1 _).set 2 _).set 3 _).set 4 _).set 5 _).set 6 _).set 7 _).set 8 _).set 9 _).set 10 _).set 11 _).set 12 _)
  have Bf:Below w.heap.size w ((((((((((((((W2.setCell ⟨w.heap.size,0,none⟩ (.int .i64 0)).setCell ⟨w.heap.size,1,none⟩ (.string ⟨#[]⟩)).setCell ⟨w.heap.size,2,none⟩ (.int .i64 0)).setCell ⟨w.heap.size,3,none⟩ (.int .i64 0)).setCell ⟨w.heap.size,4,none⟩ (.bool false)).setCell ⟨w.heap.size,5,none⟩ (.bool false)).setCell ⟨w.heap.size,6,none⟩ (.int .i64 0)).setCell ⟨w.heap.size,7,none⟩ (.string ⟨#[]⟩)).setCell ⟨w.heap.size,8,none⟩ (.slice none 0 0)).setCell ⟨w.heap.size,9,none⟩ (.int .i64 0)).setCell ⟨w.heap.size,10,none⟩ (.int .i64 0)).setCell ⟨w.heap.size,11,none⟩ (.bool false)).setCell ⟨w.heap.size,12,none⟩ (.slice none 0 0))):=by
   iterate 13 (refine Below.setCell ?_ (by dsimp only;omega) _)
   exact B3
  generalize (((((((((((((W2.setCell ⟨w.heap.size,0,none⟩ (.int .i64 0)).setCell ⟨w.heap.size,1,none⟩ (.string ⟨#[]⟩)).setCell ⟨w.heap.size,2,none⟩ (.int .i64 0)).setCell ⟨w.heap.size,3,none⟩ (.int .i64 0)).setCell ⟨w.heap.size,4,none⟩ (.bool false)).setCell ⟨w.heap.size,5,none⟩ (.bool false)).setCell ⟨w.heap.size,6,none⟩ (.int .i64 0)).setCell ⟨w.heap.size,7,none⟩ (.string ⟨#[]⟩)).setCell ⟨w.heap.size,8,none⟩ (.slice none 0 0)).setCell ⟨w.heap.size,9,none⟩ (.int .i64 0)).setCell ⟨w.heap.size,10,none⟩ (.int .i64 0)).setCell ⟨w.heap.size,11,none⟩ (.bool false)).setCell ⟨w.heap.size,12,none⟩ (.slice none 0 0))=W3 at zf Bf ⊢
  obtain⟨s0,s1,s2,s3,s4,s5,s6,s7,s8,s9,s10,s11,s12⟩:=zf.c13
  refine bodyPost_ret (v:=.tuple #[hopV 0 0 0,.bool false]) (by rw [Tak.res_cell_tmp rfl];clear B3 z2 g2 t2 q0 y0 q1 y1 q2 y2 q3 y3 q4 y4 q5 y5 q6 y6 q7 y7 q8 y8 q9 y9 q10 y10 q11 y11 q12 y12 e0 f0 e1 f1 e2 f2 e3 f3 e4 f4 e5 f5;go_simp;done) rfl ⟨rfl,Bf⟩
 ·have z0:Var 53 (w.alloc (.cells #[.int .i64 0,.string ⟨#[]⟩,.int .i64 0,.int .i64 0,.bool false,.bool false,.int .i64 0,.string ⟨#[]⟩,.slice none 0 0,.int .i64 0,.int .i64 0,.bool false,.slice none 0 0] 53)) w.heap.size [.int .i64 0,.string ⟨#[]⟩,.int .i64 0,.int .i64 0,.bool false,.bool false,.int .i64 0,.string ⟨#[]⟩,.slice none 0 0,.int .i64 0,.int .i64 0,.bool false,.slice none 0 0]:=Var.new w _
  have b0:Below w.heap.size w (w.alloc (.cells #[.int .i64 0,.string ⟨#[]⟩,.int .i64 0,.int .i64 0,.bool false,.bool false,.int .i64 0,.string ⟨#[]⟩,.slice none 0 0,.int .i64 0,.int .i64 0,.bool false,.slice none 0 0] 53)):=(Below.refl _ _).alloc (Nat.le_refl _) _
  go_enter Tryz.func80,Tryz.ntmps80
  go_upto_region 1 with(fail)
  generalize w.alloc (.cells #[.int .i64 0,.string ⟨#[]⟩,.int .i64 0,.int .i64 0,.bool false,.bool false,.int .i64 0,.string ⟨#[]⟩,.slice none 0 0,.int .i64 0,.int .i64 0,.bool false,.slice none 0 0] 53)=W0 at *
  go_wp2_with fail
  refine(hG _).mono ?_
  rintro x w1 ⟨rfl,b1⟩
  have z1:=(z0.later b1).alloc (.cells #[.int .i64 0,.string ⟨#[]⟩,.int .i64 0,.int .i64 0,.bool false,.bool false] 47)
  have B0:=b0.trans (b1.mono b0.size)
  obtain⟨W1,hW1⟩: ∃z,Hid (z=w1.alloc (.cells #[.int .i64 0,.string ⟨#[]⟩,.int .i64 0,.int .i64 0,.bool false,.bool false] 47)):=⟨_,rfl⟩
  have B1:Below w.heap.size w W1:=by rw [hW1.out];exact B0.alloc B0.size _
  have g1:Var 47 W1 w1.heap.size [.int .i64 0,.string ⟨#[]⟩,.int .i64 0,.int .i64 0,.bool false,.bool false]:=by rw [hW1.out];exact Var.new w1 _
  go_upto_region 2 with(fail)
  have hW1o:=hW1.out
  clear hW1
  subst hW1o
  generalize w1.alloc (.cells #[.int .i64 0,.string ⟨#[]⟩,.int .i64 0,.int .i64 0,.bool false,.bool false] 47)=W1 at *
  generalize w1.heap.size=k1 at *
  go_wp2_with fail
  refine(hT _).mono ?_
  rintro x w2 ⟨rfl,b2⟩
  have z2:=(z1.later b2).alloc (.cells #[.int .i64 0,.string ⟨#[]⟩,.slice none 0 0,.int .i64 b,.int .i64 (-1),.bool false] 50)
  have g2:=(g1.later b2).alloc (.cells #[.int .i64 0,.string ⟨#[]⟩,.slice none 0 0,.int .i64 b,.int .i64 (-1),.bool false] 50)
  have B2:=B1.trans (b2.mono B1.size)
  obtain⟨W2,hW2⟩: ∃z,Hid (z=w2.alloc (.cells #[.int .i64 0,.string ⟨#[]⟩,.slice none 0 0,.int .i64 b,.int .i64 (-1),.bool false] 50)):=⟨_,rfl⟩
  have B3:Below w.heap.size w W2:=by rw [hW2.out];exact B2.alloc B2.size _
  have t2:Var 50 W2 w2.heap.size [.int .i64 0,.string ⟨#[]⟩,.slice none 0 0,.int .i64 b,.int .i64 (-1),.bool false]:=by rw [hW2.out];exact Var.new w2 _
  go_upto_region 3 with(fail)
  have hW2o:=hW2.out
  clear hW2
  subst hW2o
  generalize w2.alloc (.cells #[.int .i64 0,.string ⟨#[]⟩,.slice none 0 0,.int .i64 b,.int .i64 (-1),.bool false] 50)=W2 at *
  generalize w2.heap.size=k2 at *
  clear b0 b1 b2 z0 z1 g1 B0 B1 B2 hG hT
  obtain⟨e0,e1,e2,e3,e4,e5⟩:=g2.c6
  obtain⟨f0,f1,f2,f3,f4,f5⟩:=t2.c6
  obtain⟨q0,q1,q2,q3,q4,q5,q6,q7,q8,q9,q10,q11,q12⟩:=z2.c13
  obtain⟨y0,y1,y2,y3,y4,y5,y6,y7,y8,y9,y10,y11,y12⟩:=z2.f13
  go_wp2_with fail
  have zf:Var 53 ((((((((((((((W2.setCell ⟨w.heap.size,0,none⟩ (.int .i64 0)).setCell ⟨w.heap.size,1,none⟩ (.string ⟨#[]⟩)).setCell ⟨w.heap.size,2,none⟩ (.int .i64 0)).setCell ⟨w.heap.size,3,none⟩ (.int .i64 0)).setCell ⟨w.heap.size,4,none⟩ (.bool false)).setCell ⟨w.heap.size,5,none⟩ (.bool false)).setCell ⟨w.heap.size,6,none⟩ (.int .i64 0)).setCell ⟨w.heap.size,7,none⟩ (.string ⟨#[]⟩)).setCell ⟨w.heap.size,8,none⟩ (.slice none 0 0)).setCell ⟨w.heap.size,9,none⟩ (.int .i64 0)).setCell ⟨w.heap.size,10,none⟩ (.int .i64 0)).setCell ⟨w.heap.size,11,none⟩ (.bool false)).setCell ⟨w.heap.size,12,none⟩ (.slice none 0 0))) w.heap.size [.int .i64 0,.string ⟨#[]⟩,.int .i64 0,.int .i64 0,.bool false,.bool false,.int .i64 0,.string ⟨#[]⟩,.slice none 0 0,.int .i64 0,.int .i64 0,.bool false,.slice none 0 0]:=(((((((((((((z2.set 0 _).set 1 _).set 2 _).set 3 _).set 4 _).set 5 _).set 6 _).set 7 _).set 8 _).set 9 _).set 10 _).set 11 _).set 12 _)
  have Bf:Below w.heap.size w ((((((((((((((W2.setCell ⟨w.heap.size,0,none⟩ (.int .i64 0)).setCell ⟨w.heap.size,1,none⟩ (.string ⟨#[]⟩)).setCell ⟨w.heap.size,2,none⟩ (.int .i64 0)).setCell ⟨w.heap.size,3,none⟩ (.int .i64 0)).setCell ⟨w.heap.size,4,none⟩ (.bool false)).setCell ⟨w.heap.size,5,none⟩ (.bool false)).setCell ⟨w.heap.size,6,none⟩ (.int .i64 0)).setCell ⟨w.heap.size,7,none⟩ (.string ⟨#[]⟩)).setCell ⟨w.heap.size,8,none⟩ (.slice none 0 0)).setCell ⟨w.heap.size,9,none⟩ (.int .i64 0)).setCell ⟨w.heap.size,10,none⟩ (.int .i64 0)).setCell ⟨w.heap.size,11,none⟩ (.bool false)).setCell ⟨w.heap.size,12,none⟩ (.slice none 0 0))):=by
   iterate 13 (refine Below.setCell ?_ (by dsimp only;omega) _)
   exact B3
  generalize (((((((((((((W2.setCell ⟨w.heap.size,0,none⟩ (.int .i64 0)).setCell ⟨w.heap.size,1,none⟩ (.string ⟨#[]⟩)).setCell ⟨w.heap.size,2,none⟩ (.int .i64 0)).setCell ⟨w.heap.size,3,none⟩ (.int .i64 0)).setCell ⟨w.heap.size,4,none⟩ (.bool false)).setCell ⟨w.heap.size,5,none⟩ (.bool false)).setCell ⟨w.heap.size,6,none⟩ (.int .i64 0)).setCell ⟨w.heap.size,7,none⟩ (.string ⟨#[]⟩)).setCell ⟨w.heap.size,8,none⟩ (.slice none 0 0)).setCell ⟨w.heap.size,9,none⟩ (.int .i64 0)).setCell ⟨w.heap.size,10,none⟩ (.int .i64 0)).setCell ⟨w.heap.size,11,none⟩ (.bool false)).setCell ⟨w.heap.size,12,none⟩ (.slice none 0 0))=W3 at zf Bf ⊢
  obtain⟨s0,s1,s2,s3,s4,s5,s6,s7,s8,s9,s10,s11,s12⟩:=zf.c13
  refine bodyPost_ret (v:=.tuple #[hopV 0 0 0,.bool false]) (by rw [Tak.res_cell_tmp rfl];clear B3 z2 g2 t2 q0 y0 q1 y1 q2 y2 q3 y3 q4 y4 q5 y5 q6 y6 q7 y7 q8 y8 q9 y9 q10 y10 q11 y11 q12 y12 e0 f0 e1 f1 e2 f2 e3 f3 e4 f4 e5 f5;go_simp;done) rfl ⟨rfl,Bf⟩
 ·have z0:Var 53 (w.alloc (.cells #[.int .i64 0,.string ⟨#[]⟩,.int .i64 0,.int .i64 0,.bool false,.bool false,.int .i64 0,.string ⟨#[]⟩,.slice none 0 0,.int .i64 0,.int .i64 0,.bool false,.slice none 0 0] 53)) w.heap.size [.int .i64 0,.string ⟨#[]⟩,.int .i64 0,.int .i64 0,.bool false,.bool false,.int .i64 0,.string ⟨#[]⟩,.slice none 0 0,.int .i64 0,.int .i64 0,.bool false,.slice none 0 0]:=Var.new w _
  have b0:Below w.heap.size w (w.alloc (.cells #[.int .i64 0,.string ⟨#[]⟩,.int .i64 0,.int .i64 0,.bool false,.bool false,.int .i64 0,.string ⟨#[]⟩,.slice none 0 0,.int .i64 0,.int .i64 0,.bool false,.slice none 0 0] 53)):=(Below.refl _ _).alloc (Nat.le_refl _) _
  go_enter Tryz.func80,Tryz.ntmps80
  go_upto_region 1 with(fail)
  generalize w.alloc (.cells #[.int .i64 0,.string ⟨#[]⟩,.int .i64 0,.int .i64 0,.bool false,.bool false,.int .i64 0,.string ⟨#[]⟩,.slice none 0 0,.int .i64 0,.int .i64 0,.bool false,.slice none 0 0] 53)=W0 at *
  go_wp2_with fail
  refine(hG _).mono ?_
  rintro x w1 ⟨rfl,b1⟩
  have z1:=(z0.later b1).alloc (.cells #[.int .i64 0,.string ⟨#[]⟩,.int .i64 a,.int .i64 0,.bool false,.bool false] 47)
  have B0:=b0.trans (b1.mono b0.size)
  obtain⟨W1,hW1⟩: ∃z,Hid (z=w1.alloc (.cells #[.int .i64 0,.string ⟨#[]⟩,.int .i64 a,.int .i64 0,.bool false,.bool false] 47)):=⟨_,rfl⟩
  have B1:Below w.heap.size w W1:=by rw [hW1.out];exact B0.alloc B0.size _
  have g1:Var 47 W1 w1.heap.size [.int .i64 0,.string ⟨#[]⟩,.int .i64 a,.int .i64 0,.bool false,.bool false]:=by rw [hW1.out];exact Var.new w1 _
  go_upto_region 2 with(fail)
  have hW1o:=hW1.out
  clear hW1
  subst hW1o
  generalize w1.alloc (.cells #[.int .i64 0,.string ⟨#[]⟩,.int .i64 a,.int .i64 0,.bool false,.bool false] 47)=W1 at *
  generalize w1.heap.size=k1 at *
  go_wp2_with fail
  refine(hT _).mono ?_
  rintro x w2 ⟨rfl,b2⟩
  have z2:=(z1.later b2).alloc (.cells #[.int .i64 0,.string ⟨#[]⟩,.slice none 0 0,.int .i64 0,.int .i64 0,.bool false] 50)
  have g2:=(g1.later b2).alloc (.cells #[.int .i64 0,.string ⟨#[]⟩,.slice none 0 0,.int .i64 0,.int .i64 0,.bool false] 50)
  have B2:=B1.trans (b2.mono B1.size)
  obtain⟨W2,hW2⟩: ∃z,Hid (z=w2.alloc (.cells #[.int .i64 0,.string ⟨#[]⟩,.slice none 0 0,.int .i64 0,.int .i64 0,.bool false] 50)):=⟨_,rfl⟩
  have B3:Below w.heap.size w W2:=by rw [hW2.out];exact B2.alloc B2.size _
  have t2:Var 50 W2 w2.heap.size [.int .i64 0,.string ⟨#[]⟩,.slice none 0 0,.int .i64 0,.int .i64 0,.bool false]:=by rw [hW2.out];exact Var.new w2 _
  go_upto_region 3 with(fail)
  have hW2o:=hW2.out
  clear hW2
  subst hW2o
  generalize w2.alloc (.cells #[.int .i64 0,.string ⟨#[]⟩,.slice none 0 0,.int .i64 0,.int .i64 0,.bool false] 50)=W2 at *
  generalize w2.heap.size=k2 at *
  clear b0 b1 b2 z0 z1 g1 B0 B1 B2 hG hT
  obtain⟨e0,e1,e2,e3,e4,e5⟩:=g2.c6
  obtain⟨f0,f1,f2,f3,f4,f5⟩:=t2.c6
  obtain⟨q0,q1,q2,q3,q4,q5,q6,q7,q8,q9,q10,q11,q12⟩:=z2.c13
  obtain⟨y0,y1,y2,y3,y4,y5,y6,y7,y8,y9,y10,y11,y12⟩:=z2.f13
  go_wp2_with fail
  have zf:Var 53 ((((((((((((((W2.setCell ⟨w.heap.size,0,none⟩ (.int .i64 0)).setCell ⟨w.heap.size,1,none⟩ (.string ⟨#[]⟩)).setCell ⟨w.heap.size,2,none⟩ (.int .i64 0)).setCell ⟨w.heap.size,3,none⟩ (.int .i64 0)).setCell ⟨w.heap.size,4,none⟩ (.bool false)).setCell ⟨w.heap.size,5,none⟩ (.bool false)).setCell ⟨w.heap.size,6,none⟩ (.int .i64 0)).setCell ⟨w.heap.size,7,none⟩ (.string ⟨#[]⟩)).setCell ⟨w.heap.size,8,none⟩ (.slice none 0 0)).setCell ⟨w.heap.size,9,none⟩ (.int .i64 0)).setCell ⟨w.heap.size,10,none⟩ (.int .i64 0)).setCell ⟨w.heap.size,11,none⟩ (.bool false)).setCell ⟨w.heap.size,12,none⟩ (.slice none 0 0))) w.heap.size [.int .i64 0,.string ⟨#[]⟩,.int .i64 0,.int .i64 0,.bool false,.bool false,.int .i64 0,.string ⟨#[]⟩,.slice none 0 0,.int .i64 0,.int .i64 0,.bool false,.slice none 0 0]:=(((((((((((((z2.set 0 _).set 1 _).set 2 _).set 3 _).set 4 _).set 5 _).set 6 _).set 7 _).set 8 _).set 9 _).set 10 _).set 11 _).set 12 _)
  have Bf:Below w.heap.size w ((((((((((((((W2.setCell ⟨w.heap.size,0,none⟩ (.int .i64 0)).setCell ⟨w.heap.size,1,none⟩ (.string ⟨#[]⟩)).setCell ⟨w.heap.size,2,none⟩ (.int .i64 0)).setCell ⟨w.heap.size,3,none⟩ (.int .i64 0)).setCell ⟨w.heap.size,4,none⟩ (.bool false)).setCell ⟨w.heap.size,5,none⟩ (.bool false)).setCell ⟨w.heap.size,6,none⟩ (.int .i64 0)).setCell ⟨w.heap.size,7,none⟩ (.string ⟨#[]⟩)).setCell ⟨w.heap.size,8,none⟩ (.slice none 0 0)).setCell ⟨w.heap.size,9,none⟩ (.int .i64 0)).setCell ⟨w.heap.size,10,none⟩ (.int .i64 0)).setCell ⟨w.heap.size,11,none⟩ (.bool false)).setCell ⟨w.heap.size,12,none⟩ (.slice none 0 0))):=by
   iterate 13 (refine Below.setCell ?_ (by dsimp only;omega) _)
   exact B3
  generalize (((((((((((((W2.setCell ⟨w.heap.size,0,none⟩ (.int .i64 0)).setCell ⟨w.heap.size,1,none⟩ (.string ⟨#[]⟩)).setCell ⟨w.heap.size,2,none⟩ (.int .i64 0)).setCell ⟨w.heap.size,3,none⟩ (.int .i64 0)).setCell ⟨w.heap.size,4,none⟩ (.bool false)).setCell ⟨w.heap.size,5,none⟩ (.bool false)).setCell ⟨w.heap.size,6,none⟩ (.int .i64 0)).setCell ⟨w.heap.size,7,none⟩ (.string ⟨#[]⟩)).setCell ⟨w.heap.size,8,none⟩ (.slice none 0 0)).setCell ⟨w.heap.size,9,none⟩ (.int .i64 0)).setCell ⟨w.heap.size,10,none⟩ (.int .i64 0)).setCell ⟨w.heap.size,11,none⟩ (.bool false)).setCell ⟨w.heap.size,12,none⟩ (.slice none 0 0))=W3 at zf Bf ⊢
  obtain⟨s0,s1,s2,s3,s4,s5,s6,s7,s8,s9,s10,s11,s12⟩:=zf.c13
  refine bodyPost_ret (v:=.tuple #[hopV 0 0 0,.bool false]) (by rw [Tak.res_cell_tmp rfl];clear B3 z2 g2 t2 q0 y0 q1 y1 q2 y2 q3 y3 q4 y4 q5 y5 q6 y6 q7 y7 q8 y8 q9 y9 q10 y10 q11 y11 q12 y12 e0 f0 e1 f1 e2 f2 e3 f3 e4 f4 e5 f5;go_simp;done) rfl ⟨rfl,Bf⟩
 ·have z0:Var 53 (w.alloc (.cells #[.int .i64 0,.string ⟨#[]⟩,.int .i64 0,.int .i64 0,.bool false,.bool false,.int .i64 0,.string ⟨#[]⟩,.slice none 0 0,.int .i64 0,.int .i64 0,.bool false,.slice none 0 0] 53)) w.heap.size [.int .i64 0,.string ⟨#[]⟩,.int .i64 0,.int .i64 0,.bool false,.bool false,.int .i64 0,.string ⟨#[]⟩,.slice none 0 0,.int .i64 0,.int .i64 0,.bool false,.slice none 0 0]:=Var.new w _
  have b0:Below w.heap.size w (w.alloc (.cells #[.int .i64 0,.string ⟨#[]⟩,.int .i64 0,.int .i64 0,.bool false,.bool false,.int .i64 0,.string ⟨#[]⟩,.slice none 0 0,.int .i64 0,.int .i64 0,.bool false,.slice none 0 0] 53)):=(Below.refl _ _).alloc (Nat.le_refl _) _
  go_enter Tryz.func80,Tryz.ntmps80
  go_upto_region 1 with(fail)
  generalize w.alloc (.cells #[.int .i64 0,.string ⟨#[]⟩,.int .i64 0,.int .i64 0,.bool false,.bool false,.int .i64 0,.string ⟨#[]⟩,.slice none 0 0,.int .i64 0,.int .i64 0,.bool false,.slice none 0 0] 53)=W0 at *
  go_wp2_with fail
  refine(hG _).mono ?_
  rintro x w1 ⟨rfl,b1⟩
  have z1:=(z0.later b1).alloc (.cells #[.int .i64 0,.string ⟨#[]⟩,.int .i64 a,.int .i64 0,.bool false,.bool false] 47)
  have B0:=b0.trans (b1.mono b0.size)
  obtain⟨W1,hW1⟩: ∃z,Hid (z=w1.alloc (.cells #[.int .i64 0,.string ⟨#[]⟩,.int .i64 a,.int .i64 0,.bool false,.bool false] 47)):=⟨_,rfl⟩
  have B1:Below w.heap.size w W1:=by rw [hW1.out];exact B0.alloc B0.size _
  have g1:Var 47 W1 w1.heap.size [.int .i64 0,.string ⟨#[]⟩,.int .i64 a,.int .i64 0,.bool false,.bool false]:=by rw [hW1.out];exact Var.new w1 _
  go_upto_region 2 with(fail)
  have hW1o:=hW1.out
  clear hW1
  subst hW1o
  generalize w1.alloc (.cells #[.int .i64 0,.string ⟨#[]⟩,.int .i64 a,.int .i64 0,.bool false,.bool false] 47)=W1 at *
  generalize w1.heap.size=k1 at *
  go_wp2_with fail
  refine(hT _).mono ?_
  rintro x w2 ⟨rfl,b2⟩
  have z2:=(z1.later b2).alloc (.cells #[.int .i64 0,.string ⟨#[]⟩,.slice none 0 0,.int .i64 b,.int .i64 (-1),.bool false] 50)
  have g2:=(g1.later b2).alloc (.cells #[.int .i64 0,.string ⟨#[]⟩,.slice none 0 0,.int .i64 b,.int .i64 (-1),.bool false] 50)
  have B2:=B1.trans (b2.mono B1.size)
  obtain⟨W2,hW2⟩: ∃z,Hid (z=w2.alloc (.cells #[.int .i64 0,.string ⟨#[]⟩,.slice none 0 0,.int .i64 b,.int .i64 (-1),.bool false] 50)):=⟨_,rfl⟩
  have B3:Below w.heap.size w W2:=by rw [hW2.out];exact B2.alloc B2.size _
  have t2:Var 50 W2 w2.heap.size [.int .i64 0,.string ⟨#[]⟩,.slice none 0 0,.int .i64 b,.int .i64 (-1),.bool false]:=by rw [hW2.out];exact Var.new w2 _
  go_upto_region 3 with(fail)
  have hW2o:=hW2.out
  clear hW2
  subst hW2o
  generalize w2.alloc (.cells #[.int .i64 0,.string ⟨#[]⟩,.slice none 0 0,.int .i64 b,.int .i64 (-1),.bool false] 50)=W2 at *
  generalize w2.heap.size=k2 at *
  clear b0 b1 b2 z0 z1 g1 B0 B1 B2 hG hT
  obtain⟨e0,e1,e2,e3,e4,e5⟩:=g2.c6
  obtain⟨f0,f1,f2,f3,f4,f5⟩:=t2.c6
  obtain⟨q0,q1,q2,q3,q4,q5,q6,q7,q8,q9,q10,q11,q12⟩:=z2.c13
  obtain⟨y0,y1,y2,y3,y4,y5,y6,y7,y8,y9,y10,y11,y12⟩:=z2.f13
  go_wp2_with fail
  have zf:Var 53 ((((((((((((((W2.setCell ⟨w.heap.size,0,none⟩ (.int .i64 0)).setCell ⟨w.heap.size,1,none⟩ (.string ⟨#[]⟩)).setCell ⟨w.heap.size,2,none⟩ (.int .i64 a)).setCell ⟨w.heap.size,3,none⟩ (.int .i64 0)).setCell ⟨w.heap.size,4,none⟩ (.bool false)).setCell ⟨w.heap.size,5,none⟩ (.bool false)).setCell ⟨w.heap.size,6,none⟩ (.int .i64 0)).setCell ⟨w.heap.size,7,none⟩ (.string ⟨#[]⟩)).setCell ⟨w.heap.size,8,none⟩ (.slice none 0 0)).setCell ⟨w.heap.size,9,none⟩ (.int .i64 b)).setCell ⟨w.heap.size,10,none⟩ (.int .i64 (-1))).setCell ⟨w.heap.size,11,none⟩ (.bool false)).setCell ⟨w.heap.size,12,none⟩ (.slice none 0 0))) w.heap.size [.int .i64 0,.string ⟨#[]⟩,.int .i64 a,.int .i64 0,.bool false,.bool false,.int .i64 0,.string ⟨#[]⟩,.slice none 0 0,.int .i64 b,.int .i64 (-1),.bool false,.slice none 0 0]:=(((((((((((((z2.set 0 _).set 1 _).set 2 _).set 3 _).set 4 _).set 5 _).set 6 _).set 7 _).set 8 _).set 9 _).set 10 _).set 11 _).set 12 _)
  have Bf:Below w.heap.size w ((((((((((((((W2.setCell ⟨w.heap.size,0,none⟩ (.int .i64 0)).setCell ⟨w.heap.size,1,none⟩ (.string ⟨#[]⟩)).setCell ⟨w.heap.size,2,none⟩ (.int .i64 a)).setCell ⟨w.heap.size,3,none⟩ (.int .i64 0)).setCell ⟨w.heap.size,4,none⟩ (.bool false)).setCell ⟨w.heap.size,5,none⟩ (.bool false)).setCell ⟨w.heap.size,6,none⟩ (.int .i64 0)).setCell ⟨w.heap.size,7,none⟩ (.string ⟨#[]⟩)).setCell ⟨w.heap.size,8,none⟩ (.slice none 0 0)).setCell ⟨w.heap.size,9,none⟩ (.int .i64 b)).setCell ⟨w.heap.size,10,none⟩ (.int .i64 (-1))).setCell ⟨w.heap.size,11,none⟩ (.bool false)).setCell ⟨w.heap.size,12,none⟩ (.slice none 0 0))):=by
   iterate 13 (refine Below.setCell ?_ (by dsimp only;omega) _)
   exact B3
  generalize (((((((((((((W2.setCell ⟨w.heap.size,0,none⟩ (.int .i64 0)).setCell ⟨w.heap.size,1,none⟩ (.string ⟨#[]⟩)).setCell ⟨w.heap.size,2,none⟩ (.int .i64 a)).setCell ⟨w.heap.size,3,none⟩ (.int .i64 0)).setCell ⟨w.heap.size,4,none⟩ (.bool false)).setCell ⟨w.heap.size,5,none⟩ (.bool false)).setCell ⟨w.heap.size,6,none⟩ (.int .i64 0)).setCell ⟨w.heap.size,7,none⟩ (.string ⟨#[]⟩)).setCell ⟨w.heap.size,8,none⟩ (.slice none 0 0)).setCell ⟨w.heap.size,9,none⟩ (.int .i64 b)).setCell ⟨w.heap.size,10,none⟩ (.int .i64 (-1))).setCell ⟨w.heap.size,11,none⟩ (.bool false)).setCell ⟨w.heap.size,12,none⟩ (.slice none 0 0))=W3 at zf Bf ⊢
  obtain⟨s0,s1,s2,s3,s4,s5,s6,s7,s8,s9,s10,s11,s12⟩:=zf.c13
  refine bodyPost_ret (v:=.tuple #[hopV a b (-1),.bool true]) (by rw [Tak.res_cell_tmp rfl];clear B3 z2 g2 t2 q0 y0 q1 y1 q2 y2 q3 y3 q4 y4 q5 y5 q6 y6 q7 y7 q8 y8 q9 y9 q10 y10 q11 y11 q12 y12 e0 f0 e1 f1 e2 f2 e3 f3 e4 f4 e5 f5;go_simp;done) rfl ⟨rfl,Bf⟩
end Go.Proofs.YtfmcahjdhoabcaaGreat.Hop
