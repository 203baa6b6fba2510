/- Contracts of this seat's functions, and their mathematics (LawV Shape LawG GivP). -/
import Derived.Test.YtfejobjgbadfjaaGreatK16
import Derived.Test.YtfejobjgbadfjaaGreatRows
import Derived.Deep.Slices
import Derived.ChangeArms
import Derived.WideShapes
import Derived.Test.YtfejobjgbadfjaaGreatK3
import Derived.BigQuiet
set_option linter.unusedVariables false
set_option linter.unusedSimpArgs false
set_option maxRecDepth 10000
set_option maxHeartbeats 4000000
namespace Go.Proofs.YtfejobjgbadfjaaGreat.Tak
open Go.RowKit RowG
end Go.Proofs.YtfejobjgbadfjaaGreat.Tak
namespace Go.Proofs.YtfejobjgbadfjaaGreat.Shp
open Go.ChangeShapes Go.WideShapes Go.Deep
mutual
inductive Shape where
 | int (k:IntKind)|str|bool|struct (fs:Shapes)|slice (e:Shape)
inductive Shapes where
 | nil|cons (s:Shape) (r:Shapes)
end
mutual
def Shape.size:Shape→Nat
 | .struct fs=>fs.size
 | .int _=>1
 | .str=>1
 | .bool=>1
 | .slice _=>1
def Shapes.size:Shapes→Nat
 | .nil=>0
 | .cons s r=>s.size+r.size
end
mutual
def Shape.Holds (w:World):Shape→List Value→Prop
 | .int k,cs=> ∃n,cs=[.int k n]∧(Lit.int k n).wf=true
 | .str,cs=> ∃s:ByteArray,cs=[.string s]∧s.size≤maxLen
 | .bool,cs=> ∃b,cs=[.bool b]
 | .struct fs,cs=>fs.Holds w cs
 | .slice e,cs=>cs=[.slice none 0 0]∨ ∃(a:Addr) (len cap:Nat),cs=[.slice (some a) len cap]∧len≤cap∧cap≤maxLen∧ ∀i,i<len→ ∃cs':List Value,cs'.length=e.size∧(∀j u,cs'[j]? =some u→w.cell? (a.add (i*e.size+j))=some u)∧e.Holds w cs'
def Shapes.Holds (w:World):Shapes→List Value→Prop
 | .nil,cs=>cs=[]
 | .cons s r,cs=> ∃c1 c2,cs=c1++c2∧s.Holds w c1∧r.Holds w c2
end
mutual
def Shape.fits (P:Program):Shape→TypeId→Bool
 | .int k,t=>match P.underlying t with|some (.int k')=>k==k'|_=>false
 | .str,t=>match P.underlying t with|some .string=>true|_=>false
 | .bool,t=>match P.underlying t with|some .bool=>true|_=>false
 | .struct fs,t=>match P.underlying t with|some (.struct arr)=>fs.fits P arr.toList 0&&P.cellsOf t==fs.size|_=>false
 | .slice e,t=>match P.underlying t with|some (.slice u)=>e.fits P u&&P.cellsOf u==e.size|_=>false
def Shapes.fits (P:Program):Shapes→List Field→Nat→Bool
 | .nil,[],_=>true
 | .cons s r,f::fs,o=>f.offset==o&&(P.cellsOf f.type==s.size&&(s.fits P f.type&&r.fits P fs (o+s.size)))
 | _,_,_=>false
end
section
variable {H:Type} {enc:TypeId×Value→H} {P:Program} {w:World} {base:Nat} {spare:Nat→Bool} {held:Bool}
mutual
theorem Shape.reads: ∀(sh:Shape) {t:TypeId} {fuel:Nat} {cs:List Value} {x:DataW H×List MemPlace},sh.fits P t=true→DataW.trod enc P w base spare held fuel t cs=some x→sh.Holds w cs∧cs.length=sh.size
 | .int k,t,fuel,cs,x,hf,h=>by
  unfold Shape.fits at hf
  split at hf
  ·rename_i k' hu
   have e:k=k':=by simpa using hf
   subst e
   obtain⟨n,rfl,_,hw⟩:=DataW.trod_int hu h
   exact⟨⟨n,rfl,hw⟩,rfl⟩
  ·cases hf
 | .str,t,fuel,cs,x,hf,h=>by
  unfold Shape.fits at hf
  split at hf
  ·rename_i hu
   obtain⟨s,rfl,_,hw⟩:=DataW.trod_string hu h
   exact⟨⟨s,rfl,hw⟩,rfl⟩
  ·cases hf
 | .bool,t,fuel,cs,x,hf,h=>by
  unfold Shape.fits at hf
  split at hf
  ·rename_i hu
   obtain⟨b,rfl,_⟩:=DataW.trod_bool hu h
   exact⟨⟨b,rfl⟩,rfl⟩
  ·cases hf
 | .struct fs,t,fuel,cs,x,hf,h=>by
  unfold Shape.fits at hf
  split at hf
  ·rename_i arr hu
   rw [Bool.and_eq_true,beq_iff_eq]at hf
   obtain⟨xs,n,_,_,hl,hxl,hp⟩:=DataW.trod_struct hu h
   have hg:=Shapes.reads fs (l:=arr.toList) (o:=0) (n:=n) (cs:=cs) hf.1 (by rw [hl,hf.2];omega) (fun i f hi=>by
    have:=hp i f (by simpa using hi)
    have hx:i<xs.length:=by
     have:i<arr.toList.length:=(List.getElem?_eq_some_iff.1 hi).1
     rw [hxl];simpa using this
    rw [List.getElem?_eq_getElem hx]at this
    exact⟨_,this⟩)
   refine⟨?_,by rw [hl,hf.2];rfl⟩
   have e:(cs.drop 0).take fs.size=cs:=by rw [List.drop_zero];exact List.take_of_length_le (by rw [hl,hf.2];exact Nat.le_refl _)
   rw [e]at hg
   exact hg
  ·cases hf
 | .slice e,t,fuel,cs,x,hf,h=>by
  unfold Shape.fits at hf
  split at hf
  ·rename_i u hu
   rw [Bool.and_eq_true,beq_iff_eq]at hf
   rcases open_slice hu h with⟨rfl,_⟩|⟨a,len,cap,m,n,D,Pl,rfl,_,hl,hm,hmm,_,hx⟩
   ·exact⟨.inl rfl,rfl⟩
   ·refine⟨.inr ⟨a,len,cap,rfl,hl,hm,fun i hi=>?_⟩,rfl⟩
    obtain⟨cs',h1,h2⟩:=hx i (by rw [hmm];split <;>omega)
    rw [hf.2]at h1
    obtain⟨_,hlen,hcell⟩:=World.cells?_some h1
    refine⟨cs',hlen,fun j v hj=>?_,(Shape.reads e hf.1 h2).1⟩
    have hjl:j<cs'.length:=(List.getElem?_eq_some_iff.1 hj).1
    have:=hcell j (by omega)
    rw [add_add]at this
    rw [this,hj]
  ·cases hf
theorem Shapes.reads: ∀(sh:Shapes) {l:List Field} {o n:Nat} {cs:List Value},sh.fits P l o=true→o+sh.size≤cs.length→(∀(i:Nat) (f:Field),l[i]? =some f→ ∃x,DataW.trod enc P w base spare held n f.type ((cs.drop f.offset).take (P.cellsOf f.type))=some x)→sh.Holds w ((cs.drop o).take sh.size)
 | .nil,l,o,n,cs,hf,hl,h=>by simp [Shapes.size,Shapes.Holds]
 | .cons s r,[],o,n,cs,hf,hl,h=>by simp [Shapes.fits]at hf
 | .cons s r,f::fs,o,n,cs,hf,hl,h=>by
  simp only [Shapes.fits,Bool.and_eq_true,beq_iff_eq]at hf
  obtain⟨h1,h2,h3,h4⟩:=hf
  simp only [Shapes.size]at hl
  obtain⟨x,hx⟩:=h 0 f rfl
  rw [h1,h2]at hx
  have r1:=Shape.reads s h3 hx
  have r2:=Shapes.reads r (o:=o+s.size) (n:=n) (cs:=cs) h4 (by omega) (fun i g hi=>h (i+1) g (by simpa using hi))
  refine⟨(cs.drop o).take s.size,(cs.drop (o+s.size)).take r.size,?_,r1.1,r2⟩
  rw [Shapes.size,List.take_add,List.drop_drop]
end
end
end Go.Proofs.YtfejobjgbadfjaaGreat.Shp
namespace Go.Proofs.YtfejobjgbadfjaaGreat.Giv
open Go.RowKit RowG
end Go.Proofs.YtfejobjgbadfjaaGreat.Giv
namespace Go.Proofs.YtfejobjgbadfjaaGreat.Giv
open Go.RowKit RowG
theorem isCap (n:Int)(w:World):Calls Tryz.prog 109 #[.int .i64 n] w fun e w'=>e=.returned (.bool (Tak.capB n))∧w=w':=by
 by_cases h1:1≤n
 ·by_cases h2:n≤400
  ·go_enter Tryz.func109,Tryz.ntmps109
   go_wp2_with fail
   go_ret
   exact⟨Num.ret_bool (by simp [Tak.capB,h1,h2]),rfl⟩
  ·go_enter Tryz.func109,Tryz.ntmps109
   go_wp2_with fail
   go_ret
   exact⟨Num.ret_bool (by simp [Tak.capB,h1,h2]),rfl⟩
 ·go_enter Tryz.func109,Tryz.ntmps109
  go_wp2_with fail
  go_ret
  exact⟨Num.ret_bool (by simp [Tak.capB];omega),rfl⟩
theorem isCapEq {n:Int}{v:Bool}(h:Tak.capB n=v)(w:World):Calls Tryz.prog 109 #[.int .i64 n] w fun e w'=>e=.returned (.bool v)∧w=w':=by
 subst h
 exact isCap n w
theorem isPlaceEq {n:Int}{v:Bool}(h:Num.plB n=v)(w:World):Calls Tryz.prog 108 #[.int .i64 n] w fun e w'=>e=.returned (.bool v)∧w=w':=by
 subst h
 exact Num.isPlace n w
def mostG (g:Gv):Int:=min g.cp (1000000000-g.ba)
theorem mostKept (g:Gv)(w:World)(h0:0≤g.ba)(h1:g.ba≤1000000000):
  Calls Tryz.prog 110 #[g.v] w fun x w'=>x=.returned (.int .i64 (mostG g))∧Below w.heap.size w w':=by
 unfold mostG
 obtain⟨ba,bs,cp,lm,en,dn⟩:=g
 dsimp only [Gv.v]at *
 go_enter Tryz.func110,Tryz.ntmps110
 go_wp2_with fail
 all_goals go_ret
 all_goals exact⟨Num.ret_int (by omega),(Below.refl _ _).alloc (Nat.le_refl _) _⟩
def farB (g:Gv):Bool:=Tak.capB g.cp&&(Num.plB g.ba&&decide ((g.bs.size:Int)≤mostG g))
theorem ok_far {g:Gv}:g.ok=(farB g&&(Num.plB g.lm&&(decide (g.ba≤g.lm)&&(!g.dn||(g.en&&decide (g.bs.size=0)))))):=by
 have h:farB g=(decide (1≤g.cp∧g.cp≤400)&&(Num.plB g.ba&&(decide ((g.bs.size:Int)≤g.cp)&&Num.plB (g.ba+g.bs.size)))):=by
  unfold farB
  show(decide (1≤g.cp∧g.cp≤400)&&(Num.plB g.ba&&decide ((g.bs.size:Int)≤mostG g)))=_
  cases hp:Num.plB g.ba
  ·simp
  ·have:=Num.pl_t hp
   rw [show decide ((g.bs.size:Int)≤mostG g)=(decide ((g.bs.size:Int)≤g.cp)&&Num.plB (g.ba+g.bs.size)) by
    unfold mostG Num.plB
    rw [Bool.eq_iff_iff,Bool.and_eq_true,decide_eq_true_eq,decide_eq_true_eq,decide_eq_true_eq]
    omega]
 rw [h]
 unfold Gv.ok
 simp only [Bool.and_assoc]
theorem implGiverOk (g:Gv)(w:World)(hs:g.bs.size≤2097152):
  Calls Tryz.prog 101 #[g.v] w fun x w'=>x=.returned (.bool g.ok)∧Below w.heap.size w w':=by
 have hmix:=mix
 rw [ok_far]
 have hK:=fun w' h0 h1=>mostKept g w' h0 h1
 have HF:Hid (farB g=(Tak.capB g.cp&&(Num.plB g.ba&&decide ((g.bs.size:Int)≤mostG g)))):=rfl
 generalize farB g=far at *
 generalize mostG g=mk at *
 obtain⟨ba,bs,cp,lm,en,dn⟩:=g
 dsimp only [Gv.v]at *
 obtain⟨V,hV⟩: ∃z,Hid (z=w.alloc (.cells #[.int .i64 ba,.string bs,.int .i64 cp,.int .i64 lm,.bool en,.bool dn] 41)):=⟨_,rfl⟩
 have v1:Var 41 V w.heap.size [.int .i64 ba,.string bs,.int .i64 cp,.int .i64 lm,.bool en,.bool dn]:=by rw [hV.out];exact Var.new w _
 have b1:Below w.heap.size w V:=by rw [hV.out];exact(Below.refl _ _).alloc (Nat.le_refl _) _
 go_enter Tryz.func101,Tryz.ntmps101
 go_upto_region 1 with(fail)
 rw [←hV.out]
 clear hV
 obtain⟨e0,e1,e2,e3,e4,e5⟩:=v1.c6
 have d0:=Draw.Later.cell e0
 have d1:=Draw.Later.cell e1
 have d2:=Draw.Later.cell e2
 have d3:=Draw.Later.cell e3
 have d4:=Draw.Later.cell e4
 have d5:=Draw.Later.cell e5
 go_cut [20]from 3 (fun v wr=>v=.bool (!far)∧Below V.heap.size V wr)
 case first=>
  cases h1:Tak.capB cp
  case false=>
   have hf:far=false:=by rw [HF.out,h1];rfl
   have hC:=fun w'=>isCapEq h1 w'
   clear h1
   refine Draw.wp_region_later hmix (by kernel_rfl) ?_
   repeat (go_big_quiet_step ((go_at_call 109;exact Draw.later_same (hC _))))
   refine wpQuiet_nil ?_
   intro wq hw'
   obtain⟨q9,hq⟩:=hw'
   have hBq:=q9.h
   rw [←hq]at hBq
   go_wp2_with fail
   go_meet
   exact⟨by rw [hf];rfl,hBq⟩
  have hC:=fun w'=>isCapEq h1 w'
  cases h2:Num.plB ba
  case false=>
   have hf:far=false:=by rw [HF.out,h1,h2];rfl
   have hP:=fun w'=>isPlaceEq h2 w'
   clear h1 h2
   refine Draw.wp_region_later hmix (by kernel_rfl) ?_
   repeat (go_big_quiet_step (first|(go_at_call 109;exact Draw.later_same (hC _))|(go_at_call 108;exact Draw.later_same (hP _))))
   refine wpQuiet_nil ?_
   intro wq hw'
   obtain⟨q9,hq⟩:=hw'
   have hBq:=q9.h
   rw [←hq]at hBq
   go_wp2_with fail
   go_meet
   exact⟨by rw [hf];rfl,hBq⟩
  have hP:=fun w'=>isPlaceEq h2 w'
  have hpl:=Num.pl_t h2
  have hM:=fun w'=>hK w' hpl.1 hpl.2
  have hf:far=decide ((bs.size:Int)≤mk):=by rw [HF.out,h1,h2];rfl
  have hf2:(!far)=decide (mk<(bs.size:Int)):=by
   rw [hf]
   by_cases hc:(bs.size:Int)≤mk
   ·rw [decide_eq_true hc,decide_eq_false (by omega)];rfl
   ·rw [decide_eq_false hc,decide_eq_true (by omega)];rfl
  have HF2:Hid _:=hf2
  clear h1 h2 hpl hf hf2 hK
  refine Draw.wp_region_later hmix (by kernel_rfl) ?_
  repeat (go_big_quiet_step (first|(go_at_call 109;exact Draw.later_same (hC _))|(go_at_call 108;exact Draw.later_same (hP _))|(go_at_call 110;exact Draw.later_of (hM _))))
  refine wpQuiet_nil ?_
  intro wq hw'
  obtain⟨q9,hq⟩:=hw'
  have hBq:=q9.h
  rw [←hq]at hBq
  go_wp2_with fail
  go_meet
  exact⟨by rw [HF2.out],hBq⟩
 case rest=>
  obtain⟨rfl,b2⟩:=hcut
  replace v1:=v1.later b2
  have B2:=b1.trans (b2.mono b1.size)
  clear b1 b2 d0 d1 d2 d3 d4 d5 e0 e1 e2 e3 e4 e5
  have e0:=v1.cell (i:=0) rfl
  have e1:=v1.cell (i:=1) rfl
  have e3:=v1.cell (i:=3) rfl
  have e4:=v1.cell (i:=4) rfl
  have e5:=v1.cell (i:=5) rfl
  cases far
  case false=>
   go_wp2_with fail
   go_ret
   exact⟨rfl,B2⟩
  cases h3:Num.plB lm
  case false=>
   have hP:=fun w'=>isPlaceEq h3 w'
   have H3:Hid _:=h3
   clear h3
   go_wp2_with fail
   refine(hP _).mono ?_
   rintro x w3 ⟨rfl,rfl⟩
   go_wp2_with fail
   go_ret
   exact⟨Num.ret_bool (by rw [H3.out];rfl),B2⟩
  have hP:=fun w'=>isPlaceEq h3 w'
  have H3:Hid _:=h3
  clear h3
  go_wp2_with fail
  refine(hP _).mono ?_
  rintro x w3 ⟨rfl,rfl⟩
  by_cases h4:lm<ba
  case pos=>
   have h5:decide (ba≤lm)=false:=decide_eq_false (by omega)
   go_wp2_with fail
   go_ret
   exact⟨Num.ret_bool (by rw [H3.out,h5];rfl),B2⟩
  have HT:Hid (decide (ba≤lm)=true):=decide_eq_true (by omega)
  have HS:Hid _:=isEmpty_eq bs
  cases dn
  case false=>
   go_wp2_with fail
   go_ret
   exact⟨Num.ret_bool (by rw [H3.out,HT.out];rfl),B2⟩
  cases en
  case false=>
   go_wp2_with fail
   go_ret
   exact⟨Num.ret_bool (by rw [H3.out,HT.out];rfl),B2⟩
  go_wp2_with fail
  go_ret
  exact⟨Num.ret_bool (show bs.toList.isEmpty=_ by rw [H3.out,HT.out,HS.out];rfl),B2⟩
end Go.Proofs.YtfejobjgbadfjaaGreat.Giv
