/- Contracts of this seat's functions, and their mathematics (PlaB CouM). -/
import Derived.Test.YtfejobjgbadfjaaGreatK46
import Derived.Test.YtfejobjgbadfjaaGreatK41
import Derived.Test.YtfejobjgbadfjaaGreatK48
import Derived.Test.YtfejobjgbadfjaaGreatK50
set_option linter.unusedVariables false
set_option linter.unusedSimpArgs false
set_option maxRecDepth 10000
set_option maxHeartbeats 8000000
namespace Go.Proofs.YtfejobjgbadfjaaGreat.Wor
open Go.RowKit RowG Hop Roa Pum Lin
structure PS (B:Nat)(w wr:World)(W:Wd)(g cH:Nat)(xs:List Ha)(aR:Option Addr)(cR:Nat):Prop where
 v:Var 33 wr w.heap.size (W7 W g cH aR cR)
 A:WAs wr B g cH xs aR cR W
 vR:Var 33 wr (w.heap.size+1) Z7
 bel:Below w.heap.size w wr
theorem PS.later {B:Nat}{w wr wa:World}{W:Wd}{g cH:Nat}{xs:List Ha}{aR:Option Addr}{cR:Nat}(s:PS B w wr W g cH xs aR cR)(b:Below wr.heap.size wr wa):PS B w wa W g cH xs aR cR:=
 ⟨s.v.later b,s.A.later b,s.vR.later b,s.bel.trans (b.mono s.bel.size)⟩
theorem PS.drew {B:Nat}{w wr:World}{W:Wd}{g cH:Nat}{xs:List Ha}{aR:Option Addr}{cR:Nat}(s:PS B w wr W g cH xs aR cR):PS B w wr.drew W g cH xs aR cR:=
 ⟨s.v.drew,⟨s.A.L.drew,s.A.hs,s.A.R.drew,s.A.ok⟩,s.vR.drew,s.bel.drew⟩
theorem PS.store {B:Nat}{w wr:World}{W W':Wd}{g cH g' cH':Nat}{xs xs':List Ha}{aR aR':Option Addr}{cR cR':Nat}(s:PS B w wr W g cH xs aR cR)(A:WAs wr B g' cH' xs' aR' cR' W'):
  PS B w (put7 wr w.heap.size (.slice (some ⟨g',0,none⟩) 3 cH') (.slice aR' W'.rs.length cR') (.string W'.tx) (.int .i64 W'.rd) (.bool W'.en) (.bool W'.dn) (.bool W'.sn)) W' g' cH' xs' aR' cR':=by
 have ka:=kept7 wr w.heap.size (.slice (some ⟨g',0,none⟩) 3 cH') (.slice aR' W'.rs.length cR') (.string W'.tx) (.int .i64 W'.rd) (.bool W'.en) (.bool W'.dn) (.bool W'.sn)
 exact⟨var7 s.v _ _ _ _ _ _ _,A.keptV s.v (by decide) (by decide) (by decide) (by decide) ka,s.vR.kept ka (by omega),s.bel.trans (ka.below (Nat.le_refl _) s.bel.size)⟩
def play (W:Wd)(L:List Ac):Wd:=L.foldl (fun W a=>(happenW W a).1) W
theorem play_next {W:Wd}{L:List Ac}{j:Nat}{a:Ac}(ha:L[j]? =some a):play W (L.take (j+1))=(happenW (play W (L.take j)) a).1:=by
 obtain⟨hj,rfl⟩:=List.getElem?_eq_some_iff.1 ha
 unfold play
 rw [List.take_succ_eq_append_getElem hj,List.foldl_append]
 rfl
theorem specPlay (B:Nat)(W0:Wd)(g cH cR:Nat)(aR:Option Addr)(xs:List Ha)(w:World)(A:WAs w B g cH xs aR cR W0)(hB:B≤w.heap.size)(aL:Option Addr)(capL:Nat)(L:List Ac)(hL:actE.Lies w aL L)(h300:L.length≤300)(htx: ∀a∈L,a.tx.size≤2097152):
  Calls Tryz.prog 10 #[.agg (W7 W0 g cH aR cR).toArray,.slice aL L.length capL] w fun e w'=> ∃v,e=.returned v∧WHold w' w.heap.size v (play W0 L)∧Below w.heap.size w w':=by
 have hmix:=Roa.mix
 have hsz:W0.tx.size≤2097152:=by have:=(stream_iff.1 (ok_parts.1 A.ok).2).1;omega
 have hok:(hopsB (xs.map (·.h)) W0.rs&&W0.sm.ok)=true:=by rw [A.hs,←stream_sm];exact A.ok
 have hrl:=roads_len (hops_iff.1 (ok_parts.1 A.ok).1).2.1
 have hOK:=fun w' (b:Below w.heap.size w w')=>specWorldOk (some ⟨g,0,none⟩) aR 3 W0.rs.length cH cR xs W0.rs W0.sm w' A.len.symm rfl (A.L.ll.later b) (A.R.lies.later b) (by rw [A.len];decide) (by omega) (fun x hx=>(sms_of A.ok A.hs x hx).1) hsz
 rw [hok]at hOK
 have v1:Var 33 ((w.alloc (.cells (W7 W0 g cH aR cR).toArray 33)).alloc (.cells Z7.toArray 33)) w.heap.size (W7 W0 g cH aR cR):=(Var.new w _).alloc _
 have v2:Var 33 ((w.alloc (.cells (W7 W0 g cH aR cR).toArray 33)).alloc (.cells Z7.toArray 33)) (w.heap.size+1) Z7:=by
  have q:=Var.new (T:=33) (w.alloc (.cells (W7 W0 g cH aR cR).toArray 33)) Z7
  simpa using q
 have b1:Below w.heap.size w ((w.alloc (.cells (W7 W0 g cH aR cR).toArray 33)).alloc (.cells Z7.toArray 33)):=((Below.refl _ _).alloc (Nat.le_refl _) _).alloc (by simp) _
 have S:PS B w ((w.alloc (.cells (W7 W0 g cH aR cR).toArray 33)).alloc (.cells Z7.toArray 33)) W0 g cH xs aR cR:=⟨v1,A.later b1,v2,b1⟩
 have HL:Hid (actE.Lies w aL L):=hL
 have HT:Hid (∀a∈L,a.tx.size≤2097152):=htx
 clear v1 v2 b1 A hok hL htx hsz hrl
 go_enter Tryz.func10,Tryz.ntmps10
 go_upto_region 1 with(fail)
 generalize ((w.alloc (.cells (W7 W0 g cH aR cR).toArray 33)).alloc (.cells Z7.toArray 33))=V at *
 obtain⟨c0,c1,c2,c3,c4,c5,c6⟩:=S.v.c7
 have h3: ¬(300:Int)<(L.length:Int):=by omega
 go_wp2_with fail
 refine(hOK _ S.bel).mono ?_
 rintro x w1 ⟨rfl,b2⟩
 replace S:=S.later b2
 clear b2 hOK c0 c1 c2 c3 c4 c5 c6
 go_wp2_with fail
 clear h3
 go_loopw [5] (fun jv wr=> ∃(j:Nat) (W:Wd) (g cH:Nat) (xs:List Ha) (aR:Option Addr) (cR:Nat),j≤L.length∧jv=.int .i64 j∧W=play W0 (L.take j)∧PS B w wr W g cH xs aR cR) (fun jv _=>L.length-(intOf jv).toNat)
 case atStart=>exact⟨0,W0,g,cH,xs,aR,cR,by omega,rfl,rfl,S⟩
 case round=>
  clear S
  obtain⟨j,W,g4,h4,xs4,a4,r4,hj,rfl,hW,S⟩:=hrel
  by_cases hjl:j<L.length
  ·have j0:(j:Int)<(L.length:Int):=by omega
   have j1:(0:Int)≤(j:Int):=by omega
   obtain⟨a,ha⟩: ∃a,L[j]? =some a:=⟨L[j],List.getElem?_eq_getElem hjl⟩
   have hat:a.tx.size≤2097152:=HT.out a (List.mem_of_getElem? ha)
   have hW':Hid (play W0 (L.take (j+1))=(happenW W a).1):=by rw [hW];exact play_next ha
   clear hW
   obtain⟨bL,oL,rfl⟩: ∃b o,aL=some ⟨b,o,none⟩:=by
    rcases HL.out with q|⟨b,o,e,_⟩
    ·rw [q]at hjl;simp at hjl
    ·exact⟨b,o,e⟩
   have HA:Hid (L[j]? =some a):=ha
   clear ha
   have hst: ∀q∈([(5,9,TieT B (happenW W a).2 (happenW W a).1),(6,9,TieT B (happenW W a).2 (happenW W a).1),(7,9,fun v w'=>WHold w' B v (happenW W a).1),(6,6,fun v _=> ∃u,v=Value.tuple #[u,.bool (happenW W a).2])]:List RegJ.Tie),∀v (w1 w2:World),Below w1.heap.size w1 w2→q.2.2 v w1→q.2.2 v w2:=by
    intro q hq v wa wb ba h
    simp only [List.mem_cons,List.not_mem_nil,or_false]at hq
    rcases hq with rfl|rfl|rfl|rfl
    ·exact TieT.later h ba
    ·exact TieT.later h ba
    ·exact WHold.later h ba
    ·exact h
   have keepW: ∀(q:Nat) (d:Nat→Bool) (w':World),(fun d w'=>(d 9=false→PS B w w' W g4 h4 xs4 a4 r4)∧(d 9=true→ ∃g cH xs aR cR,PS B w w' (happenW W a).1 g cH xs aR cR)) d w'→q≠9→(fun d w'=>(d 9=false→PS B w w' W g4 h4 xs4 a4 r4)∧(d 9=true→ ∃g cH xs aR cR,PS B w w' (happenW W a).1 g cH xs aR cR)) (fun j=>j==q||d j) w':=fun q d w' h hq=>⟨fun e=>h.1 (by rw [←or_ne (d:=d) (Ne.symm hq)];exact e),fun e=>h.2 (by rw [←or_ne (d:=d) (Ne.symm hq)];exact e)⟩
   go_wp2_with fail
   refine RegJ.wp_region_J (W:=(fun d w'=>(d 9=false→PS B w w' W g4 h4 xs4 a4 r4)∧(d 9=true→ ∃g cH xs aR cR,PS B w w' (happenW W a).1 g cH xs aR cR))) (RegJ.ValE [some (.agg (W7 W g4 h4 a4 r4).toArray),some (.slice (some ⟨bL,oL,none⟩) L.length capL),some (.int .i64 (j:Int)),some (.pointer (some ⟨bL,oL+j*6,none⟩)),some (a.v),none,none,none,none,none] ([(5,9,TieT B (happenW W a).2 (happenW W a).1),(6,9,TieT B (happenW W a).2 (happenW W a).1),(7,9,fun v w'=>WHold w' B v (happenW W a).1),(6,6,fun v _=> ∃u,v=Value.tuple #[u,.bool (happenW W a).2])])) [some 22,some 23,some 24,some 25,some 26,some 27,some 21,some 28,some 29,none] (F:=?_) (is:=[0,1,2,3,4,5,6,7,8,9]) hmix (by kernel_rfl) (by kernel_rfl) (by kernel_rfl) (by kernel_rfl) (fun x=>?_) (⟨fun _=>S.drew,fun e=>by cases e⟩) ?_ (fun dR xR wR hWR hdR hJR=>?_)
   rotate_left 1
   focus (simp only [RegJ.lay,Act.put,Nat.reduceAdd,Nat.zero_add,Draw.lays];rfl)
   focus
    iterate 10 (refine RegJ.Steps.cons (RegJ.StepAt.mk rfl (fun d x w1 hW1 hJ1 hx1 K hK=>?_)) ?_;simp only [Draw.lays]at hK;rotate_left 1)
    exact RegJ.Steps.nil
    ·have A1:=hW1.1 (hx1.out 9 (.inr (by kernel_rfl))).1;exact step_load_win (by rfl) _ (by rfl) (by rfl) (vs:=W7 W g4 h4 a4 r4) infoWorld structWorld A1.v.win (hK.out _ _ (keepW 0 d _ hW1 (by decide)) RegJ.ValE.same (RegJ.ValE.free (Or.inl rfl) rfl))
    ·go_simp;exact hK.out _ _ (keepW 1 d _ hW1 (by decide)) RegJ.ValE.same (RegJ.ValE.free (Or.inl rfl) rfl)
    ·go_simp;exact hK.out _ _ (keepW 2 d _ hW1 (by decide)) RegJ.ValE.same (RegJ.ValE.free (Or.inl rfl) rfl)
    ·have j1:x 1=_:=(hJ1.out 1 (by kernel_rfl)).val rfl;rw [j1]at hK;have j2:x 2=_:=(hJ1.out 2 (by kernel_rfl)).val rfl;rw [j2]at hK;go_simp;exact hK.out _ _ (keepW 3 d _ hW1 (by decide)) RegJ.ValE.same (RegJ.ValE.free (Or.inl rfl) rfl)
    ·have j3:x 3=_:=(hJ1.out 3 (by kernel_rfl)).val rfl;have A1:=hW1.1 (hx1.out 9 (.inr (by kernel_rfl))).1;exact step_load_cells (by rfl) _ (by rfl) (by exact j3) (vs:=a.c) infoAct1 structAct (El.Lies.cells (HL.out.later A1.bel) HA.out) (hK.out _ _ (keepW 4 d _ hW1 (by decide)) RegJ.ValE.same (RegJ.ValE.free (Or.inl rfl) rfl))
    ·have j0:x 0=_:=(hJ1.out 0 (by kernel_rfl)).val rfl;rw [j0]at hK;have j4:x 4=_:=(hJ1.out 4 (by kernel_rfl)).val rfl;rw [j4]at hK;have qS:=hW1.1 (hx1.out 9 (.inr (by kernel_rfl))).1;go_simp;refine(l16Happen B W a hat a4 g4 h4 r4 xs4 _ qS.A (Nat.le_trans hB qS.bel.size)).mono ?_;rintro e wa ⟨u,rfl,hold,ba⟩;go_simp;exact hK.out _ _ ⟨fun _=>qS.later ba,fun e=>absurd e (by simp [(hx1.out 9 (.inr (by kernel_rfl))).1])⟩ (RegJ.ValE.keep (fun q hq=>.inr (.inr fun v h=>hst q hq v _ _ ba h))) (RegJ.ValE.got 0 _ _ (Or.inr rfl) rfl rfl ⟨u,rfl,hold⟩)
    ·obtain⟨u,j5,hold⟩:=((hJ1.out 5 (by kernel_rfl)).tie 0 rfl (.inr (hx1.out 9 (.inr (by kernel_rfl))).1));rw [j5]at hK;go_simp;exact hK.out _ _ (keepW 6 d _ hW1 (by decide)) RegJ.ValE.same (RegJ.ValE.this (Or.inr rfl) (by intro q hq he;simp only [List.mem_cons,List.not_mem_nil,or_false]at hq;rcases hq with rfl|rfl|rfl|rfl;cases he;exact⟨u,rfl,hold⟩;cases he;exact⟨u,rfl⟩))
    ·obtain⟨u,j6,hold⟩:=((hJ1.out 6 (by kernel_rfl)).tie 1 rfl (.inr (hx1.out 9 (.inr (by kernel_rfl))).1));rw [j6]at hK;go_simp;exact hK.out _ _ (keepW 7 d _ hW1 (by decide)) RegJ.ValE.same (RegJ.ValE.got 2 _ _ (Or.inr rfl) rfl rfl hold)
    ·obtain⟨u,j6⟩:=((hJ1.out 6 (by kernel_rfl)).tie 3 rfl (.inl rfl));rw [j6]at hK;go_simp;exact hK.out _ _ (keepW 8 d _ hW1 (by decide)) RegJ.ValE.same (RegJ.ValE.free (Or.inr rfl) rfl)
    ·have qS:=hW1.1 (hx1.out 9 (.inl rfl)).1;obtain⟨g5,h5,xs5,a5,r5,j7,A5⟩:=((hJ1.out 7 (by kernel_rfl)).tie 2 rfl (.inr (hx1.out 9 (.inl rfl)).1));have j7:x 7=_:=j7;rw [j7]at hK;have c0:=qS.v.cell (i:=0) rfl;have c1:=qS.v.cell (i:=1) rfl;have c2:=qS.v.cell (i:=2) rfl;have c3:=qS.v.cell (i:=3) rfl;have c4:=qS.v.cell (i:=4) rfl;have c5:=qS.v.cell (i:=5) rfl;have c6:=qS.v.cell (i:=6) rfl;have y0:=qS.v.free 0;have y1:=qS.v.free 1;have y2:=qS.v.free 2;have y3:=qS.v.free 3;have y4:=qS.v.free 4;have y5:=qS.v.free 5;have y6:=qS.v.free 6;go_simp;exact hK.out undef _ ⟨fun e=>absurd e (by simp),fun _=>⟨g5,h5,xs5,a5,r5,qS.store A5⟩⟩ (RegJ.ValE.keep (by intro q hq;simp only [List.mem_cons,List.not_mem_nil,or_false]at hq;rcases hq with rfl|rfl|rfl|rfl;exact .inr (.inl ⟨by simp,.inl rfl⟩);exact .inr (.inl ⟨by simp,.inl rfl⟩);exact .inr (.inl ⟨by simp,.inl rfl⟩);exact .inr (.inr fun v h=>h))) (RegJ.ValE.free (Or.inr rfl) rfl)
   obtain⟨g5,h5,xs5,a5,r5,S'⟩:=hWR.2 (hdR 9 (by simp))
   clear hWR hdR hJR keepW hst HA hat S
   go_wp2_with fail
   go_roundw
   case rel=>exact⟨j+1,_,g5,h5,xs5,a5,r5,by omega,by simp,hW'.out.symm,S'⟩
   case measure=>simp [intOf] <;>omega
  ·have j0: ¬(j:Int)<(L.length:Int):=by omega
   have hWe:Hid (W=play W0 L):=by rw [hW,List.take_of_length_le (by omega)];exact rfl
   clear hW
   obtain⟨c0,c1,c2,c3,c4,c5,c6⟩:=S.v.c7
   go_wp2_with fail
   refine(l16Copy W _ a4 h4 r4 xs4 _ S.A.L.ll S.A.hs S.A.R.lies S.A.R.none_cap S.A.ok).mono ?_
   rintro e w5 ⟨v,rfl,⟨g5,h5,xs5,a5,r5,rfl,A5⟩,b5⟩
   have hz:=S.bel.size
   replace S:=S.later b5
   clear c0 c1 c2 c3 c4 c5 c6
   have c0:=S.vR.cell (i:=0) rfl
   have c1:=S.vR.cell (i:=1) rfl
   have c2:=S.vR.cell (i:=2) rfl
   have c3:=S.vR.cell (i:=3) rfl
   have c4:=S.vR.cell (i:=4) rfl
   have c5:=S.vR.cell (i:=5) rfl
   have c6:=S.vR.cell (i:=6) rfl
   have y0:=S.vR.free 0
   have y1:=S.vR.free 1
   have y2:=S.vR.free 2
   have y3:=S.vR.free 3
   have y4:=S.vR.free 4
   have y5:=S.vR.free 5
   have y6:=S.vR.free 6
   go_wp2_with fail
   clear c0 c1 c2 c3 c4 c5 c6 y0 y1 y2 y3 y4 y5 y6
   have ka:=kept7 w5 (w.heap.size+1) (.slice (some ⟨g5,0,none⟩) 3 h5) (.slice a5 W.rs.length r5) (.string W.tx) (.int .i64 W.rd) (.bool W.en) (.bool W.dn) (.bool W.sn)
   have vv:=var7 S.vR (.slice (some ⟨g5,0,none⟩) 3 h5) (.slice a5 W.rs.length r5) (.string W.tx) (.int .i64 W.rd) (.bool W.en) (.bool W.dn) (.bool W.sn)
   have A6:=A5.keptV S.vR (by decide) (by decide) (by decide) (by decide) ka
   have B6:=S.bel.trans (ka.below (by omega) S.bel.size)
   clear ka A5 S
   simp only [put7]at vv A6 B6
   generalize (((((((w5.setCell ⟨w.heap.size+1,0,none⟩ (.slice (some ⟨g5,0,none⟩) 3 h5)).setCell ⟨w.heap.size+1,1,none⟩ (.slice a5 W.rs.length r5)).setCell ⟨w.heap.size+1,2,none⟩ (.string W.tx)).setCell ⟨w.heap.size+1,3,none⟩ (.int .i64 W.rd)).setCell ⟨w.heap.size+1,4,none⟩ (.bool W.en)).setCell ⟨w.heap.size+1,5,none⟩ (.bool W.dn)).setCell ⟨w.heap.size+1,6,none⟩ (.bool W.sn))=WZ at *
   obtain⟨c0,c1,c2,c3,c4,c5,c6⟩:=vv.c7
   refine bodyPost_ret (v:=.agg (W7 W g5 h5 a5 r5).toArray) (by rw [Hop.res_one rfl];go_simp) rfl ⟨_,rfl,?_,B6⟩
   rw [←hWe.out]
   exact⟨g5,h5,xs5,a5,r5,rfl,⟨A6.L.mono hz,A6.hs,A6.R.mono hz,A6.ok⟩⟩
end Go.Proofs.YtfejobjgbadfjaaGreat.Wor
namespace Go.Proofs.YtfejobjgbadfjaaGreat.Cou
open Go.RowKit RowG Hop Lin Wor
theorem three {hs:List Hp}(h:hs.length=3): ∃a b c,hs=[a,b,c]:=by
 match hs,h with
 | [a,b,c],_=>exact⟨a,b,c,rfl⟩
theorem under {W:Wd}(h:okW W=true)(I:Inv W):
  (∀k,k<6→(0<k→capAt ((deskL W.hs).map endK) k≤capAt ((deskL W.hs).map endK) (k-1))∧capAt ((deskL W.hs).map Prod.fst) k≤capAt ((deskL W.hs).map endK) k)∧
  capAt ((deskL W.hs).map endK) 0=W.tx.size∧capAt ((deskL W.hs).map Prod.fst) 5=W.rd∧0≤(W.tx.size:Int)-W.rd∧(W.tx.size:Int)-W.rd≤sumC W.hs 3:=by
 obtain⟨h1,h2,h3,h4⟩:=hang h I
 obtain⟨r1,r2⟩:=room h I
 have e0:=h1 0 (by decide)
 have e1:=h1 1 (by decide)
 have e2:=h1 2 (by decide)
 have g0:=h2 0 (by decide)
 have g1:=h2 1 (by decide)
 obtain⟨a,b,c,hw⟩:=three (len3 h)
 simp only [Wd.beg,Wd.at,hw,List.getD_cons_zero,List.getD_cons_succ]at e0 e1 e2 g0 g1 h3 h4 r2
 have hE:(deskL W.hs).map endK=[a.g.ba+a.g.bs.size,a.t.nx-a.t.bs.size+a.t.bs.size,b.g.ba+b.g.bs.size,b.t.nx-b.t.bs.size+b.t.bs.size,c.g.ba+c.g.bs.size,c.t.nx-c.t.bs.size+c.t.bs.size]:=by rw [hw];rfl
 have hS:(deskL W.hs).map Prod.fst=[a.g.ba,a.t.nx-a.t.bs.size,b.g.ba,b.t.nx-b.t.bs.size,c.g.ba,c.t.nx-c.t.bs.size]:=by rw [hw];rfl
 have hC:sumC W.hs 3=(a.g.cp+a.t.cp)+((b.g.cp+b.t.cp)+((c.g.cp+c.t.cp)+0)):=by rw [hw];rfl
 rw [hE,hS,hC]
 refine⟨fun k hk=>?_,?_,?_,r1,by omega⟩
 ·have:k=0∨k=1∨k=2∨k=3∨k=4∨k=5:=by omega
  rcases this with rfl|rfl|rfl|rfl|rfl|rfl <;>refine⟨fun hp=>?_,?_⟩ <;>simp only [capAt,List.getD_cons_zero,List.getD_cons_succ,Nat.sub_self,Nat.add_one_sub_one,Nat.reduceSub] <;>omega
 ·show a.g.ba+(a.g.bs.size:Int)=_
  omega
 ·show c.t.nx-(c.t.bs.size:Int)=_
  omega
theorem play_inv {l:List Int}{n:Int}(hc:capsB l n=true)(L:List Ac):okW (play (newW l n) L)=true∧Inv (play (newW l n) L):=ok_inv_all (ok_new hc) (inv_new l n) L
end Go.Proofs.YtfejobjgbadfjaaGreat.Cou
