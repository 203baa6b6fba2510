/- Contracts of this seat's functions, and their mathematics (PlaB CouM PlaE PlaF). -/
import Derived.Test.YtfmcahjdhoabcaaGreatU41
import Derived.Test.YtfmcahjdhoabcaaGreatU49
import Derived.Test.YtfmcahjdhoabcaaGreatU52
import Derived.Test.YtfmcahjdhoabcaaGreatU54
import Derived.Test.YtfmcahjdhoabcaaGreatU51
import Derived.Laws.OwnMore
set_option linter.unusedVariables false
set_option linter.unusedSimpArgs false
set_option maxRecDepth 10000
set_option maxHeartbeats 8000000
namespace Go.Proofs.YtfmcahjdhoabcaaGreat.Wor
open Go.RowKit RowG Hop Roa Pum Lin
structure PS (B:Nat)(w wr:World)(W:Wd)(g cH:Nat)(xs:List Ha)(aR:Option Addr)(cR:Nat):Prop where
 v:Var 31 wr w.heap.size (W7 W g cH aR cR)
 A:WAs wr B g cH xs aR cR W
 vR:Var 31 wr (w.heap.size+1) Z7
 bel:Below w.heap.size w wr
theorem PS.later {B:Nat}{w wr wa:World}{W:Wd}{g cH:Nat}{xs:List Ha}{aR:Option Addr}{cR:Nat}(s:PS B w wr W g cH xs aR cR)(b:Below wr.heap.size wr wa):PS B w wa W g cH xs aR cR:=
 ⟨s.v.later b,s.A.later b,s.vR.later b,s.bel.trans (b.mono s.bel.size)⟩
theorem PS.drew {B:Nat}{w wr:World}{W:Wd}{g cH:Nat}{xs:List Ha}{aR:Option Addr}{cR:Nat}(s:PS B w wr W g cH xs aR cR):PS B w wr.drew W g cH xs aR cR:=
 ⟨s.v.drew,⟨s.A.L.drew,s.A.hs,s.A.R.drew,s.A.ok⟩,s.vR.drew,s.bel.drew⟩
theorem PS.store {B:Nat}{w wr:World}{W W':Wd}{g cH g' cH':Nat}{xs xs':List Ha}{aR aR':Option Addr}{cR cR':Nat}(s:PS B w wr W g cH xs aR cR)(A:WAs wr B g' cH' xs' aR' cR' W'):
  PS B w (put7 wr w.heap.size (.slice (some ⟨g',0,none⟩) 3 cH') (.slice aR' W'.rs.length cR') (.string W'.tx) (.int .i64 W'.rd) (.bool W'.en) (.bool W'.dn) (.bool W'.sn)) W' g' cH' xs' aR' cR':=by
 have ka:=kept7 wr w.heap.size (.slice (some ⟨g',0,none⟩) 3 cH') (.slice aR' W'.rs.length cR') (.string W'.tx) (.int .i64 W'.rd) (.bool W'.en) (.bool W'.dn) (.bool W'.sn)
 exact⟨var7 s.v _ _ _ _ _ _ _,A.keptV s.v (by decide) (by decide) (by decide) (by decide) ka,s.vR.kept ka (by omega),s.bel.trans (ka.below (Nat.le_refl _) s.bel.size)⟩
def play (W:Wd)(L:List Ac):Wd:=L.foldl (fun W a=>(happenW W a).1) W
theorem play_next {W:Wd}{L:List Ac}{j:Nat}{a:Ac}(ha:L[j]? =some a):play W (L.take (j+1))=(happenW (play W (L.take j)) a).1:=by
 obtain⟨hj,rfl⟩:=List.getElem?_eq_some_iff.1 ha
 unfold play
 rw [List.take_succ_eq_append_getElem hj,List.foldl_append]
 rfl
theorem specPlay (B:Nat)(W0:Wd)(g cH cR:Nat)(aR:Option Addr)(xs:List Ha)(w:World)(A:WAs w B g cH xs aR cR W0)(hB:B≤w.heap.size)(aL:Option Addr)(capL:Nat)(L:List Ac)(hL:actE.Lies w aL L)(h300:L.length≤300)(htx: ∀a∈L,a.tx.size≤2097152):
  Calls Tryz.prog 18 #[.agg (W7 W0 g cH aR cR).toArray,.slice aL L.length capL] w fun e w'=> ∃v,e=.returned v∧WHold w' w.heap.size v (play W0 L)∧Below w.heap.size w w':=by
 have hmix:=Roa.mix
 have hsz:W0.tx.size≤2097152:=by have:=(stream_iff.1 (ok_parts.1 A.ok).2).1;omega
 have hok:(hopsB (xs.map (·.h)) W0.rs&&W0.sm.ok)=true:=by rw [A.hs,←stream_sm];exact A.ok
 have hrl:=roads_len (hops_iff.1 (ok_parts.1 A.ok).1).2.1
 have hOK:=fun w' (b:Below w.heap.size w w')=>specWorldOk (some ⟨g,0,none⟩) aR 3 W0.rs.length cH cR xs W0.rs W0.sm w' A.len.symm rfl (A.L.ll.later b) (A.R.lies.later b) (by rw [A.len];decide) (by omega) (fun x hx=>(sms_of A.ok A.hs x hx).1) hsz
 rw [hok]at hOK
 have v1:Var 31 ((w.alloc (.cells (W7 W0 g cH aR cR).toArray 31)).alloc (.cells Z7.toArray 31)) w.heap.size (W7 W0 g cH aR cR):=(Var.new w _).alloc _
 have v2:Var 31 ((w.alloc (.cells (W7 W0 g cH aR cR).toArray 31)).alloc (.cells Z7.toArray 31)) (w.heap.size+1) Z7:=by
  have q:=Var.new (T:=31) (w.alloc (.cells (W7 W0 g cH aR cR).toArray 31)) Z7
  simpa using q
 have b1:Below w.heap.size w ((w.alloc (.cells (W7 W0 g cH aR cR).toArray 31)).alloc (.cells Z7.toArray 31)):=((Below.refl _ _).alloc (Nat.le_refl _) _).alloc (by simp) _
 have S:PS B w ((w.alloc (.cells (W7 W0 g cH aR cR).toArray 31)).alloc (.cells Z7.toArray 31)) W0 g cH xs aR cR:=⟨v1,A.later b1,v2,b1⟩
 have HL:Hid (actE.Lies w aL L):=hL
 have HT:Hid (∀a∈L,a.tx.size≤2097152):=htx
 clear v1 v2 b1 A hok hL htx hsz hrl
 go_enter Tryz.func18,Tryz.ntmps18
 go_upto_region 1 with(fail)
 generalize ((w.alloc (.cells (W7 W0 g cH aR cR).toArray 31)).alloc (.cells Z7.toArray 31))=V at *
 obtain⟨c0,c1,c2,c3,c4,c5,c6⟩:=S.v.c7
 have h3: ¬(300:Int)<(L.length:Int):=by omega
 go_wp2_with fail
 refine(hOK _ S.bel).mono ?_
 rintro x w1 ⟨rfl,b2⟩
 replace S:=S.later b2
 clear b2 hOK c0 c1 c2 c3 c4 c5 c6
 go_wp2_with fail
 clear h3
 go_loopw [5] (fun jv wr=> ∃(j:Nat) (W:Wd) (g cH:Nat) (xs:List Ha) (aR:Option Addr) (cR:Nat),j≤L.length∧jv=.int .i64 j∧W=play W0 (L.take j)∧PS B w wr W g cH xs aR cR) (fun jv _=>L.length-(intOf jv).toNat)
 case atStart=>exact⟨0,W0,g,cH,xs,aR,cR,by omega,rfl,rfl,S⟩
 case round=>
  clear S
  obtain⟨j,W,g4,h4,xs4,a4,r4,hj,rfl,hW,S⟩:=hrel
  by_cases hjl:j<L.length
  ·have j0:(j:Int)<(L.length:Int):=by omega
   have j1:(0:Int)≤(j:Int):=by omega
   obtain⟨a,ha⟩: ∃a,L[j]? =some a:=⟨L[j],List.getElem?_eq_getElem hjl⟩
   have hat:a.tx.size≤2097152:=HT.out a (List.mem_of_getElem? ha)
   have hW':Hid (play W0 (L.take (j+1))=(happenW W a).1):=by rw [hW];exact play_next ha
   clear hW
   obtain⟨bL,oL,rfl⟩: ∃b o,aL=some ⟨b,o,none⟩:=by
    rcases HL.out with q|⟨b,o,e,_⟩
    ·rw [q]at hjl;simp at hjl
    ·exact⟨b,o,e⟩
   have HA:Hid (L[j]? =some a):=ha
   clear ha
   have hst: ∀q∈([(5,9,TieT B (happenW W a).2 (happenW W a).1),(6,9,TieT B (happenW W a).2 (happenW W a).1),(7,9,fun v w'=>WHold w' B v (happenW W a).1),(6,6,fun v _=> ∃u,v=Value.tuple #[u,.bool (happenW W a).2])]:List RegJ.Tie),∀v (w1 w2:World),Below w1.heap.size w1 w2→q.2.2 v w1→q.2.2 v w2:=by
    intro q hq v wa wb ba h
    simp only [List.mem_cons,List.not_mem_nil,or_false]at hq
    rcases hq with rfl|rfl|rfl|rfl
    ·exact TieT.later h ba
    ·exact TieT.later h ba
    ·exact WHold.later h ba
    ·exact h
   have keepW: ∀(q:Nat) (d:Nat→Bool) (w':World),(fun d w'=>(d 9=false→PS B w w' W g4 h4 xs4 a4 r4)∧(d 9=true→ ∃g cH xs aR cR,PS B w w' (happenW W a).1 g cH xs aR cR)) d w'→q≠9→(fun d w'=>(d 9=false→PS B w w' W g4 h4 xs4 a4 r4)∧(d 9=true→ ∃g cH xs aR cR,PS B w w' (happenW W a).1 g cH xs aR cR)) (fun j=>j==q||d j) w':=fun q d w' h hq=>⟨fun e=>h.1 (by rw [←or_ne (d:=d) (Ne.symm hq)];exact e),fun e=>h.2 (by rw [←or_ne (d:=d) (Ne.symm hq)];exact e)⟩
   go_wp2_with fail
   refine RegJ.wp_region_J (W:=(fun d w'=>(d 9=false→PS B w w' W g4 h4 xs4 a4 r4)∧(d 9=true→ ∃g cH xs aR cR,PS B w w' (happenW W a).1 g cH xs aR cR))) (RegJ.ValE [some (.agg (W7 W g4 h4 a4 r4).toArray),some (.slice (some ⟨bL,oL,none⟩) L.length capL),some (.int .i64 (j:Int)),some (.pointer (some ⟨bL,oL+j*6,none⟩)),some (a.v),none,none,none,none,none] ([(5,9,TieT B (happenW W a).2 (happenW W a).1),(6,9,TieT B (happenW W a).2 (happenW W a).1),(7,9,fun v w'=>WHold w' B v (happenW W a).1),(6,6,fun v _=> ∃u,v=Value.tuple #[u,.bool (happenW W a).2])])) [some 22,some 23,some 24,some 25,some 26,some 27,some 21,some 28,some 29,none] (F:=?_) (is:=[0,1,2,3,4,5,6,7,8,9]) hmix (by kernel_rfl) (by kernel_rfl) (by kernel_rfl) (by kernel_rfl) (fun x=>?_) (⟨fun _=>S.drew,fun e=>by cases e⟩) ?_ (fun dR xR wR hWR hdR hJR=>?_)
   rotate_left 1
   focus (simp only [RegJ.lay,Act.put,Nat.reduceAdd,Nat.zero_add,Draw.lays];rfl)
   focus
    iterate 10 (refine RegJ.Steps.cons (RegJ.StepAt.mk rfl (fun d x w1 hW1 hJ1 hx1 K hK=>?_)) ?_;simp only [Draw.lays]at hK;rotate_left 1)
    exact RegJ.Steps.nil
    ·have A1:=hW1.1 (hx1.out 9 (.inr (by kernel_rfl))).1;exact step_load_win (by rfl) _ (by rfl) (by rfl) (vs:=W7 W g4 h4 a4 r4) infoWorld structWorld A1.v.win (hK.out _ _ (keepW 0 d _ hW1 (by decide)) RegJ.ValE.same (RegJ.ValE.free (Or.inl rfl) rfl))
    ·go_simp;exact hK.out _ _ (keepW 1 d _ hW1 (by decide)) RegJ.ValE.same (RegJ.ValE.free (Or.inl rfl) rfl)
    ·go_simp;exact hK.out _ _ (keepW 2 d _ hW1 (by decide)) RegJ.ValE.same (RegJ.ValE.free (Or.inl rfl) rfl)
    ·have j1:x 1=_:=(hJ1.out 1 (by kernel_rfl)).val rfl;rw [j1]at hK;have j2:x 2=_:=(hJ1.out 2 (by kernel_rfl)).val rfl;rw [j2]at hK;go_simp;exact hK.out _ _ (keepW 3 d _ hW1 (by decide)) RegJ.ValE.same (RegJ.ValE.free (Or.inl rfl) rfl)
    ·have j3:x 3=_:=(hJ1.out 3 (by kernel_rfl)).val rfl;have A1:=hW1.1 (hx1.out 9 (.inr (by kernel_rfl))).1;exact step_load_cells (by rfl) _ (by rfl) (by exact j3) (vs:=a.c) infoAct1 structAct (El.Lies.cells (HL.out.later A1.bel) HA.out) (hK.out _ _ (keepW 4 d _ hW1 (by decide)) RegJ.ValE.same (RegJ.ValE.free (Or.inl rfl) rfl))
    ·have j0:x 0=_:=(hJ1.out 0 (by kernel_rfl)).val rfl;rw [j0]at hK;have j4:x 4=_:=(hJ1.out 4 (by kernel_rfl)).val rfl;rw [j4]at hK;have qS:=hW1.1 (hx1.out 9 (.inr (by kernel_rfl))).1;go_simp;refine(l16Happen B W a hat a4 g4 h4 r4 xs4 _ qS.A (Nat.le_trans hB qS.bel.size)).mono ?_;rintro e wa ⟨u,rfl,hold,ba⟩;go_simp;exact hK.out _ _ ⟨fun _=>qS.later ba,fun e=>absurd e (by simp [(hx1.out 9 (.inr (by kernel_rfl))).1])⟩ (RegJ.ValE.keep (fun q hq=>.inr (.inr fun v h=>hst q hq v _ _ ba h))) (RegJ.ValE.got 0 _ _ (Or.inr rfl) rfl rfl ⟨u,rfl,hold⟩)
    ·obtain⟨u,j5,hold⟩:=((hJ1.out 5 (by kernel_rfl)).tie 0 rfl (.inr (hx1.out 9 (.inr (by kernel_rfl))).1));rw [j5]at hK;go_simp;exact hK.out _ _ (keepW 6 d _ hW1 (by decide)) RegJ.ValE.same (RegJ.ValE.this (Or.inr rfl) (by intro q hq he;simp only [List.mem_cons,List.not_mem_nil,or_false]at hq;rcases hq with rfl|rfl|rfl|rfl;cases he;exact⟨u,rfl,hold⟩;cases he;exact⟨u,rfl⟩))
    ·obtain⟨u,j6,hold⟩:=((hJ1.out 6 (by kernel_rfl)).tie 1 rfl (.inr (hx1.out 9 (.inr (by kernel_rfl))).1));rw [j6]at hK;go_simp;exact hK.out _ _ (keepW 7 d _ hW1 (by decide)) RegJ.ValE.same (RegJ.ValE.got 2 _ _ (Or.inr rfl) rfl rfl hold)
    ·obtain⟨u,j6⟩:=((hJ1.out 6 (by kernel_rfl)).tie 3 rfl (.inl rfl));rw [j6]at hK;go_simp;exact hK.out _ _ (keepW 8 d _ hW1 (by decide)) RegJ.ValE.same (RegJ.ValE.free (Or.inr rfl) rfl)
    ·have qS:=hW1.1 (hx1.out 9 (.inl rfl)).1;obtain⟨g5,h5,xs5,a5,r5,j7,A5⟩:=((hJ1.out 7 (by kernel_rfl)).tie 2 rfl (.inr (hx1.out 9 (.inl rfl)).1));have j7:x 7=_:=j7;rw [j7]at hK;have c0:=qS.v.cell (i:=0) rfl;have c1:=qS.v.cell (i:=1) rfl;have c2:=qS.v.cell (i:=2) rfl;have c3:=qS.v.cell (i:=3) rfl;have c4:=qS.v.cell (i:=4) rfl;have c5:=qS.v.cell (i:=5) rfl;have c6:=qS.v.cell (i:=6) rfl;have y0:=qS.v.free 0;have y1:=qS.v.free 1;have y2:=qS.v.free 2;have y3:=qS.v.free 3;have y4:=qS.v.free 4;have y5:=qS.v.free 5;have y6:=qS.v.free 6;go_simp;exact hK.out undef _ ⟨fun e=>absurd e (by simp),fun _=>⟨g5,h5,xs5,a5,r5,qS.store A5⟩⟩ (RegJ.ValE.keep (by intro q hq;simp only [List.mem_cons,List.not_mem_nil,or_false]at hq;rcases hq with rfl|rfl|rfl|rfl;exact .inr (.inl ⟨by simp,.inl rfl⟩);exact .inr (.inl ⟨by simp,.inl rfl⟩);exact .inr (.inl ⟨by simp,.inl rfl⟩);exact .inr (.inr fun v h=>h))) (RegJ.ValE.free (Or.inr rfl) rfl)
   obtain⟨g5,h5,xs5,a5,r5,S'⟩:=hWR.2 (hdR 9 (by simp))
   clear hWR hdR hJR keepW hst HA hat S
   go_wp2_with fail
   go_roundw
   case rel=>exact⟨j+1,_,g5,h5,xs5,a5,r5,by omega,by simp,hW'.out.symm,S'⟩
   case measure=>simp [intOf] <;>omega
  ·have j0: ¬(j:Int)<(L.length:Int):=by omega
   have hWe:Hid (W=play W0 L):=by rw [hW,List.take_of_length_le (by omega)];exact rfl
   clear hW
   obtain⟨c0,c1,c2,c3,c4,c5,c6⟩:=S.v.c7
   go_wp2_with fail
   refine(l16Copy W _ a4 h4 r4 xs4 _ S.A.L.ll S.A.hs S.A.R.lies S.A.R.none_cap S.A.ok).mono ?_
   rintro e w5 ⟨v,rfl,⟨g5,h5,xs5,a5,r5,rfl,A5⟩,b5⟩
   have hz:=S.bel.size
   replace S:=S.later b5
   clear c0 c1 c2 c3 c4 c5 c6
   have c0:=S.vR.cell (i:=0) rfl
   have c1:=S.vR.cell (i:=1) rfl
   have c2:=S.vR.cell (i:=2) rfl
   have c3:=S.vR.cell (i:=3) rfl
   have c4:=S.vR.cell (i:=4) rfl
   have c5:=S.vR.cell (i:=5) rfl
   have c6:=S.vR.cell (i:=6) rfl
   have y0:=S.vR.free 0
   have y1:=S.vR.free 1
   have y2:=S.vR.free 2
   have y3:=S.vR.free 3
   have y4:=S.vR.free 4
   have y5:=S.vR.free 5
   have y6:=S.vR.free 6
   go_wp2_with fail
   clear c0 c1 c2 c3 c4 c5 c6 y0 y1 y2 y3 y4 y5 y6
   have ka:=kept7 w5 (w.heap.size+1) (.slice (some ⟨g5,0,none⟩) 3 h5) (.slice a5 W.rs.length r5) (.string W.tx) (.int .i64 W.rd) (.bool W.en) (.bool W.dn) (.bool W.sn)
   have vv:=var7 S.vR (.slice (some ⟨g5,0,none⟩) 3 h5) (.slice a5 W.rs.length r5) (.string W.tx) (.int .i64 W.rd) (.bool W.en) (.bool W.dn) (.bool W.sn)
   have A6:=A5.keptV S.vR (by decide) (by decide) (by decide) (by decide) ka
   have B6:=S.bel.trans (ka.below (by omega) S.bel.size)
   clear ka A5 S
   simp only [put7]at vv A6 B6
   generalize (((((((w5.setCell ⟨w.heap.size+1,0,none⟩ (.slice (some ⟨g5,0,none⟩) 3 h5)).setCell ⟨w.heap.size+1,1,none⟩ (.slice a5 W.rs.length r5)).setCell ⟨w.heap.size+1,2,none⟩ (.string W.tx)).setCell ⟨w.heap.size+1,3,none⟩ (.int .i64 W.rd)).setCell ⟨w.heap.size+1,4,none⟩ (.bool W.en)).setCell ⟨w.heap.size+1,5,none⟩ (.bool W.dn)).setCell ⟨w.heap.size+1,6,none⟩ (.bool W.sn))=WZ at *
   obtain⟨c0,c1,c2,c3,c4,c5,c6⟩:=vv.c7
   refine bodyPost_ret (v:=.agg (W7 W g5 h5 a5 r5).toArray) (by rw [Hop.res_one rfl];go_simp) rfl ⟨_,rfl,?_,B6⟩
   rw [←hWe.out]
   exact⟨g5,h5,xs5,a5,r5,rfl,⟨A6.L.mono hz,A6.hs,A6.R.mono hz,A6.ok⟩⟩
end Go.Proofs.YtfmcahjdhoabcaaGreat.Wor
namespace Go.Proofs.YtfmcahjdhoabcaaGreat.Cou
open Go.RowKit RowG Hop Lin Wor
theorem three {hs:List Hp}(h:hs.length=3): ∃a b c,hs=[a,b,c]:=by
 match hs,h with
 | [a,b,c],_=>exact⟨a,b,c,rfl⟩
theorem under {W:Wd}(h:okW W=true)(I:Inv W):
  (∀k,k<6→(0<k→capAt ((deskL W.hs).map endK) k≤capAt ((deskL W.hs).map endK) (k-1))∧capAt ((deskL W.hs).map Prod.fst) k≤capAt ((deskL W.hs).map endK) k)∧
  capAt ((deskL W.hs).map endK) 0=W.tx.size∧capAt ((deskL W.hs).map Prod.fst) 5=W.rd∧0≤(W.tx.size:Int)-W.rd∧(W.tx.size:Int)-W.rd≤sumC W.hs 3:=by
 obtain⟨h1,h2,h3,h4⟩:=hang h I
 obtain⟨r1,r2⟩:=room h I
 have e0:=h1 0 (by decide)
 have e1:=h1 1 (by decide)
 have e2:=h1 2 (by decide)
 have g0:=h2 0 (by decide)
 have g1:=h2 1 (by decide)
 obtain⟨a,b,c,hw⟩:=three (len3 h)
 simp only [Wd.beg,Wd.at,hw,List.getD_cons_zero,List.getD_cons_succ]at e0 e1 e2 g0 g1 h3 h4 r2
 have hE:(deskL W.hs).map endK=[a.g.ba+a.g.bs.size,a.t.nx-a.t.bs.size+a.t.bs.size,b.g.ba+b.g.bs.size,b.t.nx-b.t.bs.size+b.t.bs.size,c.g.ba+c.g.bs.size,c.t.nx-c.t.bs.size+c.t.bs.size]:=by rw [hw];rfl
 have hS:(deskL W.hs).map Prod.fst=[a.g.ba,a.t.nx-a.t.bs.size,b.g.ba,b.t.nx-b.t.bs.size,c.g.ba,c.t.nx-c.t.bs.size]:=by rw [hw];rfl
 have hC:sumC W.hs 3=(a.g.cp+a.t.cp)+((b.g.cp+b.t.cp)+((c.g.cp+c.t.cp)+0)):=by rw [hw];rfl
 rw [hE,hS,hC]
 refine⟨fun k hk=>?_,?_,?_,r1,by omega⟩
 ·have:k=0∨k=1∨k=2∨k=3∨k=4∨k=5:=by omega
  rcases this with rfl|rfl|rfl|rfl|rfl|rfl <;>refine⟨fun hp=>?_,?_⟩ <;>simp only [capAt,List.getD_cons_zero,List.getD_cons_succ,Nat.sub_self,Nat.add_one_sub_one,Nat.reduceSub] <;>omega
 ·show a.g.ba+(a.g.bs.size:Int)=_
  omega
 ·show c.t.nx-(c.t.bs.size:Int)=_
  omega
theorem play_inv {l:List Int}{n:Int}(hc:capsB l n=true)(L:List Ac):okW (play (newW l n) L)=true∧Inv (play (newW l n) L):=ok_inv_all (ok_new hc) (inv_new l n) L
theorem told_len (hs:List Hp)(rs:List Roa.Rd):(toldL hs rs).length≤100:=by
 unfold toldL
 split
 ·rename_i h
  rw [deskL_len,(hops_iff.1 h).1]
  decide
 ·exact Nat.zero_le _
theorem ends_len (hs:List Hp)(rs:List Roa.Rd):(endsL hs rs).length≤100:=by rw [endsL,List.length_map];exact told_len hs rs
theorem starts_len (hs:List Hp)(rs:List Roa.Rd):(startsL hs rs).length≤100:=by rw [startsL,List.length_map];exact told_len hs rs
structure UW (w:World)(k3 k4 k5:Nat)(l3 l4 l5:List Value)(w':World):Prop where
 q:Var 31 w' k3 l3
 a:Var 27 w' k4 l4
 b':Var 27 w' k5 l5
 b:Below w.heap.size w w'
theorem UW.later {w:World}{k3 k4 k5:Nat}{l3 l4 l5:List Value}{w1 w2:World}(h:UW w k3 k4 k5 l3 l4 l5 w1)(b:Below w1.heap.size w1 w2):UW w k3 k4 k5 l3 l4 l5 w2:=⟨h.q.later b,h.a.later b,h.b'.later b,h.b.trans (b.mono h.b.size)⟩
theorem UW.drew {w:World}{k3 k4 k5:Nat}{l3 l4 l5:List Value}{w1:World}(h:UW w k3 k4 k5 l3 l4 l5 w1):UW w k3 k4 k5 l3 l4 l5 w1.drew:=⟨h.q.drew,h.a.drew,h.b'.drew,h.b.drew⟩
end Go.Proofs.YtfmcahjdhoabcaaGreat.Cou
namespace Go.Proofs.YtfmcahjdhoabcaaGreat.Wor
open Go.RowKit RowG Hop Roa Pum Lin
structure DP (c k:Nat)(w wr:World)(aH:Option Addr)(cH:Nat)(xs:List Ha)(aR:Option Addr)(cR:Nat)(rs:List Rd)(s:Str.Sm)(aL:Option Addr)(L:List Ac):Prop where
 v:Var 31 wr k (A7 aH xs.length cH aR rs.length cR s)
 vR:Var 31 wr w.heap.size Z7
 D:DL wr aH xs aR rs
 lo:DLo (w.heap.size+2) aH xs aR
 sz:s.tx.size≤2001
 cu:Draw.Cur wr c
 bel:Below w.heap.size w wr
 hc:c=w.heap.size+1
 hk:c<k
 al:actE.Lies wr aL L
 ab: ∀x,aL=some x→k<x.block
 tx: ∀a∈L,a.tx.size≤12
theorem DP.drawn {c k:Nat}{w wr wa:World}{aH:Option Addr}{cH:Nat}{xs:List Ha}{aR:Option Addr}{cR:Nat}{rs:List Rd}{s:Str.Sm}{aL:Option Addr}{L:List Ac}(q:DP c k w wr aH cH xs aR cR rs s aL L)(cu:Draw.Cur wa c)(ka:Draw.Kept c wr wa):DP c k w wa aH cH xs aR cR rs s aL L:=by
 have h1:=q.hk
 have h2:=q.hc
 refine⟨q.v.kept ka (by omega),q.vR.kept ka (by omega),q.D.kept ka (fun x hx=>?_) (fun x hx=>?_) (fun x hx=>⟨fun y hy=>?_,fun y hy=>?_⟩),q.lo,q.sz,cu,q.bel.trans (ka.below (by omega) q.bel.size),h2,h1,q.al.kept ka (fun x hx=>?_),q.ab,q.tx⟩
 ·have:=q.lo.h x hx;omega
 ·have:=q.lo.r x hx;omega
 ·have:=(q.lo.x x hx).1 y hy;omega
 ·have:=(q.lo.x x hx).2 y hy;omega
 ·have:=q.ab x hx;omega
theorem DP.acts {c k:Nat}{w wr:World}{aH:Option Addr}{cH:Nat}{xs:List Ha}{aR:Option Addr}{cR:Nat}{rs:List Rd}{s:Str.Sm}{aL:Option Addr}{L:List Ac}{aL':Option Addr}{L':List Ac}(q:DP c k w wr aH cH xs aR cR rs s aL L)(al:actE.Lies wr aL' L')(ab: ∀x,aL'=some x→k<x.block)(tx: ∀a∈L',a.tx.size≤12):DP c k w wr aH cH xs aR cR rs s aL' L':=⟨q.v,q.vR,q.D,q.lo,q.sz,q.cu,q.bel,q.hc,q.hk,al,ab,tx⟩
theorem DP.later {c k:Nat}{w wr wa:World}{aH:Option Addr}{cH:Nat}{xs:List Ha}{aR:Option Addr}{cR:Nat}{rs:List Rd}{s:Str.Sm}{aL:Option Addr}{L:List Ac}(q:DP c k w wr aH cH xs aR cR rs s aL L)(b:Below wr.heap.size wr wa):DP c k w wa aH cH xs aR cR rs s aL L:=q.drawn (q.cu.below b (Nat.le_refl _)) (Draw.Kept.ofBelow b (Nat.le_refl _))
theorem DP.store {c k:Nat}{w wr:World}{aH:Option Addr}{cH:Nat}{xs:List Ha}{aR:Option Addr}{cR:Nat}{rs:List Rd}{s:Str.Sm}{aL:Option Addr}{L:List Ac}{aH' aR':Option Addr}{cH' cR' B:Nat}{xs':List Ha}{rs':List Rd}{s':Str.Sm}(q:DP c k w wr aH cH xs aR cR rs s aL L)(D:DL wr aH' xs' aR' rs')(lo:DLo B aH' xs' aR')(hB:w.heap.size+2≤B)(hz:s'.tx.size≤2001):
  DP c k w (put7 wr k (.slice aH' xs'.length cH') (.slice aR' rs'.length cR') (.string s'.tx) (.int .i64 s'.rd) (.bool s'.en) (.bool s'.dn) (.bool s'.sn)) aH' cH' xs' aR' cR' rs' s' aL L:=by
 have ka:=kept7 wr k (.slice aH' xs'.length cH') (.slice aR' rs'.length cR') (.string s'.tx) (.int .i64 s'.rd) (.bool s'.en) (.bool s'.dn) (.bool s'.sn)
 have h1:=q.hk
 have h2:=q.hc
 refine⟨var7 q.v _ _ _ _ _ _ _,q.vR.kept ka (by omega),D.keptV q.v ntWorld ka,⟨fun x hx=>?_,fun x hx=>?_,fun y hy=>⟨fun x hx=>?_,fun x hx=>?_⟩⟩,hz,cur_put q.cu h1 ka,q.bel.trans (ka.below (by omega) q.bel.size),h2,h1,q.al.kept ka (fun x hx=>by have:=q.ab x hx;omega),q.ab,q.tx⟩
 ·have:=lo.h x hx;omega
 ·have:=lo.r x hx;omega
 ·have:=(lo.x y hy).1 x hx;omega
 ·have:=(lo.x y hy).2 x hx;omega
end Go.Proofs.YtfmcahjdhoabcaaGreat.Wor
namespace Go.Proofs.YtfmcahjdhoabcaaGreat.Wor
open Go.RowKit RowG Hop Roa Pum Lin
theorem made_gen {α:Type}(E:El α)(x:α)(z:Array Value)(hz:z.toList=E.enc x)(n:Nat):(madeCells z (n*E.size)).toList=E.vals (List.replicate n x):=by
 have hs:z.size=E.size:=by
  have:=E.len x
  rw [←hz]at this
  simpa using this
 apply List.ext_getElem?
 intro i
 by_cases hi:i<n*E.size
 ·have hp:=E.pos
  have h1:i / E.size<n:=Nat.div_lt_of_lt_mul (by rwa [Nat.mul_comm])
  have h2:i%E.size<z.size:=by rw [hs];exact Nat.mod_lt _ hp
  have hu:(E.enc x)[i%E.size]? =some z[i%E.size]:=by rw [←hz];simp [h2]
  have:=E.vals_at (List.replicate n x) (i / E.size) x (i%E.size) _ (by rw [List.getElem?_replicate,if_pos h1]) hu
  rw [Nat.div_add_mod']at this
  rw [this]
  simp [madeCells,hi,hs]
  rw [getElem!_pos z _ h2]
 ·rw [List.getElem?_eq_none (by simp [madeCells];omega),List.getElem?_eq_none (by rw [E.vals_len,List.length_replicate];omega)]
theorem act_made {w w1:World}{n:Nat}(h:w1.ownsRow w.heap.size 70 6 (.slice (some ⟨w.heap.size,0,none⟩) n n) n (madeCells #[.int .i64 0,.int .i64 0,.int .i64 0,.int .i64 0,.int .i64 0,.string ⟨#[]⟩] (n*6)).toList):actE.Own 70 w1 w.heap.size (some ⟨w.heap.size,0,none⟩) n (List.replicate n ⟨0,0,0,0,0,⟨#[]⟩⟩):=by
 unfold El.Own
 rw [←made_gen actE ⟨0,0,0,0,0,⟨#[]⟩⟩ #[.int .i64 0,.int .i64 0,.int .i64 0,.int .i64 0,.int .i64 0,.string ⟨#[]⟩] rfl n,List.length_replicate]
 exact h
theorem drawWorldOk (a:Option Addr)(len cap:Nat)(w:World)(hb:Draw.Bytes w a len)(hl:len≤4096):
  Calls Tryz.prog 23 #[.slice a len cap] w fun e w'=> ∃(aH aR:Option Addr) (cH cR:Nat) (xs:List Ha) (rs:List Rd) (s:Str.Sm),e=.returned (.agg (A7 aH xs.length cH aR rs.length cR s).toArray)∧DL w' aH xs aR rs∧s.tx.size≤2001∧Below w.heap.size w w':=by
 have b0:=(Below.refl w.heap.size w).alloc (Nat.le_refl _) (.cells Z7.toArray 31)
 have vR:Var 31 (w.alloc (.cells Z7.toArray 31)) w.heap.size Z7:=Var.new w _
 have hb0:=hb.below b0 (Nat.le_refl _)
 go_enter Tryz.func23,Tryz.ntmps23
 go_wp2_with fail
 generalize w.alloc (.cells _ 31)=V at *
 have hV:=vR.lt
 refine(Draw.l1New a len cap _ hb0 hl).mono ?_
 rintro x w1 ⟨rfl,hh,hw1⟩
 have c1:Draw.Cur w1 V.heap.size:=by rw [hw1];exact Draw.cur_new hb0 hl hh _
 have b1:Below V.heap.size V w1:=by rw [hw1];exact(Below.refl _ _).alloc (Nat.le_refl _) _
 replace vR:=vR.later b1
 have B1:=b0.trans (b1.mono b0.size)
 clear hw1 b0 b1
 go_wp2_with fail
 refine(l16DrawAny _ _ c1).mono ?_
 rintro e w2 ⟨aH,aR,cH,cR,xs,rs,s,rfl,D,-,hz,c2,k2⟩
 replace vR:=vR.kept k2 (by omega)
 have B2:Below w.heap.size w w2:=B1.trans (k2.below (Nat.le_of_lt hV) B1.size)
 clear c1 c2 k2 B1 hV
 obtain⟨d0,d1,d2,d3,d4,d5,d6⟩:=vR.c7
 obtain⟨y0,y1,y2,y3,y4,y5,y6⟩:=vR.f7
 go_wp2_with fail
 clear d0 d1 d2 d3 d4 d5 d6 y0 y1 y2 y3 y4 y5 y6
 have ka:=kept7 w2 w.heap.size (.slice aH xs.length cH) (.slice aR rs.length cR) (.string s.tx) (.int .i64 s.rd) (.bool s.en) (.bool s.dn) (.bool s.sn)
 have vv:=var7 vR (.slice aH xs.length cH) (.slice aR rs.length cR) (.string s.tx) (.int .i64 s.rd) (.bool s.en) (.bool s.dn) (.bool s.sn)
 have D6:=D.keptV vR ntWorld ka
 have B6:=B2.trans (ka.below (Nat.le_refl _) B2.size)
 clear D B2 vR ka
 simp only [put7]at vv D6 B6
 generalize World.setCell _ ⟨w.heap.size,6,none⟩ (.bool s.sn)=WZ at *
 obtain⟨c0,c1,c2,c3,c4,c5,c6⟩:=vv.c7
 refine bodyPost_ret (v:=.agg (A7 aH xs.length cH aR rs.length cR s).toArray) (by rw [Hop.res_one rfl];go_simp) rfl ⟨aH,aR,cH,cR,xs,rs,s,rfl,D6,hz,B6⟩
theorem drawUnderWay (a:Option Addr)(len cap:Nat)(w:World)(hb:Draw.Bytes w a len)(hl:len≤4096):
  Calls Tryz.prog 6 #[.slice a len cap] w fun e w'=> ∃(aH aR:Option Addr) (cH cR:Nat) (xs:List Ha) (rs:List Rd) (s:Str.Sm),e=.returned (.agg (A7 aH xs.length cH aR rs.length cR s).toArray)∧DL w' aH xs aR rs∧s.tx.size≤2001∧Below w.heap.size w w':=by
 have b0:=(Below.refl w.heap.size w).alloc (Nat.le_refl _) (.cells Z7.toArray 31)
 have vR:Var 31 (w.alloc (.cells Z7.toArray 31)) w.heap.size Z7:=Var.new w _
 have hb0:=hb.below b0 (Nat.le_refl _)
 go_enter Tryz.func6,Tryz.ntmps6
 go_wp2_with fail
 generalize w.alloc (.cells _ 31)=V at *
 refine(drawWorldOk a len cap _ hb0 hl).mono ?_
 rintro e w2 ⟨aH,aR,cH,cR,xs,rs,s,rfl,D,hz,b2⟩
 replace vR:=vR.later b2
 have B2:=b0.trans (b2.mono b0.size)
 clear b0 b2
 obtain⟨d0,d1,d2,d3,d4,d5,d6⟩:=vR.c7
 obtain⟨y0,y1,y2,y3,y4,y5,y6⟩:=vR.f7
 go_wp2_with fail
 clear d0 d1 d2 d3 d4 d5 d6 y0 y1 y2 y3 y4 y5 y6
 have ka:=kept7 w2 w.heap.size (.slice aH xs.length cH) (.slice aR rs.length cR) (.string s.tx) (.int .i64 s.rd) (.bool s.en) (.bool s.dn) (.bool s.sn)
 have vv:=var7 vR (.slice aH xs.length cH) (.slice aR rs.length cR) (.string s.tx) (.int .i64 s.rd) (.bool s.en) (.bool s.dn) (.bool s.sn)
 have D6:=D.keptV vR ntWorld ka
 have B6:=B2.trans (ka.below (Nat.le_refl _) B2.size)
 clear D B2 vR ka
 simp only [put7]at vv D6 B6
 generalize World.setCell _ ⟨w.heap.size,6,none⟩ (.bool s.sn)=WZ at *
 obtain⟨c0,c1,c2,c3,c4,c5,c6⟩:=vv.c7
 refine bodyPost_ret (v:=.agg (A7 aH xs.length cH aR rs.length cR s).toArray) (by rw [Hop.res_one rfl];go_simp) rfl ⟨aH,aR,cH,cR,xs,rs,s,rfl,D6,hz,B6⟩
theorem drawPlay (a:Option Addr)(len cap:Nat)(w:World)(hb:Draw.Bytes w a len)(hl:len≤4096):
  Calls Tryz.prog 16 #[.slice a len cap] w fun e w'=> ∃(aH aR:Option Addr) (cH cR:Nat) (xs:List Ha) (rs:List Rd) (s:Str.Sm) (aL:Option Addr) (capL:Nat) (L:List Ac),e=.returned (.tuple #[.agg (A7 aH xs.length cH aR rs.length cR s).toArray,.slice aL L.length capL])∧DL w' aH xs aR rs∧s.tx.size≤2001∧actE.Lies w' aL L∧L.length≤2000∧(∀a∈L,a.tx.size≤12)∧Below w.heap.size w w':=by
 have hmix:=Roa.mix
 have vR:Var 31 (w.alloc (.cells Z7.toArray 31)) w.heap.size Z7:=Var.new w _
 have b0:Below w.heap.size w (w.alloc (.cells Z7.toArray 31)):=(Below.refl _ _).alloc (Nat.le_refl _) _
 have hb0:=hb.below b0 (Nat.le_refl _)
 go_enter Tryz.func16,Tryz.ntmps16
 go_wp2_with fail
 refine(Draw.l1New a len cap _ hb0 hl).mono ?_
 rintro x w1 ⟨rfl,hh,hw1⟩
 have c1:Draw.Cur w1 (w.heap.size+1):=by rw [hw1];simpa using Draw.cur_new hb0 hl hh _
 have b1:Below (w.heap.size+1) (w.alloc (.cells Z7.toArray 31)) w1:=by rw [hw1];exact(Below.refl _ _).alloc (by simp) _
 have hs1:w.heap.size+2≤w1.heap.size:=c1.lt
 replace vR:=vR.later (b1.mono (by simp))
 replace b0:=b0.trans (b1.mono (by simp))
 clear b1 hw1 hb0 hb hl
 go_wp2_with fail
 refine(l16New _ _ c1).mono ?_
 rintro x w2 ⟨l,n,v,hcp,rfl,⟨g2,h2,xs2,a2,r2,rfl,A2⟩,cu2,k2⟩
 generalize newW l n=W at *
 clear hcp
 have hx3:=A2.len
 have hrl:=roads_len (hops_iff.1 (ok_parts.1 A2.ok).1).2.1
 have htx:=(stream_iff.1 (ok_parts.1 A2.ok).2).1
 have D:DP (w.heap.size+1) w2.heap.size w (w2.alloc (.cells #[.slice (some ⟨g2,0,none⟩) 3 h2,.slice a2 W.rs.length r2,.string W.tx,.int .i64 W.rd,.bool W.en,.bool W.dn,.bool W.sn] 31)) (some ⟨g2,0,none⟩) h2 xs2 a2 r2 W.rs W.sm none []:=by
  have hz1:=k2.size
  have LD:=LineLay.dl A2.L A2.R (by omega) (by omega) (fun x hx=>(sms_of A2.ok A2.hs x hx).1)
  have lo:=LineLay.lo (A2.L.mono hs1) (A2.R.mono hs1)
  refine⟨?_,(vR.kept k2 (by omega)).alloc _,LD.later ((Below.refl _ _).alloc (Nat.le_refl _) _),lo,by show W.tx.size≤2001;omega,cu2.alloc _,(b0.trans (k2.below (by omega) b0.size)).alloc (b0.trans (k2.below (by omega) b0.size)).size _,rfl,by omega,.inl rfl,(fun x hx=>by cases hx),(fun a ha=>by cases ha)⟩
  have q:=Var.new (T:=31) w2 (A7 (some ⟨g2,0,none⟩) 3 h2 a2 W.rs.length r2 W.sm)
  rw [hx3]
  exact q
 have A3:=A2.later ((Below.refl w2.heap.size w2).alloc (Nat.le_refl _) (.cells #[.slice (some ⟨g2,0,none⟩) 3 h2,.slice a2 W.rs.length r2,.string W.tx,.int .i64 W.rd,.bool W.en,.bool W.dn,.bool W.sn] 31))
 have hzk:w2.heap.size+1≤(w2.alloc (.cells #[.slice (some ⟨g2,0,none⟩) 3 h2,.slice a2 W.rs.length r2,.string W.tx,.int .i64 W.rd,.bool W.en,.bool W.dn,.bool W.sn] 31)).heap.size:=by simp
 clear vR c1 b0 k2 A2 hrl htx hs1
 go_upto_region 3 with(fail)
 generalize w2.alloc (.cells _ 31)=V at *
 generalize w2.heap.size=k at *
 have HX3:Hid (xs2.length=3):=hx3
 clear hx3 cu2
 have c0:=D.v.cell (i:=0) rfl
 rw [HX3.out]at c0
 have c1:=D.v.cell (i:=1) rfl
 have c2:=D.v.cell (i:=2) rfl
 have c3:=D.v.cell (i:=3) rfl
 have c4:=D.v.cell (i:=4) rfl
 have c5:=D.v.cell (i:=5) rfl
 have c6:=D.v.cell (i:=6) rfl
 dsimp only [Wd.sm]at c2 c3 c4 c5 c6
 go_wp2_with fail
 refine(l16DrawActs _ _ 70 (by decide) W a2 g2 h2 r2 xs2 _ A3 D.cu).mono ?_
 rintro x w3 ⟨gL,capL,L,rfl,hL1,hL2,oL,cu3,k3⟩
 have hgL:=(oL.lt _ rfl).1
 dsimp only at hgL
 replace D:=(D.drawn cu3 k3).acts oL.lies (fun x hx=>by cases hx;dsimp only;omega) hL2
 clear cu3 k3 A3 c0 c1 c2 c3 c4 c5 c6
 generalize W.sm=s at *
 generalize W.rs=rs at *
 have HL1:Hid (L.length≤1470):=by have:=hL1;show L.length≤1470;omega
 have HCap:Hid (L.length≤capL):=oL.cap
 clear hL1 hL2 oL hgL HX3 hzk
 go_upto_if 16 with(fail)
 go_cut [6]from 17 (fun v wr=> ∃(aL:Option Addr) (capL:Nat) (L:List Ac),v=.slice aL L.length capL∧L.length≤300∧DP (w.heap.size+1) k w wr (some ⟨g2,0,none⟩) h2 xs2 a2 r2 rs s aL L)
 case first=>
  by_cases h3:L.length≤300
  focus
   have i0: ¬(300:Int)<(L.length:Int):=by omega
   have H3:Hid (L.length≤300):=h3
   clear h3
   go_wp2_with fail
   go_meet
   exact⟨_,_,_,rfl,H3.out,D⟩
  focus
   have i0:(300:Int)<(L.length:Int):=by omega
   have i1:(300:Int)≤(capL:Int):=by have:=HCap.out;omega
   have H3:Hid (¬L.length≤300):=h3
   clear h3
   go_wp2_with fail
   go_meet
   refine⟨_,capL,L.take 300,?_,by rw [List.length_take];omega,D.acts (El.Lies.take D.al 300) D.ab (fun a ha=>D.tx a (List.mem_of_mem_take ha))⟩
   rw [List.length_take,Nat.min_eq_left (by have:=H3.out;omega)]
 case rest=>
 clear D HL1 HCap
 obtain⟨aL,capL,L,rfl,hL3,D⟩:=hcut
 have HL3:Hid (L.length≤300):=hL3
 clear hL3
 go_wp2_with fail
 refine(Draw.l1Once _ _ _ D.cu).mono ?_
 rintro e w4 ⟨b,rfl,cu4,k4⟩
 replace D:=D.drawn cu4 k4
 clear cu4 k4
 go_upto_if 20 with(fail)
 generalize (some ⟨g2,0,none⟩:Option Addr)=aH2 at *
 go_cut []from 21 (fun wr=> ∃aH cH xs aR cR rs s,DP (w.heap.size+1) k w wr aH cH xs aR cR rs s aL L)
 case first=>
  cases b
  case false=>
   go_wp2_with fail
   go_meet
   exact⟨_,_,_,_,_,_,_,D⟩
  case true=>
   go_wp2_with fail
   refine(l16DrawAny _ _ D.cu).mono ?_
   rintro e w5 ⟨aH',aR',cH',cR',xs',rs',s',rfl,D',lo',sz',cu5,k5⟩
   have hz3:=D.cu.lt
   replace D:=D.drawn cu5 k5
   clear cu5 k5
   obtain⟨c0,c1,c2,c3,c4,c5,c6⟩:=D.v.c7
   have f0:=D.v.free 0
   have f1:=D.v.free 1
   have f2:=D.v.free 2
   have f3:=D.v.free 3
   have f4:=D.v.free 4
   have f5:=D.v.free 5
   have f6:=D.v.free 6
   have D2:=D.store (cH':=cH') (cR':=cR') D' lo' (by omega) sz'
   clear D D' lo' sz'
   go_wp2_with fail
   go_meet
   exact⟨_,_,_,_,_,_,_,D2⟩
 case rest=>
 clear D
 obtain⟨aH,cH,xs,aR,cR,rs,s,D⟩:=hcut
 go_wp2_with fail
 refine(Draw.l1Once _ _ _ D.cu).mono ?_
 rintro e w6 ⟨b,rfl,cu6,k6⟩
 replace D:=D.drawn cu6 k6
 clear cu6 k6
 go_upto_if 24 with(fail)
 go_cut [6]from 25 (fun v wr=> ∃(aL:Option Addr) (capL:Nat) (L:List Ac),v=.slice aL L.length capL∧L.length≤301∧DP (w.heap.size+1) k w wr aH cH xs aR cR rs s aL L)
 case first=>
  cases b
  case false=>
   go_wp2_with fail
   go_meet
   exact⟨_,_,_,rfl,by have:=HL3.out;omega,D⟩
  case true=>
   go_wp2_with fail
   refine(Draw.l1Below _ _ _ D.cu).mono ?_
   rintro e w7 ⟨y,y0,y1,rfl,cu7,k7⟩
   replace D:=D.drawn cu7 k7
   clear cu7 k7
   obtain⟨i,hi,hz0,hz1,hz2⟩:=info_parts infoAct
   have y2:y=0∨y=1:=by omega
   clear y0 y1
   rcases y2 with rfl|rfl
   focus
    have hby:i.bytes*300≤281474976710656:=by rw [hz2];decide
    have hmx:300≤maxLen:=by unfold maxLen;decide
    go_wp2_with (at_make;refine wpList_make_full _ (by rfl) _ _ 38 (by rfl) w7.heap.size 70 i (.agg #[.int .i64 0,.int .i64 0,.int .i64 0,.int .i64 0,.int .i64 0,.string ⟨#[]⟩]) 6 Tryz.underlying38 hi hz0 hz1 .i64 .i64 _ _ 300 (by rfl) (by rfl) rfl rfl hby hmx (Nat.le_refl _) ?_;intro w8 hown hgrow)
    have o8:=act_made hown
    have b8:Below w7.heap.size w7 w8:=(Below.refl _ _).grown hgrow (Nat.le_refl _) (fun _ h=>by cases h)
    have hk8:=D.v.lt
    replace D:=(D.later b8).acts o8.lies (fun x hx=>by cases hx;exact hk8) (fun a ha=>by rw [List.eq_of_mem_replicate ha];exact Nat.zero_le _)
    clear hown hgrow b8 o8 hk8 hby hmx hi hz0 hz1 hz2
    go_wp2_with fail
    go_meet
    exact⟨_,_,List.replicate 300 ⟨0,0,0,0,0,⟨#[]⟩⟩,by rw [List.length_replicate],by rw [List.length_replicate];decide,D⟩
   focus
    have hby:i.bytes*301≤281474976710656:=by rw [hz2];decide
    have hmx:301≤maxLen:=by unfold maxLen;decide
    go_wp2_with (at_make;refine wpList_make_full _ (by rfl) _ _ 38 (by rfl) w7.heap.size 70 i (.agg #[.int .i64 0,.int .i64 0,.int .i64 0,.int .i64 0,.int .i64 0,.string ⟨#[]⟩]) 6 Tryz.underlying38 hi hz0 hz1 .i64 .i64 _ _ 301 (by rfl) (by rfl) rfl rfl hby hmx (Nat.le_refl _) ?_;intro w8 hown hgrow)
    have o8:=act_made hown
    have b8:Below w7.heap.size w7 w8:=(Below.refl _ _).grown hgrow (Nat.le_refl _) (fun _ h=>by cases h)
    have hk8:=D.v.lt
    replace D:=(D.later b8).acts o8.lies (fun x hx=>by cases hx;exact hk8) (fun a ha=>by rw [List.eq_of_mem_replicate ha];exact Nat.zero_le _)
    clear hown hgrow b8 o8 hk8 hby hmx hi hz0 hz1 hz2
    go_wp2_with fail
    go_meet
    exact⟨_,_,List.replicate 301 ⟨0,0,0,0,0,⟨#[]⟩⟩,by rw [List.length_replicate],by rw [List.length_replicate];decide,D⟩
 case rest=>
 clear D
 obtain⟨aL,capL,L,rfl,hL4,D⟩:=hcut
 obtain⟨c0,c1,c2,c3,c4,c5,c6⟩:=D.v.c7
 have d0:=D.vR.cell (i:=0) rfl
 have d1:=D.vR.cell (i:=1) rfl
 have d2:=D.vR.cell (i:=2) rfl
 have d3:=D.vR.cell (i:=3) rfl
 have d4:=D.vR.cell (i:=4) rfl
 have d5:=D.vR.cell (i:=5) rfl
 have d6:=D.vR.cell (i:=6) rfl
 have y0:=D.vR.free 0
 have y1:=D.vR.free 1
 have y2:=D.vR.free 2
 have y3:=D.vR.free 3
 have y4:=D.vR.free 4
 have y5:=D.vR.free 5
 have y6:=D.vR.free 6
 go_wp2_with fail
 clear c0 c1 c2 c3 c4 c5 c6 d0 d1 d2 d3 d4 d5 d6 y0 y1 y2 y3 y4 y5 y6
 have hk:=D.hk
 have hc':=D.hc
 have ka:=kept7 wc w.heap.size (.slice aH xs.length cH) (.slice aR rs.length cR) (.string s.tx) (.int .i64 s.rd) (.bool s.en) (.bool s.dn) (.bool s.sn)
 have vv:=var7 D.vR (.slice aH xs.length cH) (.slice aR rs.length cR) (.string s.tx) (.int .i64 s.rd) (.bool s.en) (.bool s.dn) (.bool s.sn)
 have D6:=D.D.keptV D.vR ntWorld ka
 have b6:=D.bel.trans (ka.below (Nat.le_refl _) D.bel.size)
 have al6:=D.al.kept ka (fun x hx=>by have:=D.ab x hx;omega)
 have tx6:=D.tx
 have sz6:=D.sz
 clear D ka
 simp only [put7]at vv D6 b6 al6
 generalize World.setCell _ ⟨w.heap.size,6,none⟩ (.bool s.sn)=WZ at *
 obtain⟨c0,c1,c2,c3,c4,c5,c6⟩:=vv.c7
 refine bodyPost_ret (v:=.tuple #[.agg (A7 aH xs.length cH aR rs.length cR s).toArray,.slice aL L.length capL]) (by rw [Tak.res_cell_tmp rfl];go_simp) rfl ⟨aH,aR,cH,cR,xs,rs,s,aL,capL,L,rfl,D6,sz6,al6,by omega,tx6,b6⟩
end Go.Proofs.YtfmcahjdhoabcaaGreat.Wor
