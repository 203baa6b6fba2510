/- Contracts of this seat's functions, and their mathematics (DrawSt). -/
import Derived.Test.YtfmcahjdhoabcaaGreatU41
import Derived.Test.YtfmcahjdhoabcaaGreatU36
import Derived.Test.YtfmcahjdhoabcaaGreatU9
import Derived.Deep.CutRange
set_option linter.unusedVariables false
set_option linter.unusedSimpArgs false
set_option maxRecDepth 10000
set_option maxHeartbeats 8000000
namespace Go.Proofs.YtfmcahjdhoabcaaGreat.Str
open Go.RowKit RowG
def Sz (s:Sm):Prop:=s.tx.size≤2001∧ -1≤s.rd∧s.rd≤2002
structure St (w0:World)(c k3:Nat)(w:World)(s:Sm):Prop where
 lc:c<w0.heap.size
 l3:w0.heap.size<k3
 v:Var 29 w k3 [.string s.tx,.int .i64 s.rd,.bool s.en,.bool s.dn,.bool s.sn]
 z:Var 29 w w0.heap.size [.string ⟨#[]⟩,.int .i64 0,.bool false,.bool false,.bool false]
 cu:Draw.Cur w c
 kp:Draw.Kept c w0 w
theorem two_cell {w:World}{b i n:Nat}(h:Var 2 w b ([-1,(n:Int)+1].map (Value.int .i64)))(hi:i<([-1,(n:Int)+1].map (Value.int .i64)).length): ∃m:Int,(-1≤m∧m≤(n:Int)+1)∧w.cell? ⟨b,i,none⟩=some (.int .i64 m):=by
 have h2:i=0∨i=1:=by simp at hi;omega
 rcases h2 with rfl|rfl
 ·exact⟨-1,⟨by omega,by omega⟩,h.cell (i:=0) rfl⟩
 ·exact⟨(n:Int)+1,⟨by omega,by omega⟩,h.cell (i:=1) rfl⟩
theorem St.drew {w0 w:World}{c k3:Nat}{p:Sm}(h:St w0 c k3 w p):St w0 c k3 w.drew p:=⟨h.lc,h.l3,h.v.drew,h.z.drew,h.cu.drew,h.kp.drew⟩
theorem St.alloc {w0 w:World}{c k3:Nat}{p:Sm}(h:St w0 c k3 w p)(o:Obj):St w0 c k3 (w.alloc o) p:=⟨h.lc,h.l3,h.v.alloc o,h.z.alloc o,h.cu.alloc o,h.kp.alloc o⟩
theorem St.later {w0 w w':World}{c k3:Nat}{p:Sm}(h:St w0 c k3 w p)(b:Below w.heap.size w w'):St w0 c k3 w' p:=⟨h.lc,h.l3,h.v.later b,h.z.later b,h.cu.below b (Nat.le_refl _),h.kp.trans (Draw.Kept.ofBelow b (Nat.le_refl _))⟩
theorem St.drawn {w0 w w':World}{c k3:Nat}{p:Sm}(h:St w0 c k3 w p)(cu:Draw.Cur w' c)(k:Draw.Kept c w w'):St w0 c k3 w' p:=⟨h.lc,h.l3,h.v.kept k (by have:=h.lc;have:=h.l3;omega),h.z.kept k (by have:=h.lc;omega),cu,h.kp.trans k⟩
theorem cur_otherS {w:World}{c:Nat}(h:Draw.Cur w c){p:Addr}(hp:c<p.block)(v:Value):Draw.Cur (w.setCell p v) c:=h.upto fun i hi=>Below.heap_setCell _ _ _ _ (by omega)
theorem St.one {w0 w:World}{c k3 i:Nat}{p q:Sm}{u:Value}(h:St w0 c k3 w p)(hi:i<5)(hv:Var 29 (w.setCell ⟨k3,i,none⟩ u) k3 [.string q.tx,.int .i64 q.rd,.bool q.en,.bool q.dn,.bool q.sn]):St w0 c k3 (w.setCell ⟨k3,i,none⟩ u) q:=
 ⟨h.lc,h.l3,hv,h.z.other (by have:=h.l3;dsimp only;omega) _,cur_otherS h.cu (by have:=h.l3;have:=h.lc;dsimp only;omega) _,h.kp.setCell (p:=⟨k3,i,none⟩) (.inr (by have:=h.l3;dsimp only;omega)) _⟩
theorem l15Draw (c:Nat)(w:World)(h:Draw.Cur w c):
  Calls Tryz.prog 57 #[.pointer (some ⟨c,0,none⟩)] w fun x w'=> ∃s:Sm,Sz s∧x=.returned s.v∧Draw.Cur w' c∧Draw.Kept c w w':=by
 have hmix:=Tak.mix
 have hlt:=h.lt
 have z0:Var 29 (w.alloc (.cells #[.string ⟨#[]⟩,.int .i64 0,.bool false,.bool false,.bool false] 29)) w.heap.size [.string ⟨#[]⟩,.int .i64 0,.bool false,.bool false,.bool false]:=Var.new w _
 have c0:=h.alloc (.cells #[.string ⟨#[]⟩,.int .i64 0,.bool false,.bool false,.bool false] 29)
 have p0:=(Draw.Kept.refl c w).alloc (.cells #[.string ⟨#[]⟩,.int .i64 0,.bool false,.bool false,.bool false] 29)
 go_enter Tryz.func57,Tryz.ntmps57
 go_wp2_with fail
 refine(Draw.l1Below _ _ _ c0).mono ?_
 rintro x w1 ⟨n,n0,n1,rfl,c1,k1⟩
 have n2:n≤30:=by omega
 have z1:=z0.kept k1 (by omega)
 have p1:=p0.trans k1
 clear n1 z0 p0 k1 c0 h
 go_wp2_with fail
 refine(Draw.l5Text 0 n _ (by omega) (by omega) n0 (by omega)).mono ?_
 rintro x w2 ⟨tx,hx,rfl,b2⟩
 have z2:=z1.later b2
 have c2:=c1.below b2 (Nat.le_refl _)
 have p2:=p1.trans (Draw.Kept.ofBelow b2 (Nat.le_refl _))
 have hk3:w.heap.size<w2.heap.size:=z2.lt
 clear z1 p1 c1 b2
 have ST:St w c w2.heap.size (w2.alloc (.cells #[.string tx,.int .i64 0,.bool false,.bool false,.bool false] 29)) ⟨tx,0,false,false,false⟩:=⟨hlt,hk3,Var.new w2 _,z2.alloc _,c2.alloc _,p2.alloc _⟩
 clear z2 c2 p2
 go_upto_region 2 with(fail)
 generalize w2.alloc (.cells #[.string tx,.int .i64 0,.bool false,.bool false,.bool false] 29)=W at *
 generalize w2.heap.size=k3 at *
 have ht:tx.size≤30:=by omega
 clear hx n0 n2
 have e0:=ST.v.cell (i:=0) rfl
 go_wp2_with fail
 refine(Draw.l1Below _ _ _ ST.cu).mono ?_
 rintro e w3 ⟨r,r0,r1,rfl,c3,k3'⟩
 replace ST:=ST.drawn c3 k3'
 have r2:r≤tx.size:=by omega
 clear r1 c3 k3' e0
 have e1:=ST.v.cell (i:=1) rfl
 have f1:=ST.v.free 1
 go_wp2_with fail
 have S4:St w c k3 (w3.setCell ⟨k3,1,none⟩ (.int .i64 r)) ⟨tx,r,false,false,false⟩:=ST.one (by omega) (ST.v.set 1 (.int .i64 r))
 clear ST e1 f1
 generalize w3.setCell ⟨k3,1,none⟩ (.int .i64 r)=W4 at *
 refine(Draw.l1Once _ _ _ S4.cu).mono ?_
 rintro e w5 ⟨b,rfl,c5,k5⟩
 replace S4:=S4.drawn c5 k5
 clear c5 k5
 go_upto_if 16 with(fail)
 go_cut []from 17 (fun wr=> ∃r:Int,(0≤r∧r≤tx.size)∧St w c k3 wr ⟨tx,r,false,false,false⟩)
 case first=>
  cases b
  case false=>
   go_wp2_with fail
   go_meet
   exact⟨r,⟨r0,r2⟩,S4⟩
  case true=>
   have e0:=S4.v.cell (i:=0) rfl
   have e1:=S4.v.cell (i:=1) rfl
   have f1:=S4.v.free 1
   go_wp2_with fail
   have S5:St w c k3 (w5.setCell ⟨k3,1,none⟩ (.int .i64 tx.size)) ⟨tx,tx.size,false,false,false⟩:=S4.one (by omega) (S4.v.set 1 (.int .i64 tx.size))
   go_meet
   exact⟨tx.size,⟨by omega,by omega⟩,S5⟩
 case rest=>
 clear S4 r0 r2
 obtain⟨q,hr,ST⟩:=hcut
 go_wp2_with fail
 refine(Draw.l1Once _ _ _ ST.cu).mono ?_
 rintro e w6 ⟨en,rfl,c6,k6⟩
 replace ST:=ST.drawn c6 k6
 clear c6 k6
 have e2:=ST.v.cell (i:=2) rfl
 have f2:=ST.v.free 2
 have S6:St w c k3 (w6.setCell ⟨k3,2,none⟩ (.bool en)) ⟨tx,q,en,false,false⟩:=ST.one (by omega) (ST.v.set 2 (.bool en))
 clear ST
 go_upto_region 6 with(fail)
 clear e2 f2
 generalize w6.setCell ⟨k3,2,none⟩ (.bool en)=W6 at *
 have e2:=S6.v.cell (i:=2) rfl
 have e3:=S6.v.cell (i:=3) rfl
 have f3:=S6.v.free 3
 go_cut []from 24 (fun wr=> ∃dn:Bool,St w c k3 wr ⟨tx,q,en,dn,false⟩)
 case first=>
  cases en
  case false=>
   go_wp2_with fail
   have S7:St w c k3 (W6.setCell ⟨k3,3,none⟩ (.bool false)) ⟨tx,q,false,false,false⟩:=S6.one (by omega) (S6.v.set 3 (.bool false))
   go_meet
   exact⟨_,S7⟩
  case true=>
   go_wp2_with fail
   refine(Draw.l1Once _ _ _ S6.cu).mono ?_
   rintro e w7 ⟨dn,rfl,c7,k7⟩
   clear e2 e3 f3
   replace S6:=S6.drawn c7 k7
   clear c7 k7
   have e3:=S6.v.cell (i:=3) rfl
   have f3:=S6.v.free 3
   go_wp2_with fail
   have S7:St w c k3 (w7.setCell ⟨k3,3,none⟩ (.bool dn)) ⟨tx,q,true,dn,false⟩:=S6.one (by omega) (S6.v.set 3 (.bool dn))
   go_meet
   exact⟨_,S7⟩
 case rest=>
 clear e2 e3 f3 S6
 obtain⟨dn,ST⟩:=hcut
 go_upto_region 7 with(fail)
 have e0:=ST.v.cell (i:=0) rfl
 have e1:=ST.v.cell (i:=1) rfl
 have e2:=ST.v.cell (i:=2) rfl
 have e4:=ST.v.cell (i:=4) rfl
 have f4:=ST.v.free 4
 go_cut []from 31 (fun wr=> ∃sn:Bool,St w c k3 wr ⟨tx,q,en,dn,sn⟩)
 case first=>
  cases en
  case false=>
   go_wp2_with fail
   have S7:St w c k3 (_root_.Go.World.setCell _ ⟨k3,4,none⟩ (.bool false)) ⟨tx,q,false,dn,false⟩:=ST.one (by omega) (ST.v.set 4 (.bool false))
   go_meet
   exact⟨_,S7⟩
  case true=>
   by_cases hq:q=(tx.size:Int)
   ·go_wp2_with fail
    refine(Draw.l1Once _ _ _ ST.cu).mono ?_
    rintro e w7 ⟨sn,rfl,c7,k7⟩
    clear e0 e1 e2 e4 f4
    replace ST:=ST.drawn c7 k7
    clear c7 k7
    have e4:=ST.v.cell (i:=4) rfl
    have f4:=ST.v.free 4
    go_wp2_with fail
    have S7:St w c k3 (w7.setCell ⟨k3,4,none⟩ (.bool sn)) ⟨tx,q,true,dn,sn⟩:=ST.one (by omega) (ST.v.set 4 (.bool sn))
    go_meet
    exact⟨_,S7⟩
   ·go_wp2_with fail
    have S7:St w c k3 (_root_.Go.World.setCell _ ⟨k3,4,none⟩ (.bool false)) ⟨tx,q,true,dn,false⟩:=ST.one (by omega) (ST.v.set 4 (.bool false))
    go_meet
    exact⟨_,S7⟩
 case rest=>
 clear e0 e1 e2 e4 f4 ST
 obtain⟨sn,ST⟩:=hcut
 go_wp2_with fail
 refine(Draw.l1Once _ _ _ ST.cu).mono ?_
 rintro e w8 ⟨b8,rfl,c8,k8⟩
 replace ST:=ST.drawn c8 k8
 clear c8 k8
 go_upto_if 47 with(fail)
 go_cut []from 48 (fun wr=> ∃s:Sm,Sz s∧St w c k3 wr s)
 case first=>
  cases b8
  case false=>
   go_wp2_with fail
   go_meet
   exact⟨_,⟨by show tx.size≤2001;omega,by show -1≤q;omega,by show q≤2002;omega⟩,ST⟩
  case true=>
   go_wp2_with fail
   refine(Draw.l1Below _ _ _ ST.cu).mono ?_
   rintro e w9 ⟨y,y0,y1,rfl,c9,k9⟩
   replace ST:=ST.drawn c9 k9
   have y2:y=0∨y=1∨y=2∨y=3:=by omega
   clear y0 y1 c9 k9
   rcases y2 with rfl|rfl|rfl|rfl
   focus
    have hwr:IntKind.i64.wrap ((tx.size:Int)+1)=(tx.size:Int)+1:=by rw [IntKind.wrap_i64];omega
    have hlc:=ST.lc
    go_wp2_with fail
    refine RegJ.wp_region_J (W:=fun d wr=> ∃m:Int,(-1≤m∧m≤31)∧St w c k3 wr ⟨tx,m,en,dn,sn⟩) (RegJ.Tell (k3) [.eq (.pointer (some ⟨k3,0,none⟩)),.eq (.string tx),.eq (.int .i64 tx.size),.eq (.int .i64 ((tx.size:Int)+1)),.row 2 ([-1,(tx.size:Int)+1].map (Value.int .i64)),.eq (.pointer (some ⟨c,0,none⟩)),.int 0 1,.elem 2 ([-1,(tx.size:Int)+1].map (Value.int .i64)),.int (-1) 31,.eq (.pointer (some ⟨k3,1,none⟩)),.any]) [some 52,some 53,some 54,some 55,some 56,some 57,some 58,some 59,some 60,some 61,none] (F:=?_) (is:=[0,1,2,3,4,5,6,7,8,9,10]) hmix (by kernel_rfl) (by kernel_rfl) (by kernel_rfl) (by kernel_rfl) (fun x=>?_) (⟨q,⟨by omega,by omega⟩,ST.drew⟩) ?_ (fun d x wR hWR hdR hJR=>?_)
    rotate_left 1
    focus (simp only [RegJ.lay,Act.put,Nat.reduceAdd,Nat.zero_add,Draw.lays];rfl)
    focus
     iterate 11 (refine RegJ.Steps.cons (RegJ.StepAt.mk rfl (fun d x w1 hW1 hJ1 hx1 K hK=>?_)) ?_;simp only [Draw.lays]at hK;rotate_left 1)
     exact RegJ.Steps.nil
     ·go_simp;exact hK.out _ _ hW1 RegJ.Tell.same rfl
     ·have j0:x 0=_:=(hJ1.out 0 (by kernel_rfl));rw [j0]at hK;obtain⟨m,hm,S1⟩:=id hW1;have e0:=S1.v.cell (i:=0) rfl;go_simp;exact hK.out _ _ hW1 RegJ.Tell.same rfl
     ·have j1:x 1=_:=(hJ1.out 1 (by kernel_rfl));rw [j1]at hK;go_simp;exact hK.out _ _ hW1 RegJ.Tell.same rfl
     ·have j2:x 2=_:=(hJ1.out 2 (by kernel_rfl));rw [j2]at hK;go_simp;first|exact hK.out _ _ hW1 RegJ.Tell.same rfl|exact hK.out _ _ hW1 RegJ.Tell.same (congrArg (Value.int .i64) hwr)
     ·have j3:x 3=_:=(hJ1.out 3 (by kernel_rfl));rw [j3]at hK;obtain⟨m,hm,S1⟩:=id hW1;have hl1:=S1.v.lt;go_simp;exact hK.out _ _ ⟨m,hm,S1.alloc _⟩ (RegJ.Tell.keep ((Draw.Kept.refl _ _).alloc _)) ⟨w1.heap.size,hl1,rfl,Var.new _ _⟩
     ·go_simp;exact hK.out _ _ hW1 RegJ.Tell.same rfl
     ·obtain⟨m,hm,S1⟩:=id hW1;have j5:x 5=_:=(hJ1.out 5 (by kernel_rfl));rw [j5]at hK;go_simp;refine(Draw.l1Below _ _ _ S1.cu).mono ?_;rintro e wa ⟨y,y0,y1,rfl,cua,ka⟩;go_simp;exact hK.out _ _ ⟨m,hm,S1.drawn cua ka⟩ (RegJ.Tell.keepLe ka (by omega)) ⟨y,y0,by omega,rfl⟩
     ·obtain⟨b,hb,j1,vb⟩:=(hJ1.out 4 (by kernel_rfl));obtain⟨y,y0,y1,j3⟩:=(hJ1.out 6 (by kernel_rfl));rw [j1,j3]at hK;have hy:y<2:=(by omega);go_simp;exact hK.out (.pointer (some ⟨b,y.toNat,none⟩)) _ hW1 RegJ.Tell.same ⟨b,y.toNat,hb,(by simp;omega),rfl,vb⟩
     ·obtain⟨b,i,hb,hi,j4,vb⟩:=(hJ1.out 7 (by kernel_rfl));rw [j4]at hK;obtain⟨m,hm,hc⟩:=two_cell vb hi;go_simp;exact hK.out (.int .i64 m) _ hW1 RegJ.Tell.same ⟨m,(by omega),(by omega),rfl⟩
     ·go_simp;exact hK.out _ _ hW1 RegJ.Tell.same rfl
     ·obtain⟨v,v0,v1,j7⟩:=(hJ1.out 8 (by kernel_rfl));have j9:x 9=_:=(hJ1.out 9 (by kernel_rfl));rw [j9]at hK;rw [j7]at hK;obtain⟨m,hm,S1⟩:=id hW1;have e1:=S1.v.cell (i:=1) rfl;have f1:=S1.v.free 1;have S2:Hid (St w c k3 (w1.setCell ⟨k3,1,none⟩ (.int .i64 v)) ⟨tx,v,en,dn,sn⟩):=S1.one (by omega) (S1.v.set 1 (.int .i64 v));clear S1;have kk:Hid (Draw.Kept k3 w1 (w1.setCell ⟨k3,1,none⟩ (.int .i64 v))):=(Draw.Kept.refl k3 w1).setCell (p:=⟨k3,1,none⟩) (.inl rfl) _;go_simp;exact hK.out undef _ ⟨v,⟨v0,v1⟩,S2.out⟩ (RegJ.Tell.stored (k0:=k3) (by kernel_rfl) kk.out (Nat.le_refl _)) trivial
    obtain⟨m,hm,ST'⟩:=hWR
    clear hJR hdR ST
    go_wp2_with fail
    go_meet
    exact⟨_,⟨by show tx.size≤2001;omega,by show -1≤m;omega,by show m≤2002;omega⟩,ST'⟩
   focus
    have e3:=ST.v.cell (i:=3) rfl
    have f3:=ST.v.free 3
    have S7:St w c k3 (w9.setCell ⟨k3,3,none⟩ (.bool (!dn))) ⟨tx,q,en,!dn,sn⟩:=ST.one (by omega) (ST.v.set 3 (.bool (!dn)))
    clear ST
    go_wp2_with fail
    go_meet
    exact⟨_,⟨by show tx.size≤2001;omega,by show -1≤q;omega,by show q≤2002;omega⟩,S7⟩
   focus
    have e4:=ST.v.cell (i:=4) rfl
    have f4:=ST.v.free 4
    have S7:St w c k3 (w9.setCell ⟨k3,4,none⟩ (.bool (!sn))) ⟨tx,q,en,dn,!sn⟩:=ST.one (by omega) (ST.v.set 4 (.bool (!sn)))
    clear ST
    go_wp2_with fail
    go_meet
    exact⟨_,⟨by show tx.size≤2001;omega,by show -1≤q;omega,by show q≤2002;omega⟩,S7⟩
   focus
    go_wp2_with fail
    refine(Draw.l1Below _ _ _ ST.cu).mono ?_
    rintro e wa ⟨y,y0,y1,rfl,ca,ka⟩
    replace ST:=ST.drawn ca ka
    have y2:y≤1:=by omega
    clear y1 ca ka
    go_wp2_with fail
    refine(Draw.l5Text 0 (2000+y) _ (by omega) (by omega) (by omega) (by omega)).mono ?_
    rintro e wb ⟨ty,hy,rfl,bb⟩
    replace ST:=ST.later bb
    clear bb
    have e0:=ST.v.cell (i:=0) rfl
    have f0:=ST.v.free 0
    have S7:St w c k3 (wb.setCell ⟨k3,0,none⟩ (.string ty)) ⟨ty,q,en,dn,sn⟩:=ST.one (by omega) (ST.v.set 0 (.string ty))
    clear ST
    go_wp2_with fail
    go_meet
    exact⟨_,⟨by show ty.size≤2001;omega,by show -1≤q;omega,by show q≤2002;omega⟩,S7⟩
 case rest=>
 clear ST
 obtain⟨s,hz,ST⟩:=hcut
 have e0:=ST.v.cell (i:=0) rfl;have e1:=ST.v.cell (i:=1) rfl;have e2:=ST.v.cell (i:=2) rfl;have e3:=ST.v.cell (i:=3) rfl;have e4:=ST.v.cell (i:=4) rfl
 have a0:=ST.z.cell (i:=0) rfl;have a1:=ST.z.cell (i:=1) rfl;have a2:=ST.z.cell (i:=2) rfl;have a3:=ST.z.cell (i:=3) rfl;have a4:=ST.z.cell (i:=4) rfl
 have y0:=ST.z.free 0;have y1:=ST.z.free 1;have y2:=ST.z.free 2;have y3:=ST.z.free 3;have y4:=ST.z.free 4
 have hlc:=ST.lc
 go_wp2_with fail
 obtain⟨W9,hW9⟩: ∃z,Hid (z=((((wc.setCell ⟨w.heap.size,0,none⟩ (.string s.tx)).setCell ⟨w.heap.size,1,none⟩ (.int .i64 s.rd)).setCell ⟨w.heap.size,2,none⟩ (.bool s.en)).setCell ⟨w.heap.size,3,none⟩ (.bool s.dn)).setCell ⟨w.heap.size,4,none⟩ (.bool s.sn)):=⟨_,rfl⟩
 have r2:Var 29 W9 w.heap.size [.string s.tx,.int .i64 s.rd,.bool s.en,.bool s.dn,.bool s.sn]:=by rw [hW9.out];exact((((ST.z.set 0 _).set 1 _).set 2 _).set 3 _).set 4 _
 have kZ:Draw.Kept w.heap.size wc W9:=by rw [hW9.out];exact(((((Draw.Kept.refl w.heap.size wc).setCell (p:=⟨w.heap.size,0,none⟩) (.inl rfl) _).setCell (p:=⟨w.heap.size,1,none⟩) (.inl rfl) _).setCell (p:=⟨w.heap.size,2,none⟩) (.inl rfl) _).setCell (p:=⟨w.heap.size,3,none⟩) (.inl rfl) _).setCell (p:=⟨w.heap.size,4,none⟩) (.inl rfl) _
 rw [←hW9.out]
 clear hW9
 have cE:Draw.Cur W9 c:=ST.cu.upto fun i hi=>kZ.block i (by have:=ST.cu.lt;omega) (by omega)
 have kE:Draw.Kept c w W9:=⟨kZ.os.trans ST.kp.os,kZ.tape.trans ST.kp.tape,kZ.output.trans ST.kp.output,Nat.le_trans ST.kp.size kZ.size,fun i hi hc=>(kZ.block i (Nat.lt_of_lt_of_le hi ST.kp.size) (by omega)).trans (ST.kp.block i hi hc)⟩
 have s0:=r2.cell (i:=0) rfl;have s1:=r2.cell (i:=1) rfl;have s2:=r2.cell (i:=2) rfl;have s3:=r2.cell (i:=3) rfl;have s4:=r2.cell (i:=4) rfl
 refine bodyPost_ret (v:=.agg #[.string s.tx,.int .i64 s.rd,.bool s.en,.bool s.dn,.bool s.sn]) (by rw [Tak.res_cell rfl];clear r2 cE kE kZ ST e0 e1 e2 e3 e4 a0 a1 a2 a3 a4 y0 y1 y2 y3 y4;go_simp;done) rfl ⟨s,hz,rfl,cE,kE⟩
end Go.Proofs.YtfmcahjdhoabcaaGreat.Str
