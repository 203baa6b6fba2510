/- Contracts of this seat's functions, and their mathematics (DrawSt PlaC TakN InvA). -/
import Derived.Test.YtfejobjgbadfjaaGreatK46
import Derived.Test.YtfejobjgbadfjaaGreatK30
import Derived.Test.YtfejobjgbadfjaaGreatK8
import Derived.Deep.CutRange
import Derived.Test.YtfejobjgbadfjaaGreatK41
import Derived.Test.YtfejobjgbadfjaaGreatK13
import Derived.Test.YtfejobjgbadfjaaGreatK18
set_option linter.unusedVariables false
set_option linter.unusedSimpArgs false
set_option maxRecDepth 10000
set_option maxHeartbeats 8000000
namespace Go.Proofs.YtfejobjgbadfjaaGreat.Str
open Go.RowKit RowG
def Sz (s:Sm):Prop:=s.tx.size≤2001∧ -1≤s.rd∧s.rd≤2002
structure St (w0:World)(c k3:Nat)(w:World)(s:Sm):Prop where
 lc:c<w0.heap.size
 l3:w0.heap.size<k3
 v:Var 31 w k3 [.string s.tx,.int .i64 s.rd,.bool s.en,.bool s.dn,.bool s.sn]
 z:Var 31 w w0.heap.size [.string ⟨#[]⟩,.int .i64 0,.bool false,.bool false,.bool false]
 cu:Draw.Cur w c
 kp:Draw.Kept c w0 w
theorem two_cell {w:World}{b i n:Nat}(h:Var 2 w b ([-1,(n:Int)+1].map (Value.int .i64)))(hi:i<([-1,(n:Int)+1].map (Value.int .i64)).length): ∃m:Int,(-1≤m∧m≤(n:Int)+1)∧w.cell? ⟨b,i,none⟩=some (.int .i64 m):=by
 have h2:i=0∨i=1:=by simp at hi;omega
 rcases h2 with rfl|rfl
 ·exact⟨-1,⟨by omega,by omega⟩,h.cell (i:=0) rfl⟩
 ·exact⟨(n:Int)+1,⟨by omega,by omega⟩,h.cell (i:=1) rfl⟩
theorem St.drew {w0 w:World}{c k3:Nat}{p:Sm}(h:St w0 c k3 w p):St w0 c k3 w.drew p:=⟨h.lc,h.l3,h.v.drew,h.z.drew,h.cu.drew,h.kp.drew⟩
theorem St.alloc {w0 w:World}{c k3:Nat}{p:Sm}(h:St w0 c k3 w p)(o:Obj):St w0 c k3 (w.alloc o) p:=⟨h.lc,h.l3,h.v.alloc o,h.z.alloc o,h.cu.alloc o,h.kp.alloc o⟩
theorem St.later {w0 w w':World}{c k3:Nat}{p:Sm}(h:St w0 c k3 w p)(b:Below w.heap.size w w'):St w0 c k3 w' p:=⟨h.lc,h.l3,h.v.later b,h.z.later b,h.cu.below b (Nat.le_refl _),h.kp.trans (Draw.Kept.ofBelow b (Nat.le_refl _))⟩
theorem St.drawn {w0 w w':World}{c k3:Nat}{p:Sm}(h:St w0 c k3 w p)(cu:Draw.Cur w' c)(k:Draw.Kept c w w'):St w0 c k3 w' p:=⟨h.lc,h.l3,h.v.kept k (by have:=h.lc;have:=h.l3;omega),h.z.kept k (by have:=h.lc;omega),cu,h.kp.trans k⟩
theorem cur_otherS {w:World}{c:Nat}(h:Draw.Cur w c){p:Addr}(hp:c<p.block)(v:Value):Draw.Cur (w.setCell p v) c:=h.upto fun i hi=>Below.heap_setCell _ _ _ _ (by omega)
theorem St.one {w0 w:World}{c k3 i:Nat}{p q:Sm}{u:Value}(h:St w0 c k3 w p)(hi:i<5)(hv:Var 31 (w.setCell ⟨k3,i,none⟩ u) k3 [.string q.tx,.int .i64 q.rd,.bool q.en,.bool q.dn,.bool q.sn]):St w0 c k3 (w.setCell ⟨k3,i,none⟩ u) q:=
 ⟨h.lc,h.l3,hv,h.z.other (by have:=h.l3;dsimp only;omega) _,cur_otherS h.cu (by have:=h.l3;have:=h.lc;dsimp only;omega) _,h.kp.setCell (p:=⟨k3,i,none⟩) (.inr (by have:=h.l3;dsimp only;omega)) _⟩
theorem l15Draw (c:Nat)(w:World)(h:Draw.Cur w c):
  Calls Tryz.prog 42 #[.pointer (some ⟨c,0,none⟩)] w fun x w'=> ∃s:Sm,Sz s∧x=.returned s.v∧Draw.Cur w' c∧Draw.Kept c w w':=by
 have hmix:=Tak.mix
 have hlt:=h.lt
 have z0:Var 31 (w.alloc (.cells #[.string ⟨#[]⟩,.int .i64 0,.bool false,.bool false,.bool false] 31)) w.heap.size [.string ⟨#[]⟩,.int .i64 0,.bool false,.bool false,.bool false]:=Var.new w _
 have c0:=h.alloc (.cells #[.string ⟨#[]⟩,.int .i64 0,.bool false,.bool false,.bool false] 31)
 have p0:=(Draw.Kept.refl c w).alloc (.cells #[.string ⟨#[]⟩,.int .i64 0,.bool false,.bool false,.bool false] 31)
 go_enter Tryz.func42,Tryz.ntmps42
 go_wp2_with fail
 refine(Draw.l1Below _ _ _ c0).mono ?_
 rintro x w1 ⟨n,n0,n1,rfl,c1,k1⟩
 have n2:n≤30:=by omega
 have z1:=z0.kept k1 (by omega)
 have p1:=p0.trans k1
 clear n1 z0 p0 k1 c0 h
 go_wp2_with fail
 refine(Draw.l5Text 0 n _ (by omega) (by omega) n0 (by omega)).mono ?_
 rintro x w2 ⟨tx,hx,rfl,b2⟩
 have z2:=z1.later b2
 have c2:=c1.below b2 (Nat.le_refl _)
 have p2:=p1.trans (Draw.Kept.ofBelow b2 (Nat.le_refl _))
 have hk3:w.heap.size<w2.heap.size:=z2.lt
 clear z1 p1 c1 b2
 have ST:St w c w2.heap.size (w2.alloc (.cells #[.string tx,.int .i64 0,.bool false,.bool false,.bool false] 31)) ⟨tx,0,false,false,false⟩:=⟨hlt,hk3,Var.new w2 _,z2.alloc _,c2.alloc _,p2.alloc _⟩
 clear z2 c2 p2
 go_upto_region 2 with(fail)
 generalize w2.alloc (.cells #[.string tx,.int .i64 0,.bool false,.bool false,.bool false] 31)=W at *
 generalize w2.heap.size=k3 at *
 have ht:tx.size≤30:=by omega
 clear hx n0 n2
 have e0:=ST.v.cell (i:=0) rfl
 go_wp2_with fail
 refine(Draw.l1Below _ _ _ ST.cu).mono ?_
 rintro e w3 ⟨r,r0,r1,rfl,c3,k3'⟩
 replace ST:=ST.drawn c3 k3'
 have r2:r≤tx.size:=by omega
 clear r1 c3 k3' e0
 have e1:=ST.v.cell (i:=1) rfl
 have f1:=ST.v.free 1
 go_wp2_with fail
 have S4:St w c k3 (w3.setCell ⟨k3,1,none⟩ (.int .i64 r)) ⟨tx,r,false,false,false⟩:=ST.one (by omega) (ST.v.set 1 (.int .i64 r))
 clear ST e1 f1
 generalize w3.setCell ⟨k3,1,none⟩ (.int .i64 r)=W4 at *
 refine(Draw.l1Once _ _ _ S4.cu).mono ?_
 rintro e w5 ⟨b,rfl,c5,k5⟩
 replace S4:=S4.drawn c5 k5
 clear c5 k5
 go_upto_if 16 with(fail)
 go_cut []from 17 (fun wr=> ∃r:Int,(0≤r∧r≤tx.size)∧St w c k3 wr ⟨tx,r,false,false,false⟩)
 case first=>
  cases b
  case false=>
   go_wp2_with fail
   go_meet
   exact⟨r,⟨r0,r2⟩,S4⟩
  case true=>
   have e0:=S4.v.cell (i:=0) rfl
   have e1:=S4.v.cell (i:=1) rfl
   have f1:=S4.v.free 1
   go_wp2_with fail
   have S5:St w c k3 (w5.setCell ⟨k3,1,none⟩ (.int .i64 tx.size)) ⟨tx,tx.size,false,false,false⟩:=S4.one (by omega) (S4.v.set 1 (.int .i64 tx.size))
   go_meet
   exact⟨tx.size,⟨by omega,by omega⟩,S5⟩
 case rest=>
 clear S4 r0 r2
 obtain⟨q,hr,ST⟩:=hcut
 go_wp2_with fail
 refine(Draw.l1Once _ _ _ ST.cu).mono ?_
 rintro e w6 ⟨en,rfl,c6,k6⟩
 replace ST:=ST.drawn c6 k6
 clear c6 k6
 have e2:=ST.v.cell (i:=2) rfl
 have f2:=ST.v.free 2
 have S6:St w c k3 (w6.setCell ⟨k3,2,none⟩ (.bool en)) ⟨tx,q,en,false,false⟩:=ST.one (by omega) (ST.v.set 2 (.bool en))
 clear ST
 go_upto_region 6 with(fail)
 clear e2 f2
 generalize w6.setCell ⟨k3,2,none⟩ (.bool en)=W6 at *
 have e2:=S6.v.cell (i:=2) rfl
 have e3:=S6.v.cell (i:=3) rfl
 have f3:=S6.v.free 3
 go_cut []from 24 (fun wr=> ∃dn:Bool,St w c k3 wr ⟨tx,q,en,dn,false⟩)
 case first=>
  cases en
  case false=>
   go_wp2_with fail
   have S7:St w c k3 (W6.setCell ⟨k3,3,none⟩ (.bool false)) ⟨tx,q,false,false,false⟩:=S6.one (by omega) (S6.v.set 3 (.bool false))
   go_meet
   exact⟨_,S7⟩
  case true=>
   go_wp2_with fail
   refine(Draw.l1Once _ _ _ S6.cu).mono ?_
   rintro e w7 ⟨dn,rfl,c7,k7⟩
   clear e2 e3 f3
   replace S6:=S6.drawn c7 k7
   clear c7 k7
   have e3:=S6.v.cell (i:=3) rfl
   have f3:=S6.v.free 3
   go_wp2_with fail
   have S7:St w c k3 (w7.setCell ⟨k3,3,none⟩ (.bool dn)) ⟨tx,q,true,dn,false⟩:=S6.one (by omega) (S6.v.set 3 (.bool dn))
   go_meet
   exact⟨_,S7⟩
 case rest=>
 clear e2 e3 f3 S6
 obtain⟨dn,ST⟩:=hcut
 go_upto_region 7 with(fail)
 have e0:=ST.v.cell (i:=0) rfl
 have e1:=ST.v.cell (i:=1) rfl
 have e2:=ST.v.cell (i:=2) rfl
 have e4:=ST.v.cell (i:=4) rfl
 have f4:=ST.v.free 4
 go_cut []from 31 (fun wr=> ∃sn:Bool,St w c k3 wr ⟨tx,q,en,dn,sn⟩)
 case first=>
  cases en
  case false=>
   go_wp2_with fail
   have S7:St w c k3 (_root_.Go.World.setCell _ ⟨k3,4,none⟩ (.bool false)) ⟨tx,q,false,dn,false⟩:=ST.one (by omega) (ST.v.set 4 (.bool false))
   go_meet
   exact⟨_,S7⟩
  case true=>
   by_cases hq:q=(tx.size:Int)
   ·go_wp2_with fail
    refine(Draw.l1Once _ _ _ ST.cu).mono ?_
    rintro e w7 ⟨sn,rfl,c7,k7⟩
    clear e0 e1 e2 e4 f4
    replace ST:=ST.drawn c7 k7
    clear c7 k7
    have e4:=ST.v.cell (i:=4) rfl
    have f4:=ST.v.free 4
    go_wp2_with fail
    have S7:St w c k3 (w7.setCell ⟨k3,4,none⟩ (.bool sn)) ⟨tx,q,true,dn,sn⟩:=ST.one (by omega) (ST.v.set 4 (.bool sn))
    go_meet
    exact⟨_,S7⟩
   ·go_wp2_with fail
    have S7:St w c k3 (_root_.Go.World.setCell _ ⟨k3,4,none⟩ (.bool false)) ⟨tx,q,true,dn,false⟩:=ST.one (by omega) (ST.v.set 4 (.bool false))
    go_meet
    exact⟨_,S7⟩
 case rest=>
 clear e0 e1 e2 e4 f4 ST
 obtain⟨sn,ST⟩:=hcut
 go_wp2_with fail
 refine(Draw.l1Once _ _ _ ST.cu).mono ?_
 rintro e w8 ⟨b8,rfl,c8,k8⟩
 replace ST:=ST.drawn c8 k8
 clear c8 k8
 go_upto_if 47 with(fail)
 go_cut []from 48 (fun wr=> ∃s:Sm,Sz s∧St w c k3 wr s)
 case first=>
  cases b8
  case false=>
   go_wp2_with fail
   go_meet
   exact⟨_,⟨by show tx.size≤2001;omega,by show -1≤q;omega,by show q≤2002;omega⟩,ST⟩
  case true=>
   go_wp2_with fail
   refine(Draw.l1Below _ _ _ ST.cu).mono ?_
   rintro e w9 ⟨y,y0,y1,rfl,c9,k9⟩
   replace ST:=ST.drawn c9 k9
   have y2:y=0∨y=1∨y=2∨y=3:=by omega
   clear y0 y1 c9 k9
   rcases y2 with rfl|rfl|rfl|rfl
   focus
    have hwr:IntKind.i64.wrap ((tx.size:Int)+1)=(tx.size:Int)+1:=by rw [IntKind.wrap_i64];omega
    have hlc:=ST.lc
    go_wp2_with fail
    refine RegJ.wp_region_J (W:=fun d wr=> ∃m:Int,(-1≤m∧m≤31)∧St w c k3 wr ⟨tx,m,en,dn,sn⟩) (RegJ.Tell (k3) [.eq (.pointer (some ⟨k3,0,none⟩)),.eq (.string tx),.eq (.int .i64 tx.size),.eq (.int .i64 ((tx.size:Int)+1)),.row 2 ([-1,(tx.size:Int)+1].map (Value.int .i64)),.eq (.pointer (some ⟨c,0,none⟩)),.int 0 1,.elem 2 ([-1,(tx.size:Int)+1].map (Value.int .i64)),.int (-1) 31,.eq (.pointer (some ⟨k3,1,none⟩)),.any]) [some 52,some 53,some 54,some 55,some 56,some 57,some 58,some 59,some 60,some 61,none] (F:=?_) (is:=[0,1,2,3,4,5,6,7,8,9,10]) hmix (by kernel_rfl) (by kernel_rfl) (by kernel_rfl) (by kernel_rfl) (fun x=>?_) (⟨q,⟨by omega,by omega⟩,ST.drew⟩) ?_ (fun d x wR hWR hdR hJR=>?_)
    rotate_left 1
    focus (simp only [RegJ.lay,Act.put,Nat.reduceAdd,Nat.zero_add,Draw.lays];rfl)
    focus
     iterate 11 (refine RegJ.Steps.cons (RegJ.StepAt.mk rfl (fun d x w1 hW1 hJ1 hx1 K hK=>?_)) ?_;simp only [Draw.lays]at hK;rotate_left 1)
     exact RegJ.Steps.nil
     ·go_simp;exact hK.out _ _ hW1 RegJ.Tell.same rfl
     ·have j0:x 0=_:=(hJ1.out 0 (by kernel_rfl));rw [j0]at hK;obtain⟨m,hm,S1⟩:=id hW1;have e0:=S1.v.cell (i:=0) rfl;go_simp;exact hK.out _ _ hW1 RegJ.Tell.same rfl
     ·have j1:x 1=_:=(hJ1.out 1 (by kernel_rfl));rw [j1]at hK;go_simp;exact hK.out _ _ hW1 RegJ.Tell.same rfl
     ·have j2:x 2=_:=(hJ1.out 2 (by kernel_rfl));rw [j2]at hK;go_simp;first|exact hK.out _ _ hW1 RegJ.Tell.same rfl|exact hK.out _ _ hW1 RegJ.Tell.same (congrArg (Value.int .i64) hwr)
     ·have j3:x 3=_:=(hJ1.out 3 (by kernel_rfl));rw [j3]at hK;obtain⟨m,hm,S1⟩:=id hW1;have hl1:=S1.v.lt;go_simp;exact hK.out _ _ ⟨m,hm,S1.alloc _⟩ (RegJ.Tell.keep ((Draw.Kept.refl _ _).alloc _)) ⟨w1.heap.size,hl1,rfl,Var.new _ _⟩
     ·go_simp;exact hK.out _ _ hW1 RegJ.Tell.same rfl
     ·obtain⟨m,hm,S1⟩:=id hW1;have j5:x 5=_:=(hJ1.out 5 (by kernel_rfl));rw [j5]at hK;go_simp;refine(Draw.l1Below _ _ _ S1.cu).mono ?_;rintro e wa ⟨y,y0,y1,rfl,cua,ka⟩;go_simp;exact hK.out _ _ ⟨m,hm,S1.drawn cua ka⟩ (RegJ.Tell.keepLe ka (by omega)) ⟨y,y0,by omega,rfl⟩
     ·obtain⟨b,hb,j1,vb⟩:=(hJ1.out 4 (by kernel_rfl));obtain⟨y,y0,y1,j3⟩:=(hJ1.out 6 (by kernel_rfl));rw [j1,j3]at hK;have hy:y<2:=(by omega);go_simp;exact hK.out (.pointer (some ⟨b,y.toNat,none⟩)) _ hW1 RegJ.Tell.same ⟨b,y.toNat,hb,(by simp;omega),rfl,vb⟩
     ·obtain⟨b,i,hb,hi,j4,vb⟩:=(hJ1.out 7 (by kernel_rfl));rw [j4]at hK;obtain⟨m,hm,hc⟩:=two_cell vb hi;go_simp;exact hK.out (.int .i64 m) _ hW1 RegJ.Tell.same ⟨m,(by omega),(by omega),rfl⟩
     ·go_simp;exact hK.out _ _ hW1 RegJ.Tell.same rfl
     ·obtain⟨v,v0,v1,j7⟩:=(hJ1.out 8 (by kernel_rfl));have j9:x 9=_:=(hJ1.out 9 (by kernel_rfl));rw [j9]at hK;rw [j7]at hK;obtain⟨m,hm,S1⟩:=id hW1;have e1:=S1.v.cell (i:=1) rfl;have f1:=S1.v.free 1;have S2:Hid (St w c k3 (w1.setCell ⟨k3,1,none⟩ (.int .i64 v)) ⟨tx,v,en,dn,sn⟩):=S1.one (by omega) (S1.v.set 1 (.int .i64 v));clear S1;have kk:Hid (Draw.Kept k3 w1 (w1.setCell ⟨k3,1,none⟩ (.int .i64 v))):=(Draw.Kept.refl k3 w1).setCell (p:=⟨k3,1,none⟩) (.inl rfl) _;go_simp;exact hK.out undef _ ⟨v,⟨v0,v1⟩,S2.out⟩ (RegJ.Tell.stored (k0:=k3) (by kernel_rfl) kk.out (Nat.le_refl _)) trivial
    obtain⟨m,hm,ST'⟩:=hWR
    clear hJR hdR ST
    go_wp2_with fail
    go_meet
    exact⟨_,⟨by show tx.size≤2001;omega,by show -1≤m;omega,by show m≤2002;omega⟩,ST'⟩
   focus
    have e3:=ST.v.cell (i:=3) rfl
    have f3:=ST.v.free 3
    have S7:St w c k3 (w9.setCell ⟨k3,3,none⟩ (.bool (!dn))) ⟨tx,q,en,!dn,sn⟩:=ST.one (by omega) (ST.v.set 3 (.bool (!dn)))
    clear ST
    go_wp2_with fail
    go_meet
    exact⟨_,⟨by show tx.size≤2001;omega,by show -1≤q;omega,by show q≤2002;omega⟩,S7⟩
   focus
    have e4:=ST.v.cell (i:=4) rfl
    have f4:=ST.v.free 4
    have S7:St w c k3 (w9.setCell ⟨k3,4,none⟩ (.bool (!sn))) ⟨tx,q,en,dn,!sn⟩:=ST.one (by omega) (ST.v.set 4 (.bool (!sn)))
    clear ST
    go_wp2_with fail
    go_meet
    exact⟨_,⟨by show tx.size≤2001;omega,by show -1≤q;omega,by show q≤2002;omega⟩,S7⟩
   focus
    go_wp2_with fail
    refine(Draw.l1Below _ _ _ ST.cu).mono ?_
    rintro e wa ⟨y,y0,y1,rfl,ca,ka⟩
    replace ST:=ST.drawn ca ka
    have y2:y≤1:=by omega
    clear y1 ca ka
    go_wp2_with fail
    refine(Draw.l5Text 0 (2000+y) _ (by omega) (by omega) (by omega) (by omega)).mono ?_
    rintro e wb ⟨ty,hy,rfl,bb⟩
    replace ST:=ST.later bb
    clear bb
    have e0:=ST.v.cell (i:=0) rfl
    have f0:=ST.v.free 0
    have S7:St w c k3 (wb.setCell ⟨k3,0,none⟩ (.string ty)) ⟨ty,q,en,dn,sn⟩:=ST.one (by omega) (ST.v.set 0 (.string ty))
    clear ST
    go_wp2_with fail
    go_meet
    exact⟨_,⟨by show ty.size≤2001;omega,by show -1≤q;omega,by show q≤2002;omega⟩,S7⟩
 case rest=>
 clear ST
 obtain⟨s,hz,ST⟩:=hcut
 have e0:=ST.v.cell (i:=0) rfl;have e1:=ST.v.cell (i:=1) rfl;have e2:=ST.v.cell (i:=2) rfl;have e3:=ST.v.cell (i:=3) rfl;have e4:=ST.v.cell (i:=4) rfl
 have a0:=ST.z.cell (i:=0) rfl;have a1:=ST.z.cell (i:=1) rfl;have a2:=ST.z.cell (i:=2) rfl;have a3:=ST.z.cell (i:=3) rfl;have a4:=ST.z.cell (i:=4) rfl
 have y0:=ST.z.free 0;have y1:=ST.z.free 1;have y2:=ST.z.free 2;have y3:=ST.z.free 3;have y4:=ST.z.free 4
 have hlc:=ST.lc
 go_wp2_with fail
 obtain⟨W9,hW9⟩: ∃z,Hid (z=((((wc.setCell ⟨w.heap.size,0,none⟩ (.string s.tx)).setCell ⟨w.heap.size,1,none⟩ (.int .i64 s.rd)).setCell ⟨w.heap.size,2,none⟩ (.bool s.en)).setCell ⟨w.heap.size,3,none⟩ (.bool s.dn)).setCell ⟨w.heap.size,4,none⟩ (.bool s.sn)):=⟨_,rfl⟩
 have r2:Var 31 W9 w.heap.size [.string s.tx,.int .i64 s.rd,.bool s.en,.bool s.dn,.bool s.sn]:=by rw [hW9.out];exact((((ST.z.set 0 _).set 1 _).set 2 _).set 3 _).set 4 _
 have kZ:Draw.Kept w.heap.size wc W9:=by rw [hW9.out];exact(((((Draw.Kept.refl w.heap.size wc).setCell (p:=⟨w.heap.size,0,none⟩) (.inl rfl) _).setCell (p:=⟨w.heap.size,1,none⟩) (.inl rfl) _).setCell (p:=⟨w.heap.size,2,none⟩) (.inl rfl) _).setCell (p:=⟨w.heap.size,3,none⟩) (.inl rfl) _).setCell (p:=⟨w.heap.size,4,none⟩) (.inl rfl) _
 rw [←hW9.out]
 clear hW9
 have cE:Draw.Cur W9 c:=ST.cu.upto fun i hi=>kZ.block i (by have:=ST.cu.lt;omega) (by omega)
 have kE:Draw.Kept c w W9:=⟨kZ.os.trans ST.kp.os,kZ.tape.trans ST.kp.tape,kZ.output.trans ST.kp.output,Nat.le_trans ST.kp.size kZ.size,fun i hi hc=>(kZ.block i (Nat.lt_of_lt_of_le hi ST.kp.size) (by omega)).trans (ST.kp.block i hi hc)⟩
 have s0:=r2.cell (i:=0) rfl;have s1:=r2.cell (i:=1) rfl;have s2:=r2.cell (i:=2) rfl;have s3:=r2.cell (i:=3) rfl;have s4:=r2.cell (i:=4) rfl
 refine bodyPost_ret (v:=.agg #[.string s.tx,.int .i64 s.rd,.bool s.en,.bool s.dn,.bool s.sn]) (by rw [Tak.res_cell rfl];clear r2 cE kE kZ ST e0 e1 e2 e3 e4 a0 a1 a2 a3 a4 y0 y1 y2 y3 y4;go_simp;done) rfl ⟨s,hz,rfl,cE,kE⟩
end Go.Proofs.YtfejobjgbadfjaaGreat.Str
namespace Go.Proofs.YtfejobjgbadfjaaGreat.Wor
open Go.RowKit RowG Hop Roa Pum Lin
abbrev A7 (aH:Option Addr)(n cH:Nat)(aR:Option Addr)(m cR:Nat)(s:Str.Sm):List Value:=[.slice aH n cH,.slice aR m cR,.string s.tx,.int .i64 s.rd,.bool s.en,.bool s.dn,.bool s.sn]
structure AW (c k:Nat)(w wr:World)(aH:Option Addr)(cH:Nat)(xs:List Ha)(aR:Option Addr)(cR:Nat)(rs:List Rd)(s:Str.Sm):Prop where
 v:Var 33 wr k (A7 aH xs.length cH aR rs.length cR s)
 vR:Var 33 wr w.heap.size Z7
 D:DL wr aH xs aR rs
 lo:DLo w.heap.size aH xs aR
 sz:s.tx.size≤2001
 cu:Draw.Cur wr c
 K:Draw.Kept c w wr
 hk:w.heap.size<k
 hc:c<w.heap.size
theorem ntWorld:NT 33:=⟨by decide,by decide,by decide,by decide⟩
theorem AW.drawn {c k:Nat}{w wr wa:World}{aH:Option Addr}{cH:Nat}{xs:List Ha}{aR:Option Addr}{cR:Nat}{rs:List Rd}{s:Str.Sm}(q:AW c k w wr aH cH xs aR cR rs s)(cu:Draw.Cur wa c)(ka:Draw.Kept c wr wa):AW c k w wa aH cH xs aR cR rs s:=by
 have h1:=q.hk
 have h2:=q.hc
 refine⟨q.v.kept ka (by omega),q.vR.kept ka (by omega),q.D.kept ka (fun x hx=>?_) (fun x hx=>?_) (fun x hx=>⟨fun y hy=>?_,fun y hy=>?_⟩),q.lo,q.sz,cu,q.K.trans ka,h1,h2⟩
 ·have:=q.lo.h x hx;omega
 ·have:=q.lo.r x hx;omega
 ·have:=(q.lo.x x hx).1 y hy;omega
 ·have:=(q.lo.x x hx).2 y hy;omega
theorem cur_put {w w':World}{c k:Nat}(h:Draw.Cur w c)(hk:c<k)(ka:Draw.Kept k w w'):Draw.Cur w' c:=h.upto fun i hi=>ka.block i (by have:=h.lt;omega) (by omega)
theorem kept_put {w wr wa:World}{c k:Nat}(K:Draw.Kept c w wr)(hk:w.heap.size≤k)(ka:Draw.Kept k wr wa):Draw.Kept c w wa:=
 ⟨ka.os.trans K.os,ka.tape.trans K.tape,ka.output.trans K.output,Nat.le_trans K.size ka.size,fun i hi hc=>(ka.block i (Nat.lt_of_lt_of_le hi K.size) (by omega)).trans (K.block i hi hc)⟩
theorem AW.line {c k B:Nat}{w wr:World}{aH aH':Option Addr}{cH cH':Nat}{xs xs':List Ha}{aR aR':Option Addr}{cR cR':Nat}{rs rs':List Rd}{s:Str.Sm}(q:AW c k w wr aH cH xs aR cR rs s)(D:DL wr aH' xs' aR' rs')(lo:DLo B aH' xs' aR')(hB:w.heap.size≤B):
  AW c k w ((wr.setCell ⟨k,0,none⟩ (.slice aH' xs'.length cH')).setCell ⟨k,1,none⟩ (.slice aR' rs'.length cR')) aH' cH' xs' aR' cR' rs' s:=by
 have ka:Draw.Kept k wr ((wr.setCell ⟨k,0,none⟩ (.slice aH' xs'.length cH')).setCell ⟨k,1,none⟩ (.slice aR' rs'.length cR')):=((Draw.Kept.refl _ _).setCell (p:=⟨k,0,none⟩) (.inl rfl) _).setCell (p:=⟨k,1,none⟩) (.inl rfl) _
 have h1:=q.hk
 have h2:=q.hc
 refine⟨(q.v.set 0 _).set 1 _,q.vR.kept ka (by omega),D.keptV q.v ntWorld ka,⟨fun x hx=>?_,fun x hx=>?_,fun y hy=>⟨fun x hx=>?_,fun x hx=>?_⟩⟩,q.sz,cur_put q.cu (by omega) ka,kept_put q.K (by omega) ka,h1,h2⟩
 ·have:=lo.h x hx;omega
 ·have:=lo.r x hx;omega
 ·have:=(lo.x y hy).1 x hx;omega
 ·have:=(lo.x y hy).2 x hx;omega
theorem AW.stream {c k:Nat}{w wr:World}{aH:Option Addr}{cH:Nat}{xs:List Ha}{aR:Option Addr}{cR:Nat}{rs:List Rd}{s s':Str.Sm}(q:AW c k w wr aH cH xs aR cR rs s)(hz:s'.tx.size≤2001):
  AW c k w (((((wr.setCell ⟨k,2,none⟩ (.string s'.tx)).setCell ⟨k,3,none⟩ (.int .i64 s'.rd)).setCell ⟨k,4,none⟩ (.bool s'.en)).setCell ⟨k,5,none⟩ (.bool s'.dn)).setCell ⟨k,6,none⟩ (.bool s'.sn)) aH cH xs aR cR rs s':=by
 have ka:Draw.Kept k wr (((((wr.setCell ⟨k,2,none⟩ (.string s'.tx)).setCell ⟨k,3,none⟩ (.int .i64 s'.rd)).setCell ⟨k,4,none⟩ (.bool s'.en)).setCell ⟨k,5,none⟩ (.bool s'.dn)).setCell ⟨k,6,none⟩ (.bool s'.sn)):=by
  iterate 5 (refine Draw.Kept.setCell ?_ (.inl (by rfl)) _)
  exact Draw.Kept.refl _ _
 have h1:=q.hk
 have h2:=q.hc
 exact⟨((((q.v.set 2 _).set 3 _).set 4 _).set 5 _).set 6 _,q.vR.kept ka (by omega),q.D.keptV q.v ntWorld ka,q.lo,hz,cur_put q.cu (by omega) ka,kept_put q.K (by omega) ka,h1,h2⟩
theorem l16DrawAny (c:Nat)(w:World)(hc:Draw.Cur w c):
  Calls Tryz.prog 24 #[.pointer (some ⟨c,0,none⟩)] w fun e w'=> ∃(aH aR:Option Addr) (cH cR:Nat) (xs:List Ha) (rs:List Rd) (s:Str.Sm),e=.returned (.agg (A7 aH xs.length cH aR rs.length cR s).toArray)∧DL w' aH xs aR rs∧DLo w.heap.size aH xs aR∧s.tx.size≤2001∧Draw.Cur w' c∧Draw.Kept c w w':=by
 have hmix:=Roa.mix
 have hcl:=hc.lt
 have vR:Var 33 (w.alloc (.cells Z7.toArray 33)) w.heap.size Z7:=Var.new w _
 have cu0:=hc.alloc (.cells Z7.toArray 33)
 have K0:=(Draw.Kept.refl c w).alloc (.cells Z7.toArray 33)
 go_enter Tryz.func24,Tryz.ntmps24
 go_wp2_with fail
 generalize w.alloc (.cells Z7.toArray 33)=V at *
 have hzV:=K0.size
 have hzr:=vR.lt
 refine(l16Draw c _ cu0).mono ?_
 rintro e w1 ⟨v,W,rfl,⟨g2,h2,xs2,a2,r2,rfl,A2⟩,cu1,k1⟩
 have hx3:=A2.len
 have hrl:=roads_len (hops_iff.1 (ok_parts.1 A2.ok).1).2.1
 have htx:=(stream_iff.1 (ok_parts.1 A2.ok).2).1
 have D:AW c w1.heap.size w (w1.alloc (.cells #[.slice (some ⟨g2,0,none⟩) 3 h2,.slice a2 W.rs.length r2,.string W.tx,.int .i64 W.rd,.bool W.en,.bool W.dn,.bool W.sn] 33)) (some ⟨g2,0,none⟩) h2 xs2 a2 r2 W.rs W.sm:=by
  have hz1:=k1.size
  have LD:=LineLay.dl A2.L A2.R (by omega) (by omega) (fun x hx=>(sms_of A2.ok A2.hs x hx).1)
  have lo:=LineLay.lo (A2.L.mono hzV) (A2.R.mono hzV)
  refine⟨?_,(vR.kept k1 (by omega)).alloc _,LD.later ((Below.refl _ _).alloc (Nat.le_refl _) _),lo,by show W.tx.size≤2001;omega,cu1.alloc _,(K0.trans k1).alloc _,by omega,hcl⟩
  have q:=Var.new (T:=33) w1 (A7 (some ⟨g2,0,none⟩) 3 h2 a2 W.rs.length r2 W.sm)
  rw [hx3]
  exact q
 clear vR cu0 K0 cu1 k1 A2 hrl htx hx3
 go_upto_region 2 with(fail)
 generalize w1.alloc (.cells _ 33)=V1 at *
 generalize w1.heap.size=k at *
 generalize W.sm=s at *
 generalize W.rs=rs at *
 generalize (some ⟨g2,0,none⟩:Option Addr)=aH at *
 go_wp2_with fail
 refine(Draw.l1Once _ _ _ D.cu).mono ?_
 rintro e w2 ⟨b,rfl,cu2,k2⟩
 replace D:=D.drawn cu2 k2
 clear cu2 k2
 go_upto_if 7 with(fail)
 go_cut []from 8 (fun wr=> ∃aH cH xs aR cR rs s,AW c k w wr aH cH xs aR cR rs s)
 case first=>
  cases b
  case false=>
   go_wp2_with fail
   go_meet
   exact⟨_,_,_,_,_,_,_,D⟩
  case true=>
   go_wp2_with fail
   refine(Draw.l1Below _ _ _ D.cu).mono ?_
   rintro e w3 ⟨y,y0,y1,rfl,cu3,k3⟩
   replace D:=D.drawn cu3 k3
   have y2:y=0∨y=1:=by omega
   clear y0 y1 cu3 k3
   rcases y2 with rfl|rfl
   focus
    go_wp2_with fail
    refine(l13DrawAny c _ D.cu).mono ?_
    rintro e w4 ⟨aH',aR',cH',cR',xs',rs',rfl,D',lo',cu4,k4⟩
    have hz3:=D.K.size
    replace D:=D.drawn cu4 k4
    clear cu4 k4
    have c0:=D.v.cell (i:=0) rfl
    have c1:=D.v.cell (i:=1) rfl
    have f0:=D.v.free 0
    have f1:=D.v.free 1
    have D2:=D.line (cH':=cH') (cR':=cR') D' lo' hz3
    clear D D' lo'
    go_wp2_with fail
    go_meet
    exact⟨_,_,_,_,_,_,_,D2⟩
   focus
    go_wp2_with fail
    refine(Str.l15Draw c _ D.cu).mono ?_
    rintro e w4 ⟨s',hz',rfl,cu4,k4⟩
    replace D:=D.drawn cu4 k4
    clear cu4 k4
    have c2:=D.v.cell (i:=2) rfl
    have c3:=D.v.cell (i:=3) rfl
    have c4:=D.v.cell (i:=4) rfl
    have c5:=D.v.cell (i:=5) rfl
    have c6:=D.v.cell (i:=6) rfl
    have f2:=D.v.free 2
    have f3:=D.v.free 3
    have f4:=D.v.free 4
    have f5:=D.v.free 5
    have f6:=D.v.free 6
    have D2:=D.stream hz'.1
    clear D hz'
    go_wp2_with fail
    go_meet
    exact⟨_,_,_,_,_,_,_,D2⟩
 case rest=>
 clear D
 obtain⟨aH,cH,xs,aR,cR,rs,s,D⟩:=hcut
 obtain⟨c0,c1,c2,c3,c4,c5,c6⟩:=D.v.c7
 have d0:=D.vR.cell (i:=0) rfl
 have d1:=D.vR.cell (i:=1) rfl
 have d2:=D.vR.cell (i:=2) rfl
 have d3:=D.vR.cell (i:=3) rfl
 have d4:=D.vR.cell (i:=4) rfl
 have d5:=D.vR.cell (i:=5) rfl
 have d6:=D.vR.cell (i:=6) rfl
 have y0:=D.vR.free 0
 have y1:=D.vR.free 1
 have y2:=D.vR.free 2
 have y3:=D.vR.free 3
 have y4:=D.vR.free 4
 have y5:=D.vR.free 5
 have y6:=D.vR.free 6
 go_wp2_with fail
 clear c0 c1 c2 c3 c4 c5 c6 d0 d1 d2 d3 d4 d5 d6 y0 y1 y2 y3 y4 y5 y6
 have hk:=D.hk
 have hc':=D.hc
 have ka:=kept7 wc w.heap.size (.slice aH xs.length cH) (.slice aR rs.length cR) (.string s.tx) (.int .i64 s.rd) (.bool s.en) (.bool s.dn) (.bool s.sn)
 have vv:=var7 D.vR (.slice aH xs.length cH) (.slice aR rs.length cR) (.string s.tx) (.int .i64 s.rd) (.bool s.en) (.bool s.dn) (.bool s.sn)
 have D6:=D.D.keptV D.vR ntWorld ka
 have cu6:=cur_put D.cu hc' ka
 have K6:=kept_put D.K (Nat.le_refl _) ka
 have lo6:=D.lo
 have sz6:=D.sz
 clear D ka
 simp only [put7]at vv D6 cu6 K6
 generalize World.setCell _ ⟨w.heap.size,6,none⟩ (.bool s.sn)=WZ at *
 obtain⟨c0,c1,c2,c3,c4,c5,c6⟩:=vv.c7
 refine bodyPost_ret (v:=.agg (A7 aH xs.length cH aR rs.length cR s).toArray) (by rw [Hop.res_one rfl];go_simp) rfl ⟨aH,aR,cH,cR,xs,rs,s,rfl,D6,lo6,sz6,cu6,K6⟩
end Go.Proofs.YtfejobjgbadfjaaGreat.Wor
namespace Go.Proofs.YtfejobjgbadfjaaGreat.Tak
def onP (T:ByteArray)(q:Pt):Prop:=0≤q.1∧endP q≤T.size∧q.2=T.extract q.1.toNat (endP q).toNat
theorem mem_put {l:List Pt}{q x:Pt}(h:x∈putP l q):x=q∨x∈l:=by
 unfold putP at h
 simp at h
 rcases h with h|h|h
 ·exact .inr (List.mem_of_mem_take h)
 ·exact .inl h
 ·exact .inr (List.mem_of_mem_drop h)
theorem fold_on {T:ByteArray}{nx lim p:Int}{n:Nat}{l:List Pt}(hp:0≤p)(hn:p+n≤T.size)(hz:n≤40)(h0:okQ lim nx l)(hl: ∀q∈l,onP T q):
  ∀i:Nat,i≤n+1→ ∀q∈(foldK nx lim p (T.extract p.toNat (p+n).toNat) l i).1,onP T q:=by
 have hsz:(T.extract p.toNat (p+n).toNat).size=n:=by rw [ext_size _ _ _ (by omega)];omega
 intro i
 induction i with
 | zero=>exact fun _=>hl
 | succ i ih=>
  intro hi
  have ih:=ih (by omega)
  have inv:=inv_fold (bz:=T.extract p.toNat (p+n).toNat) hp (by omega) h0 i (by omega)
  rw [foldK_succ]
  generalize foldK nx lim p (T.extract p.toNat (p+n).toNat) l i=st at *
  unfold stepK
  split
  ·split <;>exact ih
  ·split
   next hfr=>
    intro q hq
    rcases mem_put hq with z|z
    ·obtain⟨r1,r2,r3,r4,r5,r6⟩:p≤st.2.1∧st.2.1<p+i∧nx≤st.2.1∧p+i≤lim∧p+i≤p+(T.extract p.toNat (p+n).toNat).size∧_:=by
      rcases inv.run with y|y
      ·omega
      ·exact y
     rw [hsz]at r5
     subst z
     have he:(T.extract p.toNat (p+n).toNat).extract (st.2.1-p).toNat (p+(i:Int)-p).toNat=T.extract st.2.1.toNat (p+i).toNat:=by
      rw [ByteArray.extract_extract]
      congr 1 <;>omega
     rw [he]
     have hs2:(T.extract st.2.1.toNat (p+i).toNat).size=(p+i-st.2.1).toNat:=by rw [ext_size _ _ _ (by omega)];omega
     have hen:endP (st.2.1,T.extract st.2.1.toNat (p+i).toNat)=p+i:=by
      unfold endP
      simp only []
      rw [hs2]
      omega
     refine⟨hfr,by rw [hen];omega,?_⟩
     rw [hen]
    ·exact ih q z
   next hfr=>exact ih
end Go.Proofs.YtfejobjgbadfjaaGreat.Tak
namespace Go.Proofs.YtfejobjgbadfjaaGreat.Wor
open Go.RowKit RowG Hop Roa Pum
def sub (X:ByteArray)(a b:Int):ByteArray:=X.extract a.toNat b.toNat
theorem sub_size {X:ByteArray}{a b:Int}(h0:0≤a)(h1:a≤b)(h2:b≤X.size):((sub X a b).size:Int)=b-a:=by
 unfold sub
 rw [ByteArray.size_extract]
 omega
theorem sub_app {X:ByteArray}{a b c:Int}(h1:a≤b)(h2:b≤c):sub X a b++sub X b c=sub X a c:=by
 unfold sub
 rw [ByteArray.extract_append_extract]
 congr 1 <;>omega
theorem sub_ext {X:ByteArray}{a b:Int}(i j:Nat)(h0:0≤a)(h1:a+j≤b):(sub X a b).extract i j=sub X (a+i) (a+j):=by
 unfold sub
 rw [ByteArray.extract_extract]
 congr 1 <;>omega
theorem sub_grow {X Z:ByteArray}{a b:Int}(h:b≤X.size):sub (X++Z) a b=sub X a b:=by
 unfold sub
 apply ByteArray.ext
 simp only [ByteArray.data_extract,ByteArray.data_append]
 have h2:b.toNat≤X.data.size:=by have:X.size=X.data.size:=rfl;omega
 rw [Array.extract_append,show b.toNat-X.data.size=0 by omega]
 simp
theorem sub_sub {X:ByteArray}{m a b:Int}(ha:0≤a)(hb:b≤m):sub (sub X 0 m) a b=sub X a b:=by
 unfold sub
 rw [ByteArray.extract_extract]
 congr 1 <;>omega
structure OnK (Y:ByteArray)(E:Bool)(x:Tak.Tk):Prop where
 nx:x.nx≤Y.size
 bs:x.bs=sub Y (x.nx-x.bs.size) x.nx
 pt: ∀q∈x.l,Tak.onP Y q
 fi:0≤x.fi→E=true∧x.fi=Y.size
def onL (Y:ByteArray)(E:Bool)(x:Lt):Prop:=x.bk=false→0≤x.pl∧x.pl+x.bs.size≤Y.size∧x.bs=sub Y x.pl (x.pl+x.bs.size)∧(x.en=true→E=true∧x.pl+x.bs.size=Y.size)
structure HI (Y:ByteArray)(h:Hp):Prop where
 gb:h.g.bs=sub Y h.g.ba Y.size
 ge:h.g.ba+h.g.bs.size=Y.size
 tk:OnK Y h.g.en h.t
 lt: ∀x∈h.ws,onL Y h.g.en x
 bk: ∀x∈h.ws,x.bk=true→x.pl≤h.t.nx
 ba:h.g.ba≤h.t.nx
theorem en_iff {t:Tak.Tk}(h:t.ok=true):t.en=true↔t.fi=t.nx:=by
 obtain⟨-,-,he⟩:=Tak.ok_iff.1 h
 rw [(Tak.end_iff.1 he).2.1,decide_eq_true_eq]
theorem nx_in {t:Tak.Tk}(h:t.ok=true):0≤t.nx∧(t.bs.size:Int)≤t.nx:=by
 obtain⟨hin,-,-⟩:=Tak.ok_iff.1 h
 exact⟨hin.2.1.1,hin.2.2.1.2⟩
theorem join_of {T:ByteArray}{lim:Int}: ∀ {L:List Tak.Pt} {nx b:Int},0≤b→b≤nx→nx≤T.size→Tak.okQ lim nx L→(∀q∈L,Tak.onP T q)→
  (Tak.joinT nx (sub T b nx) L).2.1=sub T b (Tak.joinT nx (sub T b nx) L).1∧(Tak.joinT nx (sub T b nx) L).1≤T.size∧ ∀q∈(Tak.joinT nx (sub T b nx) L).2.2,Tak.onP T q
 | [],nx,b,_,_,hs,_,_=>⟨rfl,hs,fun q hq=>by cases hq⟩
 | q::r,nx,b,h0,hn,hs,⟨h1,h2,h3,h4⟩,hl=>by
  have hg:=Tak.end_gt h1.1
  obtain⟨o1,o2,o3⟩:=hl q (List.mem_cons_self ..)
  rw [Tak.joinT]
  by_cases h:q.1=nx
  ·rw [if_pos h]
   have he:sub T b nx++q.2=sub T b (Tak.endP q):=by
    rw [o3,h]
    exact sub_app hn (by omega)
   rw [he]
   exact join_of h0 (by omega) o2 h4 (fun x hx=>hl x (List.mem_cons_of_mem _ hx))
  ·rw [if_neg h]
   exact⟨rfl,hs,hl⟩
theorem take_on {Y:ByteArray}{E:Bool}{x:Tak.Tk}(hok:x.ok=true)(h:OnK Y E x){p:Int}{bz:ByteArray}{e:Bool}(hp:0≤p)(hz:p+bz.size≤Y.size)(hb:bz=sub Y p (p+bz.size))(he:e=true→E=true∧p+bz.size=Y.size):
  OnK Y E (Tak.takeT x p bz e).1∧(x.en=true→(Tak.takeT x p bz e).1.en=true∧(Tak.takeT x p bz e).1.bs.size=x.bs.size)∧x.nx≤(Tak.takeT x p bz e).1.nx∧(Tak.takeT x p bz e).1.nx-(Tak.takeT x p bz e).1.bs.size=x.nx-x.bs.size:=by
 by_cases hbad:Tak.takeBad x p bz e
 ·rw [Tak.take_bad hbad]
  exact⟨h,fun q=>⟨q,rfl⟩,Int.le_refl _,rfl⟩
 obtain⟨hp',hs',hz',-,-⟩:=Tak.bad_not hbad
 obtain⟨hin,hq,hee⟩:=Tak.ok_iff.1 hok
 have hx:=nx_in hok
 have hon:=Tak.fold_on (T:=Y) (nx:=x.nx) (lim:=Tak.limT x.nx x.bs x.cp) (n:=bz.size) hp hz hz' (Tak.okQ_weak (show x.nx≤x.nx+1 by omega) hq) h.pt (bz.size+1) (Nat.le_refl _)
 have hb':Y.extract p.toNat (p+(bz.size:Int)).toNat=bz:=hb.symm
 rw [hb']at hon
 obtain⟨a1,a2,a3,a4,a5,a6,a7⟩:=Tak.take_facts hok hbad
 have hok':=Tak.take_ok hok p bz e
 obtain⟨L,fr,b,hf⟩: ∃L fr b,Tak.foldK x.nx (Tak.limT x.nx x.bs x.cp) p bz x.l (bz.size+1)=(L,fr,b):=⟨_,_,_,rfl⟩
 have hfa:=(Tak.fold_all hok hp hz').1
 have htk:=Tak.take_good hbad hf
 rw [hf]at hfa hon
 have hjo:=join_of (b:=x.nx-x.bs.size) (by omega) (by omega) h.nx hfa hon
 rw [←h.bs]at hjo
 generalize Tak.takeT x p bz e=R at *
 obtain⟨y,ch⟩:=R
 simp only at a1 a2 a3 a4 a5 a6 a7 hok' htk ⊢
 have hy:=congrArg Prod.fst htk
 simp only at hy
 have hst:y.nx-(y.bs.size:Int)=x.nx-x.bs.size:=by omega
 have hny:y.nx≤Y.size:=by rw [hy];exact hjo.2.1
 have hfi:0≤y.fi→E=true∧y.fi=Y.size:=by
  rw [a6]
  split
  ·rename_i q
   intro _
   exact he q.1
  ·exact h.fi
 refine⟨⟨hny,?_,by rw [hy];exact hjo.2.2,hfi⟩,fun q=>?_,a1,hst⟩
 ·rw [hst]
  rw [hy]
  exact hjo.1
 ·have q1:=(en_iff hok).1 q
  have q2:=h.fi (by omega)
  have q3:y.fi=x.fi:=by
   rw [a6,if_neg (by omega)]
  refine⟨(en_iff hok').2 (by omega),by omega⟩
theorem left_on {Y:ByteArray}{E:Bool}{x:Tak.Tk}(hok:x.ok=true)(h:OnK Y E x){k:Int}(h0:0≤k)(h1:k≤x.bs.size):OnK Y E (leftT x k)∧(leftT x k).nx-(leftT x k).bs.size=x.nx-x.bs.size+k∧((leftT x k).bs.size:Int)=x.bs.size-k∧x.bs.extract 0 k.toNat=sub Y (x.nx-x.bs.size) (x.nx-x.bs.size+k):=by
 have hx:=nx_in hok
 have hs:((x.bs.extract k.toNat x.bs.size).size:Int)=x.bs.size-k:=by rw [ByteArray.size_extract];omega
 have hb:=h.bs
 refine⟨⟨h.nx,?_,h.pt,h.fi⟩,?_,hs,?_⟩
 ·show x.bs.extract k.toNat x.bs.size=sub Y (x.nx-((x.bs.extract k.toNat x.bs.size).size:Int)) x.nx
  rw [hs]
  have e:=sub_ext (X:=Y) (a:=x.nx-x.bs.size) (b:=x.nx) k.toNat x.bs.size (by omega) (by omega)
  rw [←hb]at e
  rw [e]
  congr 1 <;>omega
 ·show x.nx-((x.bs.extract k.toNat x.bs.size).size:Int)=_
  omega
 ·have e:=sub_ext (X:=Y) (a:=x.nx-x.bs.size) (b:=x.nx) 0 k.toNat (by omega) (by omega)
  rw [←hb]at e
  rw [e]
  congr 1 <;>omega
theorem on_more {Y Z:ByteArray}{E:Bool}{x:Tak.Tk}(hok:x.ok=true)(h:OnK Y false x):OnK (Y++Z) E x:=by
 have hs:((Y++Z).size:Int)=Y.size+Z.size:=by rw [ByteArray.size_append];omega
 have hn:=h.nx
 refine⟨by omega,?_,fun q hq=>?_,fun hf=>?_⟩
 ·rw [sub_grow hn];exact h.bs
 ·obtain⟨o1,o2,o3⟩:=h.pt q hq
  exact⟨o1,by omega,by rw [o3];exact(sub_grow (Z:=Z) o2).symm⟩
 ·have:=(h.fi hf).1;cases this
end Go.Proofs.YtfejobjgbadfjaaGreat.Wor
