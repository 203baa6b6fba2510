/- Contracts of this seat's functions, and their mathematics (DrawG DrawF). -/
import Derived.Test.YtfejobjgbadfjaaGreatK12
import Derived.Test.YtfejobjgbadfjaaGreatK30
import Derived.Test.YtfejobjgbadfjaaGreatK7
set_option linter.unusedVariables false
set_option linter.unusedSimpArgs false
set_option maxRecDepth 10000
set_option maxHeartbeats 4000000
namespace Go.Proofs.YtfejobjgbadfjaaGreat.Giv
open Go.RowKit RowG
theorem caps5 (x:Int)(h0:0≤x)(h1:x<5): ∃v:Int,Tak.capB v=true∧(#[.int .i64 1,.int .i64 6,.int .i64 12,.int .i64 40,.int .i64 400]:Array Value)[x.toNat]? =some (.int .i64 v):=by
 have h:x=0∨x=1∨x=2∨x=3∨x=4:=by omega
 rcases h with rfl|rfl|rfl|rfl|rfl <;>exact⟨_,by decide,rfl⟩
theorem newG_ok {n:Int}(h:Tak.capB n=true)(w:World):
  Calls Tryz.prog 83 #[.int .i64 n] w fun x w'=>x=.returned (.tuple #[.agg #[.int .i64 0,.string ⟨#[]⟩,.int .i64 n,.int .i64 0,.bool false,.bool false],.bool true])∧Below w.heap.size w w':=by
 have e:=specNewGiver n w
 unfold newG at e
 rw [h]at e
 exact e
theorem new_ok {n:Int}(h:Tak.capB n=true):Gv.ok ⟨0,⟨#[]⟩,n,0,false,false⟩=true:=by
 have hc:1≤n∧n≤400:=by simpa [Tak.capB]using h
 have hs:(⟨#[]⟩:ByteArray).size=0:=rfl
 refine ok_iff.2 ⟨hc,by dsimp only;omega,by dsimp only;rw [hs];omega,by dsimp only;rw [hs];omega,by dsimp only;omega,by dsimp only;omega,fun hd=>by cases hd⟩
theorem end_ok {g:Gv}(h:g.ok=true):Gv.ok ⟨g.ba,g.bs,g.cp,g.lm,true,g.dn⟩=true:=by
 obtain⟨h1,h2,h3,h4,h5,h6,h7⟩:=ok_iff.1 h
 exact ok_iff.2 ⟨h1,h2,h3,h4,h5,h6,fun hd=>⟨rfl,(h7 hd).2⟩⟩
theorem end_ok2 {g:Gv}{b:Bool}(h:g.ok=true)(hb:g.en=true→b=true):Gv.ok ⟨g.ba,g.bs,g.cp,g.lm,b,g.dn⟩=true:=by
 obtain⟨h1,h2,h3,h4,h5,h6,h7⟩:=ok_iff.1 h
 exact ok_iff.2 ⟨h1,h2,h3,h4,h5,h6,fun hd=>⟨hb (h7 hd).1,(h7 hd).2⟩⟩
theorem cur_kept {w w':World}{c k:Nat}(h:Draw.Cur w c)(hk:Draw.Kept k w w')(hc:c<k):Draw.Cur w' c:=h.upto fun i hi=>hk.block i (by have:=h.lt;omega) (by omega)
theorem kept_kept {w0 w w':World}{c k:Nat}(h:Draw.Kept c w0 w)(hk:Draw.Kept k w w')(hs:w0.heap.size≤k):Draw.Kept c w0 w':=
 ⟨hk.os.trans h.os,hk.tape.trans h.tape,hk.output.trans h.output,Nat.le_trans h.size hk.size,fun i hi hc=>(hk.block i (Nat.lt_of_lt_of_le hi h.size) (by omega)).trans (h.block i hi hc)⟩
def DrawI (w0:World)(c k2 k3:Nat)(w:World):Prop:= ∃g:Gv,g.ok=true∧Var 41 w k3 [.int .i64 g.ba,.string g.bs,.int .i64 g.cp,.int .i64 g.lm,.bool g.en,.bool g.dn]∧Var 41 w k2 [.int .i64 0,.string ⟨#[]⟩,.int .i64 0,.int .i64 0,.bool false,.bool false]∧Draw.Cur w c∧Draw.Kept c w0 w
theorem l6Draw (c:Nat)(w:World)(h:Draw.Cur w c):
  Calls Tryz.prog 98 #[.pointer (some ⟨c,0,none⟩)] w fun x w'=> ∃g:Gv,g.ok=true∧x=.returned g.v∧Draw.Cur w' c∧Draw.Kept c w w':=by
 have hmix:=mix
 have hlt:=h.lt
 have z2:Var 41 (w.alloc (.cells #[.int .i64 0,.string ⟨#[]⟩,.int .i64 0,.int .i64 0,.bool false,.bool false] 41)) w.heap.size [.int .i64 0,.string ⟨#[]⟩,.int .i64 0,.int .i64 0,.bool false,.bool false]:=Var.new w _
 have cu1:Draw.Cur (w.alloc (.cells #[.int .i64 0,.string ⟨#[]⟩,.int .i64 0,.int .i64 0,.bool false,.bool false] 41)) c:=h.alloc _
 have kp1:Draw.Kept c w (w.alloc (.cells #[.int .i64 0,.string ⟨#[]⟩,.int .i64 0,.int .i64 0,.bool false,.bool false] 41)):=(Draw.Kept.refl c w).alloc _
 go_enter Tryz.func98,Tryz.ntmps98
 go_wp2_with fail
 refine(Draw.l1Below c 5 _ (cu1.alloc _)).mono ?_
 rintro e w1 ⟨x,x0,x1,rfl,c1,k1⟩
 have x2:x<5:=by omega
 clear x1
 obtain⟨v,hvc,hv⟩:=caps5 x x0 x2
 have hc:=(k1.cell (p:=⟨w.heap.size+1,x.toNat,none⟩) (by simp) (show w.heap.size+1≠c by omega)).trans ((by simp:((w.alloc (.cells #[.int .i64 0,.string ⟨#[]⟩,.int .i64 0,.int .i64 0,.bool false,.bool false] 41)).alloc (.cells #[.int .i64 1,.int .i64 6,.int .i64 12,.int .i64 40,.int .i64 400] 2)).cell? ⟨w.heap.size+1,x.toNat,none⟩=_).trans hv)
 have z2:=(z2.alloc (.cells #[.int .i64 1,.int .i64 6,.int .i64 12,.int .i64 40,.int .i64 400] 2)).kept k1 (by omega)
 have kp2:=(kp1.alloc _).trans k1
 have HV:Hid _:=hv
 clear k1 hv kp1 cu1
 go_wp2_with fail
 refine(newG_ok hvc _).mono ?_
 rintro e w2 ⟨rfl,b2⟩
 have z2:=z2.later b2
 have c2:=c1.below b2 (Nat.le_refl _)
 have kp3:=kp2.trans (Draw.Kept.ofBelow b2 (Nat.le_refl _))
 have v3:Var 41 (w2.alloc (.cells #[.int .i64 0,.string ⟨#[]⟩,.int .i64 v,.int .i64 0,.bool false,.bool false] 41)) w2.heap.size [.int .i64 0,.string ⟨#[]⟩,.int .i64 v,.int .i64 0,.bool false,.bool false]:=Var.new w2 _
 have z3:=z2.alloc (.cells #[.int .i64 0,.string ⟨#[]⟩,.int .i64 v,.int .i64 0,.bool false,.bool false] 41)
 have c3:=c2.alloc (.cells #[.int .i64 0,.string ⟨#[]⟩,.int .i64 v,.int .i64 0,.bool false,.bool false] 41)
 have kp4:=kp3.alloc (.cells #[.int .i64 0,.string ⟨#[]⟩,.int .i64 v,.int .i64 0,.bool false,.bool false] 41)
 have hk3:w.heap.size<w2.heap.size:=z2.lt
 clear z2 c1 c2 kp2 kp3 b2 hc
 go_upto_region 2 with(fail)
 generalize w2.alloc (.cells #[.int .i64 0,.string ⟨#[]⟩,.int .i64 v,.int .i64 0,.bool false,.bool false] 41)=W at *
 generalize w2.heap.size=k3 at *
 go_wp2_with fail
 refine(Draw.l1Below c 7 _ c3).mono ?_
 rintro e w4 ⟨m,m0,m1,rfl,c4,k4⟩
 have HI0:Hid (DrawI w c w.heap.size k3 w4):=⟨⟨0,⟨#[]⟩,v,0,false,false⟩,new_ok hvc,v3.kept k4 (by omega),z3.kept k4 (by omega),c4,kp4.trans k4⟩
 have m2:m≤8:=by omega
 clear m1 v3 z3 c3 kp4 k4 c4
 go_wp2_with fail
 go_loopw [5] (fun n wr=> ∃m:Int,0≤m∧m≤8∧n=.int .i64 m∧DrawI w c w.heap.size k3 wr)
  (fun n _=>(intOf n).toNat)
 case atStart=>exact⟨m,m0,m2,rfl,HI0.out⟩
 case round=>
  clear m0 m2 HI0
  obtain⟨m,m0,m2,rfl,g,hok,v0,z0,cu0,p0⟩:=hrel
  have Hok:Hid (g.ok=true):=hok
  obtain⟨i1,⟨j1,j2⟩,i3,i4,⟨j3,j4⟩,i6,i7⟩:=ok_iff.1 hok
  clear hok i7
  by_cases hm:0<m
  case neg=>
   obtain⟨e0,e1,e2,e3,e4,e5⟩:=v0.c6
   obtain⟨r0,r1,r2,r3,r4,r5⟩:=z0.c6
   obtain⟨y0,y1,y2,y3,y4,y5⟩:=z0.f6
   go_wp2_with fail
   refine bodyPost_ret (v:=.agg #[.int .i64 g.ba,.string g.bs,.int .i64 g.cp,.int .i64 g.lm,.bool g.en,.bool g.dn]) (by rw [Tak.res_cell rfl];go_simp) rfl ⟨g,Hok.out,rfl,?_,?_⟩
   ·iterate 6 (refine Draw.Cur.upto ?_ (fun i hi=>Below.heap_setCell _ _ _ _ (by dsimp only;omega)))
    exact cu0
   ·iterate 6 (refine Draw.Kept.setCell ?_ (.inr (by dsimp only;omega)) _)
    exact p0
  go_wp2_with fail
  refine(Draw.l1Below c 5 _ cu0).mono ?_
  rintro e w5 ⟨j,q0,q1,rfl,cu1,k5⟩
  have v1:=v0.kept k5 (by omega)
  have z1:=z0.kept k5 (by omega)
  have p1:=p0.trans k5
  clear v0 z0 cu0 p0 k5
  have hj:(j=0∨j=1)∨j=2∨j=3∨j=4:=by omega
  clear q0 q1
  obtain⟨e0,e1,e2,e3,e4,e5⟩:=v1.c6
  have y4:=v1.free 4
  have hE:=fun w'=>l6End g w' ⟨⟨by omega,by omega⟩,by omega⟩
  dsimp only [Gv.v]at hE
  rcases hj with hj|rfl|rfl|rfl
  focus
   rcases hj with rfl|rfl
   all_goals
    go_wp2_with fail
    refine(hE _).mono ?_
    rintro e w6 ⟨rfl,b6⟩
    have v2:=v1.later b6
    have z2:=z1.later b6
    have cu2:=cu1.below b6 (Nat.le_refl _)
    have p2:=p1.trans (Draw.Kept.ofBelow b6 (Nat.le_refl _))
    go_wp2_with fail
    refine(Draw.l1Below c 9 _ cu2).mono ?_
    rintro e w7 ⟨y,y0,y1,rfl,cu3,k7⟩
    have v3:=v2.kept k7 (by omega)
    have z3:=z2.kept k7 (by omega)
    have p3:=p2.trans k7
    go_wp2_with fail
    refine(Draw.l5Text (g.ba+g.bs.size) y _ (by omega) (by omega) y0 (by omega)).mono ?_
    rintro e w8 ⟨s,hs,rfl,b8⟩
    have v4:=v3.later b8
    have z4:=z3.later b8
    have cu4:=cu3.below b8 (Nat.le_refl _)
    have p4:=p3.trans (Draw.Kept.ofBelow b8 (Nat.le_refl _))
    go_wp2_with fail
    refine(l6Write k3 g s _ v4 Hok.out (by omega)).mono ?_
    rintro e w9 ⟨rfl,vn,kn⟩
    have zn:=z4.kept kn (by omega)
    have cn:=cur_kept cu4 kn (by have:=cu4.lt;have:=p4.size;omega)
    have pn:=kept_kept p4 kn (by omega)
    have hokn:=write_ok Hok.out s
    go_wp2_with fail
    go_roundw
    case rel=>exact⟨m-1,by omega,by omega,rfl,_,hokn,vn,zn,cn,pn⟩
    case measure=>simp [intOf];omega
  focus
   have hlw:(g.bs.size:Int)+1≤402:=by omega
   go_wp2_with fail
   refine Draw.wp_region_Y (S:=(fun w'=>w'.cell? ⟨k3,0,none⟩=some (.int .i64 g.ba)∧w'.cell? ⟨k3,1,none⟩=some (.string g.bs)∧w'.cell? ⟨k3,2,none⟩=some (.int .i64 g.cp)∧w'.cell? ⟨k3,3,none⟩=some (.int .i64 g.lm)∧w'.cell? ⟨k3,4,none⟩=some (.bool g.en)∧w'.cell? ⟨k3,5,none⟩=some (.bool g.dn))) 16 (by kernel_rfl) ?_ (fun hHeld=>?_)
   focus ((try dsimp only) <;>(first|with_reducible exact hHeld|with_reducible exact⟨sa0,sa1,sa2,sa3,sa4,sa5⟩|with_reducible exact⟨sb0,sb1,sb2,sb3,sb4,sb5⟩|with_reducible exact⟨sc0,sc1,sc2,sc3,sc4,sc5⟩|exact⟨e0,e1,e2,e3,e4,e5⟩))
   refine Draw.wpAnyY_takeT (i:=0) (v:=?_) rfl (by kernel_rfl) (by kernel_rfl) (by kernel_rfl) (fun _ _ _ h=>h) (Or.inl ⟨by rfl,?_⟩) ?_
   rotate_left 1
   focus (intro s h;(try dsimp only at h);go_simp;(try apply And.intro) <;>with_reducible rfl)
   (try simp only [Act.put,Draw.lays])
   refine Draw.wpAnyY_takeP (ps:=[8]) (i:=1) (v:=?_) rfl (by kernel_rfl) (by kernel_rfl) (by kernel_rfl) (by kernel_rfl) (by kernel_rfl) (fun _ _ _ h=>h) (Or.inl ⟨by rfl,?_⟩) (by assumption) ?_
   rotate_left 1
   focus (intro s h;(try dsimp only at h);go_simp;(try apply And.intro) <;>with_reducible rfl)
   (try simp only [Act.put,Draw.lays])
   refine Draw.wpAnyY_takeT (i:=2) (v:=?_) rfl (by kernel_rfl) (by kernel_rfl) (by kernel_rfl) (fun _ _ _ h=>h) (Or.inl ⟨by rfl,?_⟩) ?_
   rotate_left 1
   focus (intro s h;(try dsimp only at h);go_simp;(try apply And.intro) <;>with_reducible rfl)
   (try simp only [Act.put,Draw.lays])
   refine Draw.wpAnyY_takeT (i:=3) (v:=?_) rfl (by kernel_rfl) (by kernel_rfl) (by kernel_rfl) (fun _ _ _ h=>h) (Or.inl ⟨by rfl,?_⟩) ?_
   rotate_left 1
   focus (intro s h;(try dsimp only at h);go_simp;(try apply And.intro) <;>with_reducible rfl)
   (try simp only [Act.put,Draw.lays])
   refine Draw.wpAnyY_takeP (ps:=[8,7,6,5]) (i:=4) (v:=?_) rfl (by kernel_rfl) (by kernel_rfl) (by kernel_rfl) (by kernel_rfl) (by kernel_rfl) (fun _ _ _ h=>h) (Or.inl ⟨by rfl,?_⟩) (by assumption) ?_
   rotate_left 1
   focus (intro s h;(try dsimp only at h);go_simp;(try apply And.intro) <;>with_reducible rfl)
   (try simp only [Act.put,Draw.lays])
   refine Draw.wpAnyY_takeT (i:=5) (v:=?_) rfl (by kernel_rfl) (by kernel_rfl) (by kernel_rfl) (fun _ _ _ h=>h) (Or.inl ⟨by rfl,?_⟩) ?_
   rotate_left 1
   focus (intro s h;(try dsimp only at h);go_simp;(try apply And.intro) <;>with_reducible rfl)
   (try simp only [Act.put,Draw.lays])
   refine Draw.wpAnyY_takeT (i:=6) (v:=?_) rfl (by kernel_rfl) (by kernel_rfl) (by kernel_rfl) (fun _ _ _ h=>h) (Or.inl ⟨by rfl,?_⟩) ?_
   rotate_left 1
   focus (intro s h;(try dsimp only at h);go_simp;(try apply And.intro) <;>with_reducible rfl)
   (try simp only [Act.put,Draw.lays])
   refine Draw.wpAnyY_takeT (i:=9) (v:=?_) rfl (by kernel_rfl) (by kernel_rfl) (by kernel_rfl) (fun _ _ _ h=>h) (Or.inl ⟨by rfl,?_⟩) ?_
   rotate_left 1
   focus (intro s h;(try dsimp only at h);go_simp;(try apply And.intro) <;>with_reducible rfl)
   (try simp only [Act.put,Draw.lays])
   refine Draw.wpAnyY_takeP (ps:=[13]) (i:=10) (v:=?_) rfl (by kernel_rfl) (by kernel_rfl) (by kernel_rfl) (by kernel_rfl) (by kernel_rfl) (fun _ _ _ h=>h) (Or.inl ⟨by rfl,?_⟩) (by assumption) ?_
   rotate_left 1
   focus (intro s h;(try dsimp only at h);go_simp;(try apply And.intro) <;>with_reducible rfl)
   (try simp only [Act.put,Draw.lays])
   refine Draw.wpAnyY_takeT (i:=11) (v:=?_) rfl (by kernel_rfl) (by kernel_rfl) (by kernel_rfl) (fun _ _ _ h=>h) (Or.inl ⟨by rfl,?_⟩) ?_
   rotate_left 1
   focus (intro s h;(try dsimp only at h);go_simp;(try apply And.intro) <;>with_reducible rfl)
   (try simp only [Act.put,Draw.lays])
   refine Draw.wpAnyY_takeT (i:=14) (v:=?_) rfl (by kernel_rfl) (by kernel_rfl) (by kernel_rfl) (fun _ _ _ h=>h) (Or.inl ⟨by rfl,?_⟩) ?_
   rotate_left 1
   focus (intro s h;(try dsimp only at h);go_simp;(try apply And.intro) <;>with_reducible rfl)
   (try simp only [Act.put,Draw.lays])
   refine Draw.wpAnyY_ready (rs:=[7]) (by kernel_rfl) (by simp) ?_
   refine Draw.AllReadyY.cons rfl (fun K hK=>?_) Draw.AllReadyY.nil
   (go_simp;refine(Draw.l1Below c _ _ cu1.drew).mono ?_;rintro x wa ⟨y,ya,yb,rfl,cua,ka⟩;have va:=v1.drew.kept ka (by omega);have za:=z1.drew.kept ka (by omega);have pa:=p1.drew.trans ka;have sa0:=va.cell (i:=0) rfl;have sa1:=va.cell (i:=1) rfl;have sa2:=va.cell (i:=2) rfl;have sa3:=va.cell (i:=3) rfl;have sa4:=va.cell (i:=4) rfl;have sa5:=va.cell (i:=5) rfl)
   refine hK.out _ _ ?_ (fun hHeld2=>?_)
   focus (intro _ _;(try dsimp only) <;>(first|with_reducible exact hHeld|with_reducible exact⟨sa0,sa1,sa2,sa3,sa4,sa5⟩|with_reducible exact⟨sb0,sb1,sb2,sb3,sb4,sb5⟩|with_reducible exact⟨sc0,sc1,sc2,sc3,sc4,sc5⟩|exact⟨e0,e1,e2,e3,e4,e5⟩))
   clear hK K
   replace hHeld:=hHeld2 (by decide) hHeld
   clear hHeld2
   (try simp only [Act.put,Draw.lays])
   refine Draw.wpAnyY_takeT (i:=8) (v:=?_) rfl (by kernel_rfl) (by kernel_rfl) (by kernel_rfl) (fun _ _ _ h=>h) (Or.inl ⟨by rfl,?_⟩) ?_
   rotate_left 1
   focus (intro s h;(try dsimp only at h);go_simp;(try apply And.intro) <;>with_reducible rfl)
   (try simp only [Act.put,Draw.lays])
   refine Draw.wpAnyY_ready (rs:=[12]) (by kernel_rfl) (by simp) ?_
   refine Draw.AllReadyY.cons rfl (fun K hK=>?_) Draw.AllReadyY.nil
   (go_simp;refine(Draw.l1Below c _ _ cua).mono ?_;rintro x wb ⟨u,ua,ub,rfl,cub,kb⟩;have vb:=va.kept kb (by omega);have zb:=za.kept kb (by omega);have pb:=pa.trans kb;have sb0:=vb.cell (i:=0) rfl;have sb1:=vb.cell (i:=1) rfl;have sb2:=vb.cell (i:=2) rfl;have sb3:=vb.cell (i:=3) rfl;have sb4:=vb.cell (i:=4) rfl;have sb5:=vb.cell (i:=5) rfl)
   refine hK.out _ _ ?_ (fun hHeld2=>?_)
   focus (intro _ _;(try dsimp only) <;>(first|with_reducible exact hHeld|with_reducible exact⟨sa0,sa1,sa2,sa3,sa4,sa5⟩|with_reducible exact⟨sb0,sb1,sb2,sb3,sb4,sb5⟩|with_reducible exact⟨sc0,sc1,sc2,sc3,sc4,sc5⟩|exact⟨e0,e1,e2,e3,e4,e5⟩))
   clear hK K
   replace hHeld:=hHeld2 (by decide) hHeld
   clear hHeld2
   (try simp only [Act.put,Draw.lays])
   refine Draw.wpAnyY_takeT (i:=13) (v:=?_) rfl (by kernel_rfl) (by kernel_rfl) (by kernel_rfl) (fun _ _ _ h=>h) (Or.inl ⟨by rfl,?_⟩) ?_
   rotate_left 1
   focus (intro s h;(try dsimp only at h);go_simp;(try apply And.intro) <;>with_reducible rfl)
   (try simp only [Act.put,Draw.lays])
   refine Draw.wpAnyY_ready (rs:=[15]) (by kernel_rfl) (by simp) ?_
   refine Draw.AllReadyY.cons rfl (fun K hK=>?_) Draw.AllReadyY.nil
   (go_simp;refine(Draw.l1Once c _ _ cub).mono ?_;rintro x wc ⟨d,rfl,cuc,kc⟩;have vc:=vb.kept kc (by omega);have zc:=zb.kept kc (by omega);have pc:=pb.trans kc;have sc0:=vc.cell (i:=0) rfl;have sc1:=vc.cell (i:=1) rfl;have sc2:=vc.cell (i:=2) rfl;have sc3:=vc.cell (i:=3) rfl;have sc4:=vc.cell (i:=4) rfl;have sc5:=vc.cell (i:=5) rfl)
   refine hK.out _ _ ?_ (fun hHeld2=>?_)
   focus (intro _ _;(try dsimp only) <;>(first|with_reducible exact hHeld|with_reducible exact⟨sa0,sa1,sa2,sa3,sa4,sa5⟩|with_reducible exact⟨sb0,sb1,sb2,sb3,sb4,sb5⟩|with_reducible exact⟨sc0,sc1,sc2,sc3,sc4,sc5⟩|exact⟨e0,e1,e2,e3,e4,e5⟩))
   clear hK K
   replace hHeld:=hHeld2 (by decide) hHeld
   clear hHeld2
   (try simp only [Act.put,Draw.lays])
   refine Draw.wpAnyY_ready (rs:=[16]) (by kernel_rfl) (by simp) ?_
   refine Draw.AllReadyY.cons rfl (fun K hK=>?_) Draw.AllReadyY.nil
   (go_simp;refine(l6Hear k3 g _ _ d _ vc Hok.out).mono ?_;rintro x wd ⟨rfl,vn,kn⟩;have zn:=zc.kept kn (by omega);have cn:=cur_kept cuc kn (by have:=cuc.lt;have:=pc.size;omega);have pn:=kept_kept pc kn (by omega);have hokn:=hear_ok Hok.out)
   refine hK.out _ _ (fun h=>absurd rfl h) (fun hHeld2=>?_)
   clear hK K hHeld hHeld2
   (try simp only [Act.put,Draw.lays])
   refine Draw.wpAnyY_done (by kernel_rfl) ?_ _
   go_wp2_with fail
   go_roundw
   case rel=>exact⟨m-1,by omega,by omega,rfl,_,hokn _ _ _,vn,zn,cn,pn⟩
   case measure=>simp [intOf];omega
  focus
   go_wp2_with fail
   refine Draw.wp_region_Y (S:=(fun w'=>w'.cell? ⟨k3,0,none⟩=some (.int .i64 g.ba)∧w'.cell? ⟨k3,1,none⟩=some (.string g.bs)∧w'.cell? ⟨k3,2,none⟩=some (.int .i64 g.cp)∧w'.cell? ⟨k3,3,none⟩=some (.int .i64 g.lm)∧w'.cell? ⟨k3,4,none⟩=some (.bool g.en)∧w'.cell? ⟨k3,5,none⟩=some (.bool g.dn))) 7 (by kernel_rfl) ?_ (fun hHeld=>?_)
   focus ((try dsimp only) <;>(first|with_reducible exact hHeld|with_reducible exact⟨sa0,sa1,sa2,sa3,sa4,sa5⟩|with_reducible exact⟨sb0,sb1,sb2,sb3,sb4,sb5⟩|with_reducible exact⟨sc0,sc1,sc2,sc3,sc4,sc5⟩|exact⟨e0,e1,e2,e3,e4,e5⟩))
   refine Draw.wpAnyY_takeT (i:=0) (v:=?_) rfl (by kernel_rfl) (by kernel_rfl) (by kernel_rfl) (fun _ _ _ h=>h) (Or.inl ⟨by rfl,?_⟩) ?_
   rotate_left 1
   focus (intro s h;(try dsimp only at h);go_simp;(try apply And.intro) <;>with_reducible rfl)
   (try simp only [Act.put,Draw.lays])
   refine Draw.wpAnyY_take (i:=1) (v:=?_) rfl (by kernel_rfl) (by kernel_rfl) (by kernel_rfl) (by kernel_rfl) (fun _ _ _ h=>h) (Or.inl ⟨by rfl,?_⟩) (by assumption) ?_
   rotate_left 1
   focus (intro s h;(try dsimp only at h);go_simp;(try apply And.intro) <;>with_reducible rfl)
   (try simp only [Act.put,Draw.lays])
   refine Draw.wpAnyY_takeT (i:=2) (v:=?_) rfl (by kernel_rfl) (by kernel_rfl) (by kernel_rfl) (fun _ _ _ h=>h) (Or.inl ⟨by rfl,?_⟩) ?_
   rotate_left 1
   focus (intro s h;(try dsimp only at h);go_simp;(try apply And.intro) <;>with_reducible rfl)
   (try simp only [Act.put,Draw.lays])
   refine Draw.wpAnyY_takeP (ps:=[6]) (i:=3) (v:=?_) rfl (by kernel_rfl) (by kernel_rfl) (by kernel_rfl) (by kernel_rfl) (by kernel_rfl) (fun _ _ _ h=>h) (Or.inl ⟨by rfl,?_⟩) (by assumption) ?_
   rotate_left 1
   focus (intro s h;(try dsimp only at h);go_simp;(try apply And.intro) <;>with_reducible rfl)
   (try simp only [Act.put,Draw.lays])
   refine Draw.wpAnyY_takeT (i:=4) (v:=?_) rfl (by kernel_rfl) (by kernel_rfl) (by kernel_rfl) (fun _ _ _ h=>h) (Or.inl ⟨by rfl,?_⟩) ?_
   rotate_left 1
   focus (intro s h;(try dsimp only at h);go_simp;(try apply And.intro) <;>with_reducible rfl)
   (try simp only [Act.put,Draw.lays])
   refine Draw.wpAnyY_ready (rs:=[5]) (by kernel_rfl) (by simp) ?_
   refine Draw.AllReadyY.cons rfl (fun K hK=>?_) Draw.AllReadyY.nil
   (go_simp;refine(Draw.l1Below c _ _ cu1.drew).mono ?_;rintro x wa ⟨y,ya,yb,rfl,cua,ka⟩;have va:=v1.drew.kept ka (by omega);have za:=z1.drew.kept ka (by omega);have pa:=p1.drew.trans ka;have sa0:=va.cell (i:=0) rfl;have sa1:=va.cell (i:=1) rfl;have sa2:=va.cell (i:=2) rfl;have sa3:=va.cell (i:=3) rfl;have sa4:=va.cell (i:=4) rfl;have sa5:=va.cell (i:=5) rfl)
   refine hK.out _ _ ?_ (fun hHeld2=>?_)
   focus (intro _ _;(try dsimp only) <;>(first|with_reducible exact hHeld|with_reducible exact⟨sa0,sa1,sa2,sa3,sa4,sa5⟩|with_reducible exact⟨sb0,sb1,sb2,sb3,sb4,sb5⟩|with_reducible exact⟨sc0,sc1,sc2,sc3,sc4,sc5⟩|exact⟨e0,e1,e2,e3,e4,e5⟩))
   clear hK K
   replace hHeld:=hHeld2 (by decide) hHeld
   clear hHeld2
   (try simp only [Act.put,Draw.lays])
   refine Draw.wpAnyY_takeT (i:=6) (v:=?_) rfl (by kernel_rfl) (by kernel_rfl) (by kernel_rfl) (fun _ _ _ h=>h) (Or.inl ⟨by rfl,?_⟩) ?_
   rotate_left 1
   focus (intro s h;(try dsimp only at h);go_simp;(try apply And.intro) <;>with_reducible rfl)
   (try simp only [Act.put,Draw.lays])
   refine Draw.wpAnyY_ready (rs:=[7]) (by kernel_rfl) (by simp) ?_
   refine Draw.AllReadyY.cons rfl (fun K hK=>?_) Draw.AllReadyY.nil
   (go_simp;refine(l6Hear k3 g _ _ false _ va Hok.out).mono ?_;rintro x wd ⟨rfl,vn,kn⟩;have zn:=za.kept kn (by omega);have cn:=cur_kept cua kn (by have:=cua.lt;have:=pa.size;omega);have pn:=kept_kept pa kn (by omega);have hokn:=hear_ok Hok.out)
   refine hK.out _ _ (fun h=>absurd rfl h) (fun hHeld2=>?_)
   clear hK K hHeld hHeld2
   (try simp only [Act.put,Draw.lays])
   refine Draw.wpAnyY_done (by kernel_rfl) ?_ _
   go_wp2_with fail
   go_roundw
   case rel=>exact⟨m-1,by omega,by omega,rfl,_,hokn _ _ _,vn,zn,cn,pn⟩
   case measure=>simp [intOf];omega
  focus
   cases hen:g.en
   ·go_wp2_with fail
    refine(Draw.l1Once c 3 _ cu1).mono ?_
    rintro e w6 ⟨b,rfl,cu2,k6⟩
    have v2:=v1.kept k6 (by omega)
    have z2:=z1.kept k6 (by omega)
    have p2:=p1.trans k6
    clear e0 e1 e2 e3 e4 e5 y4
    have e4:=v2.cell (i:=4) rfl
    have y4:=v2.free 4
    go_wp2_with fail
    go_roundw
    case rel=>exact⟨m-1,by omega,by omega,rfl,⟨g.ba,g.bs,g.cp,g.lm,b,g.dn⟩,end_ok2 Hok.out (fun q=>by rw [hen]at q;cases q),v2.set 4 _,z2.other (by dsimp only;omega) _,cu2.upto (fun i hi=>Below.heap_setCell _ _ _ _ (by have:=cu2.lt;have:=p2.size;dsimp only;omega)),p2.setCell (.inr (by dsimp only;omega)) _⟩
    case measure=>simp [intOf];omega
   ·go_wp2_with fail
    go_roundw
    case rel=>exact⟨m-1,by omega,by omega,rfl,⟨g.ba,g.bs,g.cp,g.lm,true,g.dn⟩,end_ok Hok.out,v1.set 4 _,z1.other (by dsimp only;omega) _,cu1.upto (fun i hi=>Below.heap_setCell _ _ _ _ (by have:=cu1.lt;have:=p1.size;dsimp only;omega)),p1.setCell (.inr (by dsimp only;omega)) _⟩
    case measure=>simp [intOf];omega
end Go.Proofs.YtfejobjgbadfjaaGreat.Giv
namespace Go.Proofs.YtfejobjgbadfjaaGreat.Giv
open Go.RowKit RowG
theorem four (a b c d:Int)(x:Int)(h0:0≤x)(h1:x<4): ∃v:Int,(#[.int .i64 a,.int .i64 b,.int .i64 c,.int .i64 d]:Array Value)[x.toNat]? =some (.int .i64 v):=by
 have h:x=0∨x=1∨x=2∨x=3:=by omega
 rcases h with rfl|rfl|rfl|rfl <;>exact⟨_,rfl⟩
theorem l6DrawAny (c:Nat)(w:World)(h:Draw.Cur w c):
  Calls Tryz.prog 73 #[.pointer (some ⟨c,0,none⟩)] w fun x w'=> ∃g:Gv,g.bs.size≤400∧x=.returned g.v∧Draw.Cur w' c∧Draw.Kept c w w':=by
 have hlt:=h.lt
 obtain⟨W1,hW1⟩: ∃z,Hid (z=w.alloc (.cells #[.int .i64 0,.string ⟨#[]⟩,.int .i64 0,.int .i64 0,.bool false,.bool false] 41)):=⟨_,rfl⟩
 have z1:Var 41 W1 w.heap.size [.int .i64 0,.string ⟨#[]⟩,.int .i64 0,.int .i64 0,.bool false,.bool false]:=by rw [hW1.out];exact Var.new w _
 have cu1:Draw.Cur W1 c:=by rw [hW1.out];exact h.alloc _
 have p1:Draw.Kept c w W1:=by rw [hW1.out];exact(Draw.Kept.refl c w).alloc _
 go_enter Tryz.func73,Tryz.ntmps73
 go_wp2_with fail
 rw [←hW1.out]
 clear hW1
 refine(l6Draw c _ cu1).mono ?_
 rintro e w2 ⟨g,hok,rfl,cu2,k2⟩
 have hsz:g.bs.size≤400:=by have:=ok_iff.1 hok;omega
 have z2:=z1.kept k2 (by omega)
 have p2:=p1.trans k2
 have v3:Var 41 (w2.alloc (.cells #[.int .i64 g.ba,.string g.bs,.int .i64 g.cp,.int .i64 g.lm,.bool g.en,.bool g.dn] 41)) w2.heap.size [.int .i64 g.ba,.string g.bs,.int .i64 g.cp,.int .i64 g.lm,.bool g.en,.bool g.dn]:=Var.new w2 _
 have z3:=z2.alloc (.cells #[.int .i64 g.ba,.string g.bs,.int .i64 g.cp,.int .i64 g.lm,.bool g.en,.bool g.dn] 41)
 have cu3:=cu2.alloc (.cells #[.int .i64 g.ba,.string g.bs,.int .i64 g.cp,.int .i64 g.lm,.bool g.en,.bool g.dn] 41)
 have p3:=p2.alloc (.cells #[.int .i64 g.ba,.string g.bs,.int .i64 g.cp,.int .i64 g.lm,.bool g.en,.bool g.dn] 41)
 have hk3:w.heap.size<w2.heap.size:=z2.lt
 clear z1 z2 cu1 cu2 p1 p2 k2 hok
 dsimp only [Gv.v]
 go_upto_region 2 with(fail)
 generalize w2.alloc (.cells #[.int .i64 g.ba,.string g.bs,.int .i64 g.cp,.int .i64 g.lm,.bool g.en,.bool g.dn] 41)=W3 at *
 generalize w2.heap.size=k3 at *
 go_wp2_with fail
 refine(Draw.l1Once c 8 _ cu3).mono ?_
 rintro e w4 ⟨b,rfl,cu4,k4⟩
 have v4:=v3.kept k4 (by omega)
 have z4:=z3.kept k4 (by omega)
 have p4:=p3.trans k4
 clear v3 z3 cu3 p3 k4
 cases b
 case false=>
  have v9:=v4
  have z9:=z4
  have cu9:=cu4
  have p9:=p4
  clear v4 z4 cu4 p4
  obtain⟨d0,d1,d2,d3,d4,d5⟩:=v9.c6
  obtain⟨r0,r1,r2,r3,r4,r5⟩:=z9.c6
  obtain⟨y0,y1,y2,y3,y4,y5⟩:=z9.f6
  go_wp2_with fail
  refine bodyPost_ret (v:=.agg #[.int .i64 g.ba,.string g.bs,.int .i64 g.cp,.int .i64 g.lm,.bool g.en,.bool g.dn]) (by rw [Tak.res_cell rfl];go_simp) rfl ⟨g,hsz,rfl,?_,?_⟩
  ·iterate 6 (refine Draw.Cur.upto ?_ (fun i hi=>Below.heap_setCell _ _ _ _ (by dsimp only;omega)))
   exact cu9
  ·iterate 6 (refine Draw.Kept.setCell ?_ (.inr (by dsimp only;omega)) _)
   exact p9
 go_wp2_with fail
 refine(Draw.l1Below c 5 _ cu4).mono ?_
 rintro e w5 ⟨j,q0,q1,rfl,cu5,k5⟩
 have v5:=v4.kept k5 (by omega)
 have z5:=z4.kept k5 (by omega)
 have p5:=p4.trans k5
 have hj:j=0∨j=1∨j=2∨j=3∨j=4:=by omega
 have hck:c<k3:=by omega
 clear v4 z4 cu4 p4 k5 q0 q1
 rcases hj with rfl|rfl|rfl|rfl|rfl
 focus
  go_wp2_with fail
  refine(Draw.l1Below c 4 _ (cu5.alloc _)).mono ?_
  rintro e w6 ⟨x,x0,x1,rfl,cu6,k6⟩
  have x2:x<4:=by omega
  clear x1
  obtain⟨v,hv⟩:=four 0 1 400 401 x x0 x2
  have hcl:=cu5.lt
  have hc:=(k6.cell (p:=⟨w5.heap.size,x.toNat,none⟩) (by simp) (show w5.heap.size≠c by omega)).trans ((World.cell?_alloc_new _ _ _ _).trans hv)
  have v6:=(v5.alloc (.cells #[.int .i64 0,.int .i64 1,.int .i64 400,.int .i64 401] 2)).kept k6 (by omega)
  have z6:=(z5.alloc (.cells #[.int .i64 0,.int .i64 1,.int .i64 400,.int .i64 401] 2)).kept k6 (by omega)
  have p6:=(p5.alloc (.cells #[.int .i64 0,.int .i64 1,.int .i64 400,.int .i64 401] 2)).trans k6
  have f2:=v6.free 2
  have e2:=v6.cell (i:=2) rfl
  have HV:Hid _:=hv
  clear hv v5 z5 p5 cu5 k6
  go_upto_region 15 with(fail)
  have v9:Var 41 (w6.setCell ⟨k3,2,none⟩ (.int .i64 v)) k3 [.int .i64 g.ba,.string g.bs,.int .i64 v,.int .i64 g.lm,.bool g.en,.bool g.dn]:=v6.set 2 _
  have z9:Var 41 (w6.setCell ⟨k3,2,none⟩ (.int .i64 v)) w.heap.size [.int .i64 0,.string ⟨#[]⟩,.int .i64 0,.int .i64 0,.bool false,.bool false]:=z6.other (by dsimp only;omega) _
  have cu9:Draw.Cur (w6.setCell ⟨k3,2,none⟩ (.int .i64 v)) c:=cu6.upto (fun i hi=>Below.heap_setCell _ _ _ _ (by dsimp only;omega))
  have p9:Draw.Kept c w (w6.setCell ⟨k3,2,none⟩ (.int .i64 v)):=p6.setCell (.inr (by dsimp only;omega)) _
  generalize w6.setCell ⟨k3,2,none⟩ (.int .i64 v)=W9 at *
  clear f2 e2 hc
  obtain⟨d0,d1,d2,d3,d4,d5⟩:=v9.c6
  obtain⟨r0,r1,r2,r3,r4,r5⟩:=z9.c6
  obtain⟨y0,y1,y2,y3,y4,y5⟩:=z9.f6
  go_wp2_with fail
  refine bodyPost_ret (v:=.agg #[.int .i64 g.ba,.string g.bs,.int .i64 v,.int .i64 g.lm,.bool g.en,.bool g.dn]) (by rw [Tak.res_cell rfl];go_simp) rfl ⟨⟨g.ba,g.bs,v,g.lm,g.en,g.dn⟩,hsz,rfl,?_,?_⟩
  ·iterate 6 (refine Draw.Cur.upto ?_ (fun i hi=>Below.heap_setCell _ _ _ _ (by dsimp only;omega)))
   exact cu9
  ·iterate 6 (refine Draw.Kept.setCell ?_ (.inr (by dsimp only;omega)) _)
   exact p9
 focus
  go_wp2_with fail
  refine(Draw.l1DrawPlace c _ cu5).mono ?_
  rintro e w6 ⟨v,rfl,cu6,k6⟩
  have v6:=v5.kept k6 (by omega)
  have z6:=z5.kept k6 (by omega)
  have p6:=p5.trans k6
  have f2:=v6.free 0
  have e2:=v6.cell (i:=0) rfl
  clear v5 z5 p5 cu5 k6
  go_upto_region 15 with(fail)
  have v9:Var 41 (w6.setCell ⟨k3,0,none⟩ (.int .i64 v)) k3 [.int .i64 v,.string g.bs,.int .i64 g.cp,.int .i64 g.lm,.bool g.en,.bool g.dn]:=v6.set 0 _
  have z9:Var 41 (w6.setCell ⟨k3,0,none⟩ (.int .i64 v)) w.heap.size [.int .i64 0,.string ⟨#[]⟩,.int .i64 0,.int .i64 0,.bool false,.bool false]:=z6.other (by dsimp only;omega) _
  have cu9:Draw.Cur (w6.setCell ⟨k3,0,none⟩ (.int .i64 v)) c:=cu6.upto (fun i hi=>Below.heap_setCell _ _ _ _ (by dsimp only;omega))
  have p9:Draw.Kept c w (w6.setCell ⟨k3,0,none⟩ (.int .i64 v)):=p6.setCell (.inr (by dsimp only;omega)) _
  generalize w6.setCell ⟨k3,0,none⟩ (.int .i64 v)=W9 at *
  clear f2 e2
  obtain⟨d0,d1,d2,d3,d4,d5⟩:=v9.c6
  obtain⟨r0,r1,r2,r3,r4,r5⟩:=z9.c6
  obtain⟨y0,y1,y2,y3,y4,y5⟩:=z9.f6
  go_wp2_with fail
  refine bodyPost_ret (v:=.agg #[.int .i64 v,.string g.bs,.int .i64 g.cp,.int .i64 g.lm,.bool g.en,.bool g.dn]) (by rw [Tak.res_cell rfl];go_simp) rfl ⟨⟨v,g.bs,g.cp,g.lm,g.en,g.dn⟩,hsz,rfl,?_,?_⟩
  ·iterate 6 (refine Draw.Cur.upto ?_ (fun i hi=>Below.heap_setCell _ _ _ _ (by dsimp only;omega)))
   exact cu9
  ·iterate 6 (refine Draw.Kept.setCell ?_ (.inr (by dsimp only;omega)) _)
   exact p9
 focus
  go_wp2_with fail
  refine(Draw.l1DrawPlace c _ cu5).mono ?_
  rintro e w6 ⟨v,rfl,cu6,k6⟩
  have v6:=v5.kept k6 (by omega)
  have z6:=z5.kept k6 (by omega)
  have p6:=p5.trans k6
  have f2:=v6.free 3
  have e2:=v6.cell (i:=3) rfl
  clear v5 z5 p5 cu5 k6
  go_upto_region 15 with(fail)
  have v9:Var 41 (w6.setCell ⟨k3,3,none⟩ (.int .i64 v)) k3 [.int .i64 g.ba,.string g.bs,.int .i64 g.cp,.int .i64 v,.bool g.en,.bool g.dn]:=v6.set 3 _
  have z9:Var 41 (w6.setCell ⟨k3,3,none⟩ (.int .i64 v)) w.heap.size [.int .i64 0,.string ⟨#[]⟩,.int .i64 0,.int .i64 0,.bool false,.bool false]:=z6.other (by dsimp only;omega) _
  have cu9:Draw.Cur (w6.setCell ⟨k3,3,none⟩ (.int .i64 v)) c:=cu6.upto (fun i hi=>Below.heap_setCell _ _ _ _ (by dsimp only;omega))
  have p9:Draw.Kept c w (w6.setCell ⟨k3,3,none⟩ (.int .i64 v)):=p6.setCell (.inr (by dsimp only;omega)) _
  generalize w6.setCell ⟨k3,3,none⟩ (.int .i64 v)=W9 at *
  clear f2 e2
  obtain⟨d0,d1,d2,d3,d4,d5⟩:=v9.c6
  obtain⟨r0,r1,r2,r3,r4,r5⟩:=z9.c6
  obtain⟨y0,y1,y2,y3,y4,y5⟩:=z9.f6
  go_wp2_with fail
  refine bodyPost_ret (v:=.agg #[.int .i64 g.ba,.string g.bs,.int .i64 g.cp,.int .i64 v,.bool g.en,.bool g.dn]) (by rw [Tak.res_cell rfl];go_simp) rfl ⟨⟨g.ba,g.bs,g.cp,v,g.en,g.dn⟩,hsz,rfl,?_,?_⟩
  ·iterate 6 (refine Draw.Cur.upto ?_ (fun i hi=>Below.heap_setCell _ _ _ _ (by dsimp only;omega)))
   exact cu9
  ·iterate 6 (refine Draw.Kept.setCell ?_ (.inr (by dsimp only;omega)) _)
   exact p9
 focus
  have f5:=v5.free 5
  have e5:=v5.cell (i:=5) rfl
  go_upto_region 15 with(fail)
  have v9:Var 41 (w5.setCell ⟨k3,5,none⟩ (.bool (!g.dn))) k3 [.int .i64 g.ba,.string g.bs,.int .i64 g.cp,.int .i64 g.lm,.bool g.en,.bool (!g.dn)]:=v5.set 5 _
  have z9:Var 41 (w5.setCell ⟨k3,5,none⟩ (.bool (!g.dn))) w.heap.size [.int .i64 0,.string ⟨#[]⟩,.int .i64 0,.int .i64 0,.bool false,.bool false]:=z5.other (by dsimp only;omega) _
  have cu9:Draw.Cur (w5.setCell ⟨k3,5,none⟩ (.bool (!g.dn))) c:=cu5.upto (fun i hi=>Below.heap_setCell _ _ _ _ (by dsimp only;omega))
  have p9:Draw.Kept c w (w5.setCell ⟨k3,5,none⟩ (.bool (!g.dn))):=p5.setCell (.inr (by dsimp only;omega)) _
  generalize (w5.setCell ⟨k3,5,none⟩ (.bool (!g.dn)))=W9 at *
  clear f5 e5 v5 z5 cu5 p5
  obtain⟨d0,d1,d2,d3,d4,d5⟩:=v9.c6
  obtain⟨r0,r1,r2,r3,r4,r5⟩:=z9.c6
  obtain⟨y0,y1,y2,y3,y4,y5⟩:=z9.f6
  go_wp2_with fail
  refine bodyPost_ret (v:=.agg #[.int .i64 g.ba,.string g.bs,.int .i64 g.cp,.int .i64 g.lm,.bool g.en,.bool (!g.dn)]) (by rw [Tak.res_cell rfl];go_simp) rfl ⟨⟨g.ba,g.bs,g.cp,g.lm,g.en,!g.dn⟩,hsz,rfl,?_,?_⟩
  ·iterate 6 (refine Draw.Cur.upto ?_ (fun i hi=>Below.heap_setCell _ _ _ _ (by dsimp only;omega)))
   exact cu9
  ·iterate 6 (refine Draw.Kept.setCell ?_ (.inr (by dsimp only;omega)) _)
   exact p9
 focus
  have f0:=v5.free 0
  have e0:=v5.cell (i:=0) rfl
  have f3:=v5.free 3
  have e3:=v5.cell (i:=3) rfl
  go_upto_region 15 with(fail)
  obtain⟨W9,hW9⟩: ∃z,Hid (z=(w5.setCell ⟨k3,0,none⟩ (.int .i64 999999997)).setCell ⟨k3,3,none⟩ (.int .i64 1000000000)):=⟨_,rfl⟩
  have v9:Var 41 W9 k3 [.int .i64 999999997,.string g.bs,.int .i64 g.cp,.int .i64 1000000000,.bool g.en,.bool g.dn]:=by rw [hW9.out];exact(v5.set 0 _).set 3 _
  have z9:Var 41 W9 w.heap.size [.int .i64 0,.string ⟨#[]⟩,.int .i64 0,.int .i64 0,.bool false,.bool false]:=by rw [hW9.out];exact(z5.other (by dsimp only;omega) _).other (by dsimp only;omega) _
  have cu9:Draw.Cur W9 c:=by rw [hW9.out];exact(cu5.upto (fun i hi=>Below.heap_setCell _ _ _ _ (by dsimp only;omega))).upto (fun i hi=>Below.heap_setCell _ _ _ _ (by dsimp only;omega))
  have p9:Draw.Kept c w W9:=by rw [hW9.out];exact(p5.setCell (.inr (by dsimp only;omega)) _).setCell (.inr (by dsimp only;omega)) _
  rw [←hW9.out]
  clear hW9
  clear f0 e0 f3 e3 v5 z5 cu5 p5
  obtain⟨d0,d1,d2,d3,d4,d5⟩:=v9.c6
  obtain⟨r0,r1,r2,r3,r4,r5⟩:=z9.c6
  obtain⟨y0,y1,y2,y3,y4,y5⟩:=z9.f6
  go_wp2_with fail
  refine bodyPost_ret (v:=.agg #[.int .i64 999999997,.string g.bs,.int .i64 g.cp,.int .i64 1000000000,.bool g.en,.bool g.dn]) (by rw [Tak.res_cell rfl];go_simp) rfl ⟨⟨999999997,g.bs,g.cp,1000000000,g.en,g.dn⟩,hsz,rfl,?_,?_⟩
  ·iterate 6 (refine Draw.Cur.upto ?_ (fun i hi=>Below.heap_setCell _ _ _ _ (by dsimp only;omega)))
   exact cu9
  ·iterate 6 (refine Draw.Kept.setCell ?_ (.inr (by dsimp only;omega)) _)
   exact p9
end Go.Proofs.YtfejobjgbadfjaaGreat.Giv
