/- Contracts of this seat's functions, and their mathematics (DrawU). -/
import Derived.Test.YtfejobjgbadfjaaGreatK13
import Derived.Test.YtfejobjgbadfjaaGreatK30
import Derived.Test.YtfejobjgbadfjaaGreatK3
import Derived.Deep.Cut
set_option linter.unusedVariables false
set_option linter.unusedSimpArgs false
set_option maxRecDepth 10000
set_option maxHeartbeats 4000000
namespace Go.Proofs.YtfejobjgbadfjaaGreat.Tak
open Go.RowKit RowG
theorem caps5 (x:Int)(h0:0≤x)(h1:x<5): ∃v:Int,capB v=true∧(#[.int .i64 1,.int .i64 6,.int .i64 12,.int .i64 40,.int .i64 400]:Array Value)[x.toNat]? =some (.int .i64 v):=by
 have h:x=0∨x=1∨x=2∨x=3∨x=4:=by omega
 rcases h with rfl|rfl|rfl|rfl|rfl <;>exact⟨_,by decide,rfl⟩
theorem newT_ok {n:Int}(h:capB n=true)(w:World):
  Calls Tryz.prog 84 #[.int .i64 n] w fun x w'=>x=.returned (.tuple #[.agg #[.int .i64 0,.string ⟨#[]⟩,.slice none 0 0,.int .i64 n,.int .i64 (-1),.bool false],.bool true])∧Below w.heap.size w w':=by
 have e:=specNewTaker n w
 rw [h]at e
 exact e
theorem cur_kept {w w':World}{c k:Nat}(h:Draw.Cur w c)(hk:Draw.Kept k w w')(hc:c<k):Draw.Cur w' c:=h.upto fun i hi=>hk.block i (by have:=h.lt;omega) (by omega)
theorem kept_kept {w0 w w':World}{c k:Nat}(h:Draw.Kept c w0 w)(hk:Draw.Kept k w w')(hs:w0.heap.size≤k):Draw.Kept c w0 w':=
 ⟨hk.os.trans h.os,hk.tape.trans h.tape,hk.output.trans h.output,Nat.le_trans h.size hk.size,fun i hi hc=>(hk.block i (Nat.lt_of_lt_of_le hi h.size) (by omega)).trans (h.block i hi hc)⟩
def DrawI (w0:World)(c k2 k3:Nat)(w:World):Prop:= ∃(t:Tk) (a':Option Addr) (c':Nat),t.ok=true∧Var 44 w k3 [.int .i64 t.nx,.string t.bs,.slice a' t.l.length c',.int .i64 t.cp,.int .i64 t.fi,.bool t.en]∧partE.Own 123 w (k3+1) a' c' t.l∧Var 44 w k2 [.int .i64 0,.string ⟨#[]⟩,.slice none 0 0,.int .i64 0,.int .i64 0,.bool false]∧Draw.Cur w c∧Draw.Kept c w0 w∧k3+1≤w.heap.size
theorem l5Draw (c:Nat)(w:World)(h:Draw.Cur w c):
  Calls Tryz.prog 99 #[.pointer (some ⟨c,0,none⟩)] w fun x w'=> ∃t:Tk,t.ok=true∧ ∃(a':Option Addr) (c':Nat),x=.returned (t.v a' c')∧partE.Own 123 w' w.heap.size a' c' t.l∧Draw.Cur w' c∧Draw.Kept c w w':=by
 have hmix:=mix
 have hlt:=h.lt
 have z2:Var 44 (w.alloc (.cells #[.int .i64 0,.string ⟨#[]⟩,.slice none 0 0,.int .i64 0,.int .i64 0,.bool false] 44)) w.heap.size [.int .i64 0,.string ⟨#[]⟩,.slice none 0 0,.int .i64 0,.int .i64 0,.bool false]:=Var.new w _
 have cu1:Draw.Cur (w.alloc (.cells #[.int .i64 0,.string ⟨#[]⟩,.slice none 0 0,.int .i64 0,.int .i64 0,.bool false] 44)) c:=h.alloc _
 have kp1:Draw.Kept c w (w.alloc (.cells #[.int .i64 0,.string ⟨#[]⟩,.slice none 0 0,.int .i64 0,.int .i64 0,.bool false] 44)):=(Draw.Kept.refl c w).alloc _
 go_enter Tryz.func99,Tryz.ntmps99
 go_wp2_with fail
 refine(Draw.l1Below c 5 _ (cu1.alloc _)).mono ?_
 rintro e w1 ⟨x,x0,x1,rfl,c1,k1⟩
 have x2:x<5:=by omega
 clear x1
 obtain⟨v,hvc,hv⟩:=caps5 x x0 x2
 have hc:=(k1.cell (p:=⟨w.heap.size+1,x.toNat,none⟩) (by simp) (show w.heap.size+1≠c by omega)).trans ((by simp:((w.alloc (.cells #[.int .i64 0,.string ⟨#[]⟩,.slice none 0 0,.int .i64 0,.int .i64 0,.bool false] 44)).alloc (.cells #[.int .i64 1,.int .i64 6,.int .i64 12,.int .i64 40,.int .i64 400] 2)).cell? ⟨w.heap.size+1,x.toNat,none⟩=_).trans hv)
 have z2:=(z2.alloc (.cells #[.int .i64 1,.int .i64 6,.int .i64 12,.int .i64 40,.int .i64 400] 2)).kept k1 (by omega)
 have kp2:=(kp1.alloc _).trans k1
 have HV:Hid _:=hv
 clear k1 hv kp1 cu1
 go_wp2_with fail
 refine(newT_ok hvc _).mono ?_
 rintro e w2 ⟨rfl,b2⟩
 have z2:=z2.later b2
 have c2:=c1.below b2 (Nat.le_refl _)
 have kp3:=kp2.trans (Draw.Kept.ofBelow b2 (Nat.le_refl _))
 have v3:Var 44 (w2.alloc (.cells #[.int .i64 0,.string ⟨#[]⟩,.slice none 0 0,.int .i64 v,.int .i64 (-1),.bool false] 44)) w2.heap.size [.int .i64 0,.string ⟨#[]⟩,.slice none 0 0,.int .i64 v,.int .i64 (-1),.bool false]:=Var.new w2 _
 have z3:=z2.alloc (.cells #[.int .i64 0,.string ⟨#[]⟩,.slice none 0 0,.int .i64 v,.int .i64 (-1),.bool false] 44)
 have c3:=c2.alloc (.cells #[.int .i64 0,.string ⟨#[]⟩,.slice none 0 0,.int .i64 v,.int .i64 (-1),.bool false] 44)
 have kp4:=kp3.alloc (.cells #[.int .i64 0,.string ⟨#[]⟩,.slice none 0 0,.int .i64 v,.int .i64 (-1),.bool false] 44)
 have hk3:w.heap.size<w2.heap.size:=z2.lt
 have hs3:w2.heap.size+1≤(w2.alloc (.cells #[.int .i64 0,.string ⟨#[]⟩,.slice none 0 0,.int .i64 v,.int .i64 (-1),.bool false] 44)).heap.size:=by simp
 clear z2 c1 c2 kp2 kp3 b2 hc
 go_upto_region 2 with(fail)
 generalize w2.alloc (.cells #[.int .i64 0,.string ⟨#[]⟩,.slice none 0 0,.int .i64 v,.int .i64 (-1),.bool false] 44)=W at *
 generalize w2.heap.size=k3 at *
 go_wp2_with fail
 refine(Draw.l1Below c 9 _ c3).mono ?_
 rintro e w4 ⟨m,m0,m1,rfl,c4,k4⟩
 have HI0:Hid (DrawI w c w.heap.size k3 w4):=⟨⟨0,⟨#[]⟩,[],v,-1,false⟩,none,0,new_ok hvc,v3.kept k4 (by omega),El.Own.none _ _,z3.kept k4 (by omega),c4,kp4.trans k4,Nat.le_trans hs3 k4.size⟩
 have m2:m≤8:=by omega
 clear m1 v3 z3 c3 kp4 k4 c4 hs3
 go_wp2_with fail
 go_loopw [5] (fun n wr=> ∃m:Int,0≤m∧m≤8∧n=.int .i64 m∧DrawI w c w.heap.size k3 wr)
  (fun n _=>(intOf n).toNat)
 case atStart=>exact⟨m,m0,m2,rfl,HI0.out⟩
 case round=>
  clear m0 m2 HI0
  obtain⟨m,m0,m2,rfl,t,a1,c1,hok,hv,ho,hz,hcu,hkp,hsz⟩:=hrel
  have Hok:Hid (t.ok=true):=hok
  have hin:=(ok_iff.1 hok).1
  obtain⟨i1,i2,i3,i4⟩:=hin
  have hn0:0≤t.nx∧t.nx≤1000000000:=i2
  have HB:=ok_small hok
  have Hl:Hid (t.l.length≤400):=i4
  have Hcp:Hid (1≤t.cp∧t.cp≤400):=i1
  clear hok i1 i2 i3 i4
  by_cases hm:0<m
  case neg=>
   obtain⟨e0,e1,e2,e3,e4,e5⟩:=hv.c6
   obtain⟨r0,r1,r2,r3,r4,r5⟩:=hz.c6
   obtain⟨z0,z1,z2,z3,z4,z5⟩:=hz.f6
   have hx: ∀x,a1=some x→k3+1≤x.block:=fun x e=>(ho.lt x e).1
   go_wp2_with fail
   refine bodyPost_ret (v:=.agg #[.int .i64 t.nx,.string t.bs,.slice a1 t.l.length c1,.int .i64 t.cp,.int .i64 t.fi,.bool t.en]) (by rw [Tak.res_cell rfl];go_simp) rfl ⟨t,Hok.out,a1,c1,rfl,?_,?_,?_⟩
   ·iterate 6 (refine El.Own.setCell ?_ (fun x hx'=>by have:=hx x hx';dsimp only;omega) _)
    exact ho.mono (by omega)
   ·iterate 6 (refine Draw.Cur.upto ?_ (fun i hi=>Below.heap_setCell _ _ _ _ (by dsimp only;omega)))
    exact hcu
   ·iterate 6 (refine Draw.Kept.setCell ?_ (.inr (by dsimp only;omega)) _)
    exact hkp
  have e0:=hv.cell (i:=0) rfl
  have hk3lt:k3<wr.heap.size:=hv.lt
  go_wp2_with fail
  refine wp_region_held_drew (S:=(fun w'=>w'.cell? ⟨k3,0,none⟩=some (.int .i64 t.nx))) (by kernel_rfl) ?_ (fun hHeld=>?_)
  focus ((try dsimp only) <;>(first|exact e0|exact hHeld|exact s0))
  refine wpAnyH_take (i:=0) (v:=?_) rfl (by kernel_rfl) (by kernel_rfl) (by kernel_rfl) (fun _ _ _ h=>h) (Or.inl ⟨by rfl,?_⟩) (by assumption) ?_
  rotate_left 1
  focus (intro s h;(try dsimp only at h);go_simp;(try apply And.intro) <;>with_reducible rfl)
  (try simp only [Act.put,Draw.lays])
  refine wpAnyH_take (i:=1) (v:=?_) rfl (by kernel_rfl) (by kernel_rfl) (by kernel_rfl) (fun _ _ _ h=>h) (Or.inl ⟨by rfl,?_⟩) (by assumption) ?_
  rotate_left 1
  focus (intro s h;(try dsimp only at h);go_simp;(try apply And.intro) <;>with_reducible rfl)
  (try simp only [Act.put,Draw.lays])
  refine wpAnyH_take (i:=2) (v:=?_) rfl (by kernel_rfl) (by kernel_rfl) (by kernel_rfl) (fun _ _ _ h=>h) (Or.inl ⟨by rfl,?_⟩) (by assumption) ?_
  rotate_left 1
  focus (intro s h;(try dsimp only at h);go_simp;(try apply And.intro) <;>with_reducible rfl)
  (try simp only [Act.put,Draw.lays])
  refine wpAnyH_ready (rs:=[3]) (by kernel_rfl) (by simp) ?_
  refine AllReadyH.cons rfl (fun K hK=>?_) AllReadyH.nil
  (go_simp;refine(Draw.l1Below c 9 _ hcu.drew).mono ?_;rintro x w5 ⟨y,y0,y1,rfl,c5,k5⟩;have s0:=(k5.cell (p:=⟨k3,0,none⟩) hk3lt (by dsimp only;omega)).trans e0)
  refine hK.out _ _ ?_ (fun hHeld=>?_)
  focus ((try dsimp only) <;>(first|exact e0|exact hHeld|exact s0))
  clear hK K
  (try simp only [Act.put,Draw.lays])
  refine wpAnyH_take (i:=4) (v:=?_) rfl (by kernel_rfl) (by kernel_rfl) (by kernel_rfl) (fun _ _ _ h=>h) (Or.inl ⟨by rfl,?_⟩) (by assumption) ?_
  rotate_left 1
  focus (intro s h;(try dsimp only at h);go_simp;(try apply And.intro) <;>with_reducible rfl)
  (try simp only [Act.put,Draw.lays])
  refine wpAnyH_take (i:=5) (v:=?_) rfl (by kernel_rfl) (by kernel_rfl) (by kernel_rfl) (fun _ _ _ h=>h) (Or.inl ⟨by rfl,?_⟩) (by assumption) ?_
  rotate_left 1
  focus (intro s h;(try dsimp only at h);go_simp;(try apply And.intro) <;>with_reducible rfl)
  (try simp only [Act.put,Draw.lays])
  refine wpAnyH_ready (rs:=[6]) (by kernel_rfl) (by simp) ?_
  refine AllReadyH.cons rfl (fun K hK=>?_) AllReadyH.nil
  go_simp
  refine hK.out _ _ ?_ (fun hHeld=>?_)
  focus ((try dsimp only) <;>(first|exact e0|exact hHeld|exact s0))
  clear hK K
  (try simp only [Act.put,Draw.lays])
  refine wpAnyH_done (by kernel_rfl) ?_ _
  have y2:y≤8:=by omega
  have hv5:=hv.drew.kept k5 (by omega)
  have ho5:=(El.Own.drew ho).kept k5 (fun x e=>by have:=(ho.lt x e).1;omega)
  have hz5:=hz.drew.kept k5 (by omega)
  have kp5:=hkp.drew.trans k5
  have sz5:k3+1≤w5.heap.size:=Nat.le_trans hsz k5.size
  clear e0 s0 k5 hv ho hz hkp hcu hsz y1 hk3lt
  by_cases hat:0≤t.nx+y-2
  rotate_left 1
  focus
   obtain⟨wq,rfl⟩: ∃wq,wq=w5:=⟨_,rfl⟩
   have HQ:Hid (DrawI w c w.heap.size k3 wq):=⟨t,a1,c1,Hok.out,hv5,ho5,hz5,c5,kp5,sz5⟩
   clear hv5 ho5 hz5 c5 kp5 sz5 Hok Hl Hcp HB
   go_wp2_with fail
  rotate_left 1
  focus
   have HA:Hid (-1099511627776≤t.nx+y-2∧t.nx+y-2≤1099511627776):=⟨by omega,by omega⟩
   have hp1:t.nx+y-2≤4000000000:=by omega
   go_wp2_with fail
   refine(Draw.l1Below c 7 _ c5).mono ?_
   rintro x w6 ⟨q,q0,q1,rfl,c6,k6⟩
   have q2:q≤4096:=by omega
   have q3:q<7:=by omega
   clear q1
   go_wp2_with fail
   refine(Draw.l5Text _ q _ hat hp1 q0 q2).mono ?_
   rintro x w7 ⟨bz,hbz,rfl,b7⟩
   have HZ:Hid (bz.size≤1048576):=by show _≤_;omega
   have c7:=c6.below b7 (Nat.le_refl _)
   clear hbz
   go_wp2_with fail
   refine(Draw.l1Once c 20 _ c7).mono ?_
   rintro x w8 ⟨e,rfl,c8,k8⟩
   have K8:=(k6.trans (Draw.Kept.ofBelow b7 (Nat.le_refl _))).trans k8
   have hv8:=hv5.kept K8 (by omega)
   have ho8:=ho5.kept K8 (fun x e=>by have:=(ho5.lt x e).1;omega)
   have hz8:=hz5.kept K8 (by omega)
   have kp8:=kp5.trans K8
   have sz8:=Nat.le_trans sz5 K8.size
   clear hv5 ho5 hz5 kp5 sz5 K8 k8 b7 k6 c5 c6 c7
   go_wp2_with fail
   refine(l5Take k3 (k3+1) t.nx t.bs a1 c1 t.cp t.fi t.en t.l _ bz e _ hv8 ho8 sz8 (fun x e=>by have:=(ho8.lt x e).1;omega) (by have:=Hl.out;omega) HB.1 (by have:=HB.2;omega) ⟨hn0.1,by have:=hn0.2;omega⟩ (by have:=Hcp.out;omega) HA.out HZ.out).mono ?_
   rintro x wq ⟨a2,c2,rfl,hv9,ho9,k9,hka⟩
   have HQ:Hid (DrawI w c w.heap.size k3 wq):=⟨(takeT t (t.nx+y-2) bz e).1,a2,c2,take_ok Hok.out _ _ _,hv9,ho9,hz8.kept k9 (by omega),cur_kept c8 k9 (by omega),kept_kept kp8 k9 (by omega),Nat.le_trans sz8 k9.size⟩
   clear hv9 ho9 k9 hka hv8 ho8 hz8 kp8 sz8 c8 Hok Hl Hcp HB HA HZ
   go_wp2_with fail
  all_goals
   clear hn0 y0 y2 hat
   obtain⟨t,a1,c1,hok,hv,ho,hz,hcu,hkp,hsz⟩:=HQ.out
   have HB:=ok_small hok
   have Hok:Hid (t.ok=true):=hok
   have Hl:Hid (t.l.length≤400):=(ok_iff.1 hok).1.2.2.2
   clear HQ hok
   refine(Draw.l1Once c 3 _ hcu).mono ?_
   rintro x wo ⟨b,rfl,cuo,ko⟩
   have hvo:=hv.kept ko (by omega)
   have hoo:=ho.kept ko (fun x e=>by have:=(ho.lt x e).1;omega)
   have hzo:=hz.kept ko (by omega)
   have kpo:=hkp.trans ko
   have szo:=Nat.le_trans hsz ko.size
   clear hv ho hz hkp hsz hcu ko
   cases b
   focus
    go_wp2_with fail
    go_roundw
    case rel=>exact⟨m-1,by omega,by omega,rfl,t,a1,c1,Hok.out,hvo,hoo,hzo,cuo,kpo,szo⟩
    case measure=>simp [intOf];omega
   obtain⟨e0,e1,e2,e3,e4,e5⟩:=hvo.c6
   have hk3o:k3<wo.heap.size:=hvo.lt
   have hxo:Hid (∀x,a1=some x→k3+1≤x.block∧x.block<wo.heap.size):=hoo.lt
   go_wp2_with fail
   refine Draw.wp_region_Y (S:=(fun w'=>w'.cell? ⟨k3,0,none⟩=some (.int .i64 t.nx)∧w'.cell? ⟨k3,1,none⟩=some (.string t.bs)∧w'.cell? ⟨k3,2,none⟩=some (.slice a1 t.l.length c1)∧w'.cell? ⟨k3,3,none⟩=some (.int .i64 t.cp)∧w'.cell? ⟨k3,4,none⟩=some (.int .i64 t.fi)∧w'.cell? ⟨k3,5,none⟩=some (.bool t.en))) 11 (by kernel_rfl) ?_ (fun hHeld=>?_)
   focus ((try dsimp only) <;>(first|exact⟨e0,e1,e2,e3,e4,e5⟩|exact hHeld|exact⟨s0,s1,s2,s3,s4,s5⟩|exact⟨r0,r1,r2,r3,r4,r5⟩))
   refine Draw.wpAnyY_take (i:=0) (v:=?_) rfl (by kernel_rfl) (by kernel_rfl) (by kernel_rfl) (by kernel_rfl) (fun _ _ _ h=>h) (Or.inl ⟨by rfl,?_⟩) (by assumption) ?_
   rotate_left 1
   focus (intro s h;(try dsimp only at h);go_simp;(try apply And.intro) <;>with_reducible rfl)
   (try simp only [Act.put,Draw.lays])
   refine Draw.wpAnyY_take (i:=1) (v:=?_) rfl (by kernel_rfl) (by kernel_rfl) (by kernel_rfl) (by kernel_rfl) (fun _ _ _ h=>h) (Or.inl ⟨by rfl,?_⟩) (by assumption) ?_
   rotate_left 1
   focus (intro s h;(try dsimp only at h);go_simp;(try apply And.intro) <;>with_reducible rfl)
   (try simp only [Act.put,Draw.lays])
   refine Draw.wpAnyY_take (i:=2) (v:=?_) rfl (by kernel_rfl) (by kernel_rfl) (by kernel_rfl) (by kernel_rfl) (fun _ _ _ h=>h) (Or.inl ⟨by rfl,?_⟩) (by assumption) ?_
   rotate_left 1
   focus (intro s h;(try dsimp only at h);go_simp;(try apply And.intro) <;>with_reducible rfl)
   (try simp only [Act.put,Draw.lays])
   refine Draw.wpAnyY_take (i:=3) (v:=?_) rfl (by kernel_rfl) (by kernel_rfl) (by kernel_rfl) (by kernel_rfl) (fun _ _ _ h=>h) (Or.inl ⟨by rfl,?_⟩) (by assumption) ?_
   rotate_left 1
   focus (intro s h;(try dsimp only at h);go_simp;(try apply And.intro) <;>with_reducible rfl)
   (try simp only [Act.put,Draw.lays])
   refine Draw.wpAnyY_take (i:=4) (v:=?_) rfl (by kernel_rfl) (by kernel_rfl) (by kernel_rfl) (by kernel_rfl) (fun _ _ _ h=>h) (Or.inl ⟨by rfl,?_⟩) (by assumption) ?_
   rotate_left 1
   focus (intro s h;(try dsimp only at h);go_simp;(try apply And.intro) <;>with_reducible rfl)
   (try simp only [Act.put,Draw.lays])
   refine Draw.wpAnyY_take (i:=5) (v:=?_) rfl (by kernel_rfl) (by kernel_rfl) (by kernel_rfl) (by kernel_rfl) (fun _ _ _ h=>h) (Or.inl ⟨by rfl,?_⟩) (by assumption) ?_
   rotate_left 1
   focus (intro s h;(try dsimp only at h);go_simp;(try apply And.intro) <;>with_reducible rfl)
   (try simp only [Act.put,Draw.lays])
   refine Draw.wpAnyY_ready (rs:=[6]) (by kernel_rfl) (by simp) ?_
   refine Draw.AllReadyY.cons rfl (fun K hK=>?_) Draw.AllReadyY.nil
   (go_simp;refine(Draw.l1Below c _ _ cuo.drew).mono ?_;rintro x wa ⟨j,j0,j1,rfl,cua,ka⟩;have s0:=(ka.cell (p:=⟨k3,0,none⟩) hk3o (by dsimp only;omega)).trans e0;have s1:=(ka.cell (p:=⟨k3,1,none⟩) hk3o (by dsimp only;omega)).trans e1;have s2:=(ka.cell (p:=⟨k3,2,none⟩) hk3o (by dsimp only;omega)).trans e2;have s3:=(ka.cell (p:=⟨k3,3,none⟩) hk3o (by dsimp only;omega)).trans e3;have s4:=(ka.cell (p:=⟨k3,4,none⟩) hk3o (by dsimp only;omega)).trans e4;have s5:=(ka.cell (p:=⟨k3,5,none⟩) hk3o (by dsimp only;omega)).trans e5;have hva:=hvo.drew.kept ka (by omega);have hoa:=(El.Own.drew hoo).kept ka (fun x e=>by have:=hxo.out x e;omega);have hza:=hzo.drew.kept ka (by omega);have kpa:=kpo.drew.trans ka;have sza:k3+1≤wa.heap.size:=Nat.le_trans szo ka.size)
   refine hK.out _ _ ?_ (fun hHeld2=>?_)
   focus (intro _ _;(try dsimp only) <;>(first|exact⟨e0,e1,e2,e3,e4,e5⟩|exact hHeld|exact⟨s0,s1,s2,s3,s4,s5⟩|exact⟨r0,r1,r2,r3,r4,r5⟩))
   clear hK K
   replace hHeld:=hHeld2 (by decide) hHeld
   clear hHeld2
   (try simp only [Act.put,Draw.lays])
   refine Draw.wpAnyY_ready (rs:=[7]) (by kernel_rfl) (by simp) ?_
   refine Draw.AllReadyY.cons rfl (fun K hK=>?_) Draw.AllReadyY.nil
   (go_simp;refine(specTakenAway t.nx t.bs a1 _ c1 t.cp t.fi t.en t.l j _ rfl hoa.lies (by have:=Hl.out;omega) (by have:=HB.2;omega) HB.1 hoa.none_cap).mono ?_;rintro x wb ⟨a2,c2,rfl,ob,bb⟩;dsimp only [Tk.v];have hvb:=hva.later bb;have hzb:=hza.later bb;have cub:=cua.below bb (Nat.le_refl _);have kpb:=kpa.trans (Draw.Kept.ofBelow bb (Nat.le_refl _));have szb:k3+1≤wb.heap.size:=Nat.le_trans sza bb.size;have r0:=hvb.cell (i:=0) rfl;have r1:=hvb.cell (i:=1) rfl;have r2:=hvb.cell (i:=2) rfl;have r3:=hvb.cell (i:=3) rfl;have r4:=hvb.cell (i:=4) rfl;have r5:=hvb.cell (i:=5) rfl;have f0:=hvb.free 0;have f1:=hvb.free 1;have f2:=hvb.free 2;have f3:=hvb.free 3;have f4:=hvb.free 4;have f5:=hvb.free 5)
   refine hK.out _ _ ?_ (fun hHeld2=>?_)
   focus (intro _ _;(try dsimp only) <;>(first|exact⟨e0,e1,e2,e3,e4,e5⟩|exact hHeld|exact⟨s0,s1,s2,s3,s4,s5⟩|exact⟨r0,r1,r2,r3,r4,r5⟩))
   clear hK K
   replace hHeld:=hHeld2 (by decide) hHeld
   clear hHeld2
   (try simp only [Act.put,Draw.lays])
   refine Draw.wpAnyY_takeT (i:=8) (v:=?_) rfl (by kernel_rfl) (by kernel_rfl) (by kernel_rfl) (fun _ _ _ h=>h) (Or.inl ⟨by rfl,?_⟩) ?_
   rotate_left 1
   focus (intro s h;(try dsimp only at h);go_simp;(try apply And.intro) <;>with_reducible rfl)
   (try simp only [Act.put,Draw.lays])
   refine Draw.wpAnyY_takeT (i:=9) (v:=?_) rfl (by kernel_rfl) (by kernel_rfl) (by kernel_rfl) (fun _ _ _ h=>h) (Or.inl ⟨by rfl,?_⟩) ?_
   rotate_left 1
   focus (intro s h;(try dsimp only at h);go_simp;(try apply And.intro) <;>with_reducible rfl)
   (try simp only [Act.put,Draw.lays])
   refine Draw.wpAnyY_takeT (i:=10) (v:=?_) rfl (by kernel_rfl) (by kernel_rfl) (by kernel_rfl) (fun _ _ _ h=>h) (Or.inl ⟨by rfl,?_⟩) ?_
   rotate_left 1
   focus (intro s h;(try dsimp only at h);go_simp;(try apply And.intro) <;>with_reducible rfl)
   (try simp only [Act.put,Draw.lays])
   refine Draw.wpAnyY_ready (rs:=[11]) (by kernel_rfl) (by simp) ?_
   refine Draw.AllReadyY.cons rfl (fun K hK=>?_) Draw.AllReadyY.nil
   go_simp
   refine hK.out _ _ (fun h=>absurd rfl h) (fun hHeld2=>?_)
   clear hK K hHeld hHeld2
   (try simp only [Act.put,Draw.lays])
   refine Draw.wpAnyY_done (by kernel_rfl) ?_ _
   have o2:=ob.mono sza
   have hx2: ∀x,a2=some x→k3+1≤x.block:=fun x e=>(o2.lt x e).1
   have hok2:=away_ok (n:=j) Hok.out
   clear e0 e1 e2 e3 e4 e5 s0 s1 s2 s3 s4 s5 r0 r1 r2 r3 r4 r5 f0 f1 f2 f3 f4 f5
   go_wp2_with fail
   go_roundw
   case rel=>
    refine⟨m-1,by omega,by omega,rfl,(takenAway t j).1,a2,c2,hok2,(((((hvb.set 0 _).set 1 _).set 2 _).set 3 _).set 4 _).set 5 _,?_,?_,?_,?_,?_⟩
    ·iterate 6 (refine El.Own.setCell ?_ (fun x hx'=>by have:=hx2 x hx';dsimp only;omega) _)
     exact o2
    ·iterate 6 (refine Var.other ?_ (by dsimp only;omega) _)
     exact hzb
    ·iterate 6 (refine Draw.Cur.upto ?_ (fun i hi=>Below.heap_setCell _ _ _ _ (by dsimp only;omega)))
     exact cub
    ·iterate 6 (refine Draw.Kept.setCell ?_ (.inr (by dsimp only;omega)) _)
     exact kpb
    ·simpa using szb
   case measure=>simp [intOf];omega
end Go.Proofs.YtfejobjgbadfjaaGreat.Tak
