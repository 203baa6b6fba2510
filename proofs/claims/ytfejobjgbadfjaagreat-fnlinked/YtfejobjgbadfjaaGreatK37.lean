/- Contracts of this seat's functions, and their mathematics (DrawV). -/
import Derived.Test.YtfejobjgbadfjaaGreatK36
set_option linter.unusedVariables false
set_option linter.unusedSimpArgs false
set_option maxRecDepth 10000
set_option maxHeartbeats 8000000
namespace Go.Proofs.YtfejobjgbadfjaaGreat.Tak
open Go.RowKit RowG
theorem places4B (x:Int)(h0:0≤x)(h1:x<4): ∃v:Int,(-1≤v∧v≤4611686018427387904)∧(#[.int .i64 (-1),.int .i64 1000000000,.int .i64 1000000001,.int .i64 4611686018427387904]:Array Value)[x.toNat]? =some (.int .i64 v):=by
 have h:x=0∨x=1∨x=2∨x=3:=by omega
 rcases h with rfl|rfl|rfl|rfl <;>exact⟨_,by decide,rfl⟩
theorem caps4 (x:Int)(h0:0≤x)(h1:x<4): ∃v:Int,(#[.int .i64 0,.int .i64 1,.int .i64 400,.int .i64 401]:Array Value)[x.toNat]? =some (.int .i64 v):=by
 have h:x=0∨x=1∨x=2∨x=3:=by omega
 rcases h with rfl|rfl|rfl|rfl <;>exact⟨_,rfl⟩
theorem ends4 (x n:Int)(h0:0≤x)(h1:x<4): ∃v:Int,(#[.int .i64 (-1),.int .i64 n,.int .i64 (n+5),.int .i64 0]:Array Value)[x.toNat]? =some (.int .i64 v):=by
 have h:x=0∨x=1∨x=2∨x=3:=by omega
 rcases h with rfl|rfl|rfl|rfl <;>exact⟨_,rfl⟩
theorem l1DrawPlaceB (c:Nat)(w:World)(h:Draw.Cur w c):
  Calls Tryz.prog 76 #[.pointer (some ⟨c,0,none⟩)] w fun e w'=> ∃v:Int,(-1≤v∧v≤4611686018427387904)∧e=.returned (.int .i64 v)∧Draw.Cur w' c∧Draw.Kept c w w':=by
 have hlt:=h.lt
 go_enter Tryz.func76,Tryz.ntmps76
 go_wp2_with fail
 refine(Draw.l1Once c 8 _ h).mono ?_
 rintro e w0 ⟨b,rfl,c0,k0⟩
 have hl0:=c0.lt
 cases b
 ·go_wp2_with fail
  refine(Draw.l1Below c 40 _ c0).mono ?_
  rintro e w1 ⟨x,x0,x1,rfl,c1,k1⟩
  go_wp2_with fail
  go_ret
  exact⟨x,⟨by omega,by omega⟩,rfl,c1,k0.trans k1⟩
 ·go_wp2_with fail
  refine(Draw.l1Below c 4 _ (c0.below ((Below.refl _ _).alloc (Nat.le_refl _) _) (Nat.le_refl _))).mono ?_
  rintro e w1 ⟨x,x0,x1,rfl,c1,k1⟩
  have x2:x<4:=by omega
  clear x1
  obtain⟨v,hvb,hv⟩:=places4B x x0 x2
  have hc:=(k1.cell (p:=⟨w0.heap.size,x.toNat,none⟩) (by simp) (show w0.heap.size≠c by omega)).trans ((World.cell?_alloc_new _ _ _ _).trans hv)
  have K1:Hid _:=k1
  have HV:Hid _:=hv
  clear k1 hv
  go_wp2_with fail
  go_ret
  exact⟨v,hvb,rfl,c1,(k0.alloc _).trans K1.out⟩
theorem blk_ne {a:Option Addr}{k:Nat}(h: ∀x,a=some x→x.block≠k): ∀g,blk a=some g→k≠g:=by
 intro g hg e
 cases a with
 | none=>simp [blk]at hg
 | some x=>simp [blk]at hg;exact h x rfl (by omega)
theorem blk_ge {a:Option Addr}{B:Nat}(h: ∀x,a=some x→B≤x.block): ∀g,blk a=some g→B≤g:=by
 intro g hg
 cases a with
 | none=>simp [blk]at hg
 | some x=>simp [blk]at hg;have:=h x rfl;omega
theorem cur_grown {w w':World}{c:Nat}{r:Option Nat}(h:Draw.Cur w c)(hg:w.grownBy w' r)(hr: ∀g,r=some g→c+1≤g):Draw.Cur w' c:=
 h.upto fun i hi=>hg.block i (by have:=h.lt;omega) (fun e=>by have:=hr i e.symm;omega)
theorem own_ne_var {α:Type}{E:El α}{w:World}{B k:Nat}{a:Option Addr}{c:Nat}{l:List α}{T e:TypeId}{vs:List Value}(hte:T≠e)(o:E.Own e w B a c l)(v:Var T w k vs): ∀x,a=some x→x.block≠k:=by
 intro x hx hk
 subst hx hk
 unfold El.Own at o
 rcases o.2 with⟨h1,_⟩|⟨g,cap,cur,h1,_,hgb,_⟩
 ·cases h1
 ·cases h1
  unfold Var at v
  rw [hgb]at v
  cases v
  exact hte rfl
theorem bd_app {l:List Pt}{p:Pt}(h:Bd l)(hp: -1152921504606846976≤p.1∧p.1≤4611686018427387904∧p.2.size≤2097152):Bd (l++[p]):=by
 intro q hq
 rcases List.mem_append.1 hq with hq|hq
 ·exact h q hq
 ·rw [List.mem_singleton.1 hq];exact hp
def good (t:Tk):Prop:=Bd t.l∧t.l.length≤401∧t.bs.size≤402∧ -1≤t.nx∧t.nx≤4611686018427387904
def AnyI (w0:World)(c k3:Nat)(w:World):Prop:= ∃(t:Tk) (a':Option Addr) (c':Nat),good t∧Var 44 w k3 [.int .i64 t.nx,.string t.bs,.slice a' t.l.length c',.int .i64 t.cp,.int .i64 t.fi,.bool t.en]∧partE.Own 123 w (w0.heap.size+1) a' c' t.l∧Var 44 w w0.heap.size [.int .i64 0,.string ⟨#[]⟩,.slice none 0 0,.int .i64 0,.int .i64 0,.bool false]∧Draw.Cur w c∧Draw.Kept c w0 w
theorem bd_small {t:Tk}(h:t.ok=true):good t:=by
 have h1:=ok_small h
 obtain⟨i1,i2,i3,i4⟩:=(ok_iff.1 h).1
 exact⟨h1.1,by omega,by have:=i3.1;omega,by omega,by omega⟩
theorem l5DrawAny (c:Nat)(w:World)(h:Draw.Cur w c):
  Calls Tryz.prog 74 #[.pointer (some ⟨c,0,none⟩)] w fun x w'=> ∃t:Tk,good t∧ ∃(a':Option Addr) (c':Nat),x=.returned (t.v a' c')∧partE.Own 123 w' w.heap.size a' c' t.l∧Draw.Cur w' c∧Draw.Kept c w w':=by
 have hmix:=mix
 have hlt:=h.lt
 have z2:Var 44 (w.alloc (.cells #[.int .i64 0,.string ⟨#[]⟩,.slice none 0 0,.int .i64 0,.int .i64 0,.bool false] 44)) w.heap.size [.int .i64 0,.string ⟨#[]⟩,.slice none 0 0,.int .i64 0,.int .i64 0,.bool false]:=Var.new w _
 have cu1:Draw.Cur (w.alloc (.cells #[.int .i64 0,.string ⟨#[]⟩,.slice none 0 0,.int .i64 0,.int .i64 0,.bool false] 44)) c:=h.alloc _
 have kp1:Draw.Kept c w (w.alloc (.cells #[.int .i64 0,.string ⟨#[]⟩,.slice none 0 0,.int .i64 0,.int .i64 0,.bool false] 44)):=(Draw.Kept.refl c w).alloc _
 go_enter Tryz.func74,Tryz.ntmps74
 go_wp2_with fail
 refine(l5Draw c _ cu1).mono ?_
 rintro e w1 ⟨t,hok,a1,c1,rfl,o1,cu,k1⟩
 rw [World.size_alloc]at o1
 have z1:=z2.kept k1 (by omega)
 have kp:=kp1.trans k1
 have hg:=bd_small hok
 have hnx:=(ok_iff.1 hok).1.2.1
 have hll:=(ok_iff.1 hok).1.2.2.2
 have hbb:=(ok_iff.1 hok).1.2.2.1.1
 have hcc:=(ok_iff.1 hok).1.1.2
 have v3:Var 44 (w1.alloc (.cells #[.int .i64 t.nx,.string t.bs,.slice a1 t.l.length c1,.int .i64 t.cp,.int .i64 t.fi,.bool t.en] 44)) w1.heap.size [.int .i64 t.nx,.string t.bs,.slice a1 t.l.length c1,.int .i64 t.cp,.int .i64 t.fi,.bool t.en]:=Var.new w1 _
 have o3:=o1.alloc (.cells #[.int .i64 t.nx,.string t.bs,.slice a1 t.l.length c1,.int .i64 t.cp,.int .i64 t.fi,.bool t.en] 44)
 have z3:=z1.alloc (.cells #[.int .i64 t.nx,.string t.bs,.slice a1 t.l.length c1,.int .i64 t.cp,.int .i64 t.fi,.bool t.en] 44)
 have cu3:=cu.alloc (.cells #[.int .i64 t.nx,.string t.bs,.slice a1 t.l.length c1,.int .i64 t.cp,.int .i64 t.fi,.bool t.en] 44)
 have kp3:=kp.alloc (.cells #[.int .i64 t.nx,.string t.bs,.slice a1 t.l.length c1,.int .i64 t.cp,.int .i64 t.fi,.bool t.en] 44)
 have hx3: ∀x,a1=some x→x.block≠w1.heap.size:=fun x e=>by have:=(o1.lt x e).2;omega
 have hk3:w.heap.size<w1.heap.size:=z1.lt
 clear z2 cu1 kp1 z1 k1 o1 cu kp hok
 dsimp only [Tk.v]
 go_upto_region 2 with(fail)
 generalize w1.alloc (.cells #[.int .i64 t.nx,.string t.bs,.slice a1 t.l.length c1,.int .i64 t.cp,.int .i64 t.fi,.bool t.en] 44)=W at *
 generalize w1.heap.size=k3 at *
 go_wp2_with fail
 refine(Draw.l1Once c 8 _ cu3).mono ?_
 rintro e w2 ⟨b,rfl,cu,k2⟩
 have v3:=v3.kept k2 (by omega)
 have o3:=o3.kept k2 (fun x e=>by have:=(o3.lt x e).1;omega)
 have z3:=z3.kept k2 (by omega)
 have kp3:=kp3.trans k2
 clear k2 cu3
 have HG:Hid _:=hg
 have HX:Hid _:=hx3
 clear hg hx3
 cases b
 focus
  obtain⟨wq,rfl⟩: ∃wq,wq=w2:=⟨_,rfl⟩
  have HQ:Hid (AnyI w c k3 wq):=⟨t,a1,c1,HG.out,v3,o3,z3,cu,kp3⟩
  clear v3 o3 z3 cu kp3 HG HX hll hbb hcc hnx
  obtain⟨t,a1,c1,hg,v,o,z,cu,kp⟩:=HQ.out
  have HG:Hid _:=hg
  have HXX:Hid (∀x,a1=some x→w.heap.size+1≤x.block):=fun x e=>(o.lt x e).1
  have hkq:k3≠w.heap.size:=by omega
  clear HQ hg
  obtain⟨e0,e1,e2,e3,e4,e5⟩:=v.c6
  obtain⟨r0,r1,r2,r3,r4,r5⟩:=z.c6
  obtain⟨z0,z1,z2,z3,z4,z5⟩:=z.f6
  go_wp2_with fail
  refine bodyPost_ret (v:=.agg #[.int .i64 t.nx,.string t.bs,.slice a1 t.l.length c1,.int .i64 t.cp,.int .i64 t.fi,.bool t.en]) (by rw [Tak.res_cell rfl];go_simp) rfl ⟨t,HG.out,a1,c1,rfl,?_,?_,?_⟩
  ·iterate 6 (refine El.Own.setCell ?_ (fun x hx'=>by have:=HXX.out x hx';dsimp only;omega) _)
   exact o.mono (by omega)
  ·iterate 6 (refine Draw.Cur.upto ?_ (fun i hi=>Below.heap_setCell _ _ _ _ (by dsimp only;omega)))
   exact cu
  ·iterate 6 (refine Draw.Kept.setCell ?_ (.inr (by dsimp only;omega)) _)
   exact kp
 go_wp2_with fail
 refine(Draw.l1Below c 6 _ cu).mono ?_
 rintro e w4 ⟨x,x0,x1,rfl,cu4,k4⟩
 have v4:=v3.kept k4 (by omega)
 have o4:=o3.kept k4 (fun x e=>by have:=(o3.lt x e).1;omega)
 have z4:=z3.kept k4 (by omega)
 have kp4:=kp3.trans k4
 clear k4 cu v3 o3 z3 kp3
 have h6:x=0∨x=1∨x=2∨x=3∨x=4∨x=5:=by omega
 have hk3l:k3<w4.heap.size:=v4.lt
 obtain⟨f0,f1,f2,f3,f4,f5⟩:=v4.f6
 clear x0 x1
 rcases h6 with rfl|rfl|rfl|rfl|rfl|rfl
 focus
  go_wp2_with fail
  refine(Draw.l1Below c 4 _ (cu4.alloc _)).mono ?_
  rintro e w5 ⟨y,y0,y1,rfl,cu5,k5⟩
  have y2:y<4:=by omega
  clear y1
  obtain⟨q,hq⟩:=caps4 y y0 y2
  have hc:=(k5.cell (p:=⟨w4.heap.size,y.toNat,none⟩) (by simp) (show w4.heap.size≠c by omega)).trans ((World.cell?_alloc_new _ _ _ _).trans hq)
  have v5:=(v4.alloc (.cells #[.int .i64 0,.int .i64 1,.int .i64 400,.int .i64 401] 2)).kept k5 (by omega)
  have o5:=(o4.alloc (.cells #[.int .i64 0,.int .i64 1,.int .i64 400,.int .i64 401] 2)).kept k5 (fun x e=>by have:=(o4.lt x e).1;omega)
  have z5:=(z4.alloc (.cells #[.int .i64 0,.int .i64 1,.int .i64 400,.int .i64 401] 2)).kept k5 (by omega)
  have kp5:=(kp4.alloc (.cells #[.int .i64 0,.int .i64 1,.int .i64 400,.int .i64 401] 2)).trans k5
  have HV:Hid _:=hq
  clear hq k5 f0 f1 f2 f3 f4 f5
  have e3:=v5.cell (i:=3) rfl
  have f3:=v5.free 3
  go_upto_region 16 with(fail)
  have HQ:Hid (AnyI w c k3 (w5.setCell ⟨k3,3,none⟩ (.int .i64 q))):=⟨⟨t.nx,t.bs,t.l,q,t.fi,t.en⟩,a1,c1,HG.out,v5.set 3 _,o5.setCell (fun x e=>by have:=HX.out x e;dsimp only;omega) _,z5.other (by dsimp only;omega) _,cu5.upto (fun i hi=>Below.heap_setCell _ _ _ _ (by dsimp only;omega)),kp5.setCell (.inr (by dsimp only;omega)) _⟩
  clear v4 o4 z4 cu4 kp4 v5 o5 z5 kp5 cu5 hc HV HG HX hll hbb hcc hnx e3 f3 hk3l
  generalize w5.setCell ⟨k3,3,none⟩ (.int .i64 q)=wq at *
 rotate_left 1
 focus
  go_wp2_with fail
  refine(l1DrawPlaceB c _ cu4).mono ?_
  rintro e w5 ⟨q,hqb,rfl,cu5,k5⟩
  have v5:=v4.kept k5 (by omega)
  have o5:=o4.kept k5 (fun x e=>by have:=(o4.lt x e).1;omega)
  have z5:=z4.kept k5 (by omega)
  have kp5:=kp4.trans k5
  clear k5 f0 f1 f2 f3 f4 f5
  have e0:=v5.cell (i:=0) rfl
  have f0:=v5.free 0
  go_upto_region 16 with(fail)
  have HQ:Hid (AnyI w c k3 (w5.setCell ⟨k3,0,none⟩ (.int .i64 q))):=⟨⟨q,t.bs,t.l,t.cp,t.fi,t.en⟩,a1,c1,⟨HG.out.1,HG.out.2.1,HG.out.2.2.1,hqb⟩,v5.set 0 _,o5.setCell (fun x e=>by have:=HX.out x e;dsimp only;omega) _,z5.other (by dsimp only;omega) _,cu5.upto (fun i hi=>Below.heap_setCell _ _ _ _ (by dsimp only;omega)),kp5.setCell (.inr (by dsimp only;omega)) _⟩
  clear v4 o4 z4 cu4 kp4 v5 o5 z5 kp5 cu5 HG HX hll hbb hcc hnx e0 f0 hk3l
  generalize w5.setCell ⟨k3,0,none⟩ (.int .i64 q)=wq at *
 rotate_left 1
 focus
  have e1:=v4.cell (i:=1) rfl
  have hbz:t.bs.size+(⟨#[122,122]⟩:ByteArray).size≤402:=by show t.bs.size+2≤402;omega
  go_upto_region 16 with(fail)
  have HQ:Hid (AnyI w c k3 (w4.setCell ⟨k3,1,none⟩ (.string (t.bs++⟨#[122,122]⟩)))):=⟨⟨t.nx,t.bs++⟨#[122,122]⟩,t.l,t.cp,t.fi,t.en⟩,a1,c1,⟨HG.out.1,HG.out.2.1,by show(t.bs++⟨#[122,122]⟩).size≤402;rw [ByteArray.size_append];exact hbz,HG.out.2.2.2⟩,v4.set 1 _,o4.setCell (fun x e=>by have:=HX.out x e;dsimp only;omega) _,z4.other (by dsimp only;omega) _,cu4.upto (fun i hi=>Below.heap_setCell _ _ _ _ (by dsimp only;omega)),kp4.setCell (.inr (by dsimp only;omega)) _⟩
  clear v4 o4 z4 cu4 kp4 HG HX hll hbb hcc hnx e1 hk3l f0 f1 f2 f3 f4 f5 hbz
  generalize w4.setCell ⟨k3,1,none⟩ (.string (t.bs++⟨#[122,122]⟩))=wq at *
 rotate_left 1
 focus
  have e0:=v4.cell (i:=0) rfl
  have e2:=v4.cell (i:=2) rfl
  have hz0:t.l.length+ [((0:Int),(⟨#[]⟩:ByteArray))].length≤4194304:=by simp;omega
  obtain⟨hn1,hn2⟩:=hnx
  go_wp2_with fail
  refine Draw.wp_region_Y (S:=(fun w'=>w'.cell? ⟨k3,0,none⟩=some (.int .i64 t.nx)∧w'.cell? ⟨k3,2,none⟩=some (.slice a1 t.l.length c1))) 13 (by kernel_rfl) ?_ (fun hHeld=>?_)
  focus ((try dsimp only) <;>(first|exact⟨e0,e2⟩|exact hHeld|exact⟨s0,s2⟩|exact⟨r0,r2⟩|exact⟨alloc_cell hHeld.1 _,alloc_cell hHeld.2 _⟩|exact⟨q0,q2⟩))
  refine Draw.wpAnyY_take (i:=0) (v:=?_) rfl (by kernel_rfl) (by kernel_rfl) (by kernel_rfl) (by kernel_rfl) (fun _ _ _ h=>h) (Or.inl ⟨by rfl,?_⟩) (by assumption) ?_
  rotate_left 1
  focus (intro s h;(try dsimp only at h);go_simp;(try apply And.intro) <;>with_reducible rfl)
  (try simp only [Act.put,Draw.lays])
  refine Draw.wpAnyY_take (i:=1) (v:=?_) rfl (by kernel_rfl) (by kernel_rfl) (by kernel_rfl) (by kernel_rfl) (fun _ _ _ h=>h) (Or.inl ⟨by rfl,?_⟩) (by assumption) ?_
  rotate_left 1
  focus (intro s h;(try dsimp only at h);go_simp;(try apply And.intro) <;>with_reducible rfl)
  (try simp only [Act.put,Draw.lays])
  refine Draw.wpAnyY_take (i:=2) (v:=?_) rfl (by kernel_rfl) (by kernel_rfl) (by kernel_rfl) (by kernel_rfl) (fun _ _ _ h=>h) (Or.inl ⟨by rfl,?_⟩) (by assumption) ?_
  rotate_left 1
  focus (intro s h;(try dsimp only at h);go_simp;(try apply And.intro) <;>with_reducible rfl)
  (try simp only [Act.put,Draw.lays])
  refine Draw.wpAnyY_take (i:=3) (v:=?_) rfl (by kernel_rfl) (by kernel_rfl) (by kernel_rfl) (by kernel_rfl) (fun _ _ _ h=>h) (Or.inl ⟨by rfl,?_⟩) (by assumption) ?_
  rotate_left 1
  focus (intro s h;(try dsimp only at h);go_simp;(try apply And.intro) <;>with_reducible rfl)
  (try simp only [Act.put,Draw.lays])
  refine Draw.wpAnyY_take (i:=4) (v:=?_) rfl (by kernel_rfl) (by kernel_rfl) (by kernel_rfl) (by kernel_rfl) (fun _ _ _ h=>h) (Or.inl ⟨by rfl,?_⟩) (by assumption) ?_
  rotate_left 1
  focus (intro s h;(try dsimp only at h);go_simp;(try apply And.intro) <;>with_reducible rfl)
  (try simp only [Act.put,Draw.lays])
  refine Draw.wpAnyY_take (i:=7) (v:=?_) rfl (by kernel_rfl) (by kernel_rfl) (by kernel_rfl) (by kernel_rfl) (fun _ _ _ h=>h) (Or.inl ⟨by rfl,?_⟩) (by assumption) ?_
  rotate_left 1
  focus (intro s h;(try dsimp only at h);go_simp;(try apply And.intro) <;>with_reducible rfl)
  (try simp only [Act.put,Draw.lays])
  refine Draw.wpAnyY_ready (rs:=[5]) (by kernel_rfl) (by simp) ?_
  refine Draw.AllReadyY.cons rfl (fun K hK=>?_) Draw.AllReadyY.nil
  (go_simp;refine(Draw.l1Below c 9 _ cu4.drew).mono ?_;rintro x wa ⟨y,y0,y1,rfl,cua,ka⟩;have y2:y≤8:=(by omega);have ew:IntKind.i64.wrap (t.nx+y)=t.nx+y:=(by rw [IntKind.wrap_i64];omega);have s0:=(ka.cell (p:=⟨k3,0,none⟩) hk3l (by dsimp only;omega)).trans e0;have s2:=(ka.cell (p:=⟨k3,2,none⟩) hk3l (by dsimp only;omega)).trans e2;have va:=v4.drew.kept ka (by omega);have oa:=(El.Own.drew o4).kept ka (fun x e=>by have:=(o4.lt x e).1;omega);have za:=z4.drew.kept ka (by omega);have kpa:=kp4.drew.trans ka)
  refine hK.out _ _ ?_ (fun hHeld2=>?_)
  focus (intro _ _;(try dsimp only) <;>(first|exact⟨e0,e2⟩|exact hHeld|exact⟨s0,s2⟩|exact⟨r0,r2⟩|exact⟨alloc_cell hHeld.1 _,alloc_cell hHeld.2 _⟩|exact⟨q0,q2⟩))
  clear hK K
  replace hHeld:=hHeld2 (by decide) hHeld
  clear hHeld2
  (try simp only [Act.put,Draw.lays])
  refine Draw.wpAnyY_takeT (i:=6) (v:=?_) rfl (by kernel_rfl) (by kernel_rfl) (by kernel_rfl) (fun _ _ _ h=>h) (Or.inl ⟨by rfl,?_⟩) ?_
  rotate_left 1
  focus (intro s h;(try dsimp only at h);go_simp;(try apply And.intro) <;>with_reducible rfl)
  (try simp only [Act.put,Draw.lays])
  refine Draw.wpAnyY_ready (rs:=[8]) (by kernel_rfl) (by simp) ?_
  refine Draw.AllReadyY.cons rfl (fun K hK=>?_) Draw.AllReadyY.nil
  (go_simp;refine(Draw.l1DrawText c ⟨#[97,98]⟩ 4 _ cua (by decide) (by decide) (by decide) (by decide)).mono ?_;rintro x wb ⟨s,hs,rfl,cub,kb⟩;have vb:=va.kept kb (by omega);have ob:=oa.kept kb (fun x e=>by have:=(oa.lt x e).1;omega);have zb:=za.kept kb (by omega);have kpb:=kpa.trans kb;have r0:=vb.cell (i:=0) rfl;have r2:=vb.cell (i:=2) rfl;have hsb:w.heap.size+1≤wb.heap.size:=Nat.succ_le_of_lt zb.lt;have hfb:=vb.free 2)
  refine hK.out _ _ ?_ (fun hHeld2=>?_)
  focus (intro _ _;(try dsimp only) <;>(first|exact⟨e0,e2⟩|exact hHeld|exact⟨s0,s2⟩|exact⟨r0,r2⟩|exact⟨alloc_cell hHeld.1 _,alloc_cell hHeld.2 _⟩|exact⟨q0,q2⟩))
  clear hK K
  replace hHeld:=hHeld2 (by decide) hHeld
  clear hHeld2
  (try simp only [Act.put,Draw.lays])
  refine Draw.wpAnyY_takeT (i:=9) (v:=?_) rfl (by kernel_rfl) (by kernel_rfl) (by kernel_rfl) (fun _ _ _ h=>h) (Or.inl ⟨by rfl,?_⟩) ?_
  rotate_left 1
  focus (intro s h;(try dsimp only at h);go_simp;(try apply And.intro) <;>with_reducible rfl)
  (try simp only [Act.put,Draw.lays])
  refine Draw.wpAnyY_ready (rs:=[10]) (by kernel_rfl) (by simp) ?_
  refine Draw.AllReadyY.cons rfl (fun K hK=>?_) Draw.AllReadyY.nil
  go_simp
  refine hK.out _ _ ?_ (fun hHeld2=>?_)
  focus (intro _ _;(try dsimp only) <;>(first|exact⟨e0,e2⟩|exact hHeld|exact⟨s0,s2⟩|exact⟨r0,r2⟩|exact⟨alloc_cell hHeld.1 _,alloc_cell hHeld.2 _⟩|exact⟨q0,q2⟩))
  clear hK K
  replace hHeld:=hHeld2 (by decide) hHeld
  clear hHeld2
  (try simp only [Act.put,Draw.lays])
  refine Draw.wpAnyY_ready (rs:=[11]) (by kernel_rfl) (by simp) ?_
  refine Draw.AllReadyY.cons rfl (fun K hK=>?_) Draw.AllReadyY.nil
  (refine step_app typ (by decide) (by rfl) _ _ (by rfl) (w.heap.size+1) a1 c1 t.l.length t.l [(t.nx+y,s)] rfl (by rfl) (ob.alloc _) (Nat.le_trans hsb (by simp)) (some ⟨wb.heap.size,0,none⟩) 1 1 rfl (by rfl) (El.lies_new rfl) (by simp) hz0 ?_;intro a2 q2x wd od gd;have vd:=(vb.alloc (.cells #[.int .i64 (t.nx+y),.string s] 123)).grown gd (blk_ne HX.out);have zd:=(zb.alloc (.cells #[.int .i64 (t.nx+y),.string s] 123)).grown gd (blk_ne (fun x e=>by have:=(ob.lt x e).1;omega));have cud:=cur_grown (cub.alloc (.cells #[.int .i64 (t.nx+y),.string s] 123)) gd (blk_ge (fun x e=>by have:=(ob.lt x e).1;omega));have kpd:=kept_grown (kpb.alloc (.cells #[.int .i64 (t.nx+y),.string s] 123)) gd (fun g hg=>.inl (blk_ge (B:=w.heap.size) (fun x e=>by have:=(ob.lt x e).1;omega) g hg));have q0:=vd.cell (i:=0) rfl;have q2:=vd.cell (i:=2) rfl;have fd:=vd.free 2;have hxd:Hid (∀x,a2=some x→x.block≠k3):=own_ne_var (by decide) od vd)
  refine hK.out _ _ ?_ (fun hHeld2=>?_)
  focus (intro _ _;(try dsimp only) <;>(first|exact⟨e0,e2⟩|exact hHeld|exact⟨s0,s2⟩|exact⟨r0,r2⟩|exact⟨alloc_cell hHeld.1 _,alloc_cell hHeld.2 _⟩|exact⟨q0,q2⟩))
  clear hK K
  replace hHeld:=hHeld2 (by decide) hHeld
  clear hHeld2
  (try simp only [Act.put,Draw.lays])
  refine Draw.wpAnyY_ready (rs:=[12]) (by kernel_rfl) (by simp) ?_
  refine Draw.AllReadyY.cons rfl (fun K hK=>?_) Draw.AllReadyY.nil
  go_simp
  refine hK.out _ _ ?_ (fun hHeld2=>?_)
  focus (intro _ _;(try dsimp only) <;>(first|exact⟨e0,e2⟩|exact hHeld|exact⟨s0,s2⟩|exact⟨r0,r2⟩|exact⟨alloc_cell hHeld.1 _,alloc_cell hHeld.2 _⟩|exact⟨q0,q2⟩))
  clear hK K
  replace hHeld:=hHeld2 (by decide) hHeld
  clear hHeld2
  (try simp only [Act.put,Draw.lays])
  refine Draw.wpAnyY_ready (rs:=[13]) (by kernel_rfl) (by simp) ?_
  refine Draw.AllReadyY.cons rfl (fun K hK=>?_) Draw.AllReadyY.nil
  go_simp
  refine hK.out _ _ (fun h=>absurd rfl h) (fun hHeld2=>?_)
  clear hK K hHeld hHeld2
  (try simp only [Act.put,Draw.lays])
  refine Draw.wpAnyY_done (by kernel_rfl) ?_ _
  have HQ:Hid (AnyI w c k3 (wd.setCell ⟨k3,2,none⟩ (.slice a2 (t.l.length+1) q2x))):=⟨⟨t.nx,t.bs,t.l++[(t.nx+y,s)],t.cp,t.fi,t.en⟩,a2,q2x,⟨bd_app HG.out.1 ⟨by dsimp only;omega,by dsimp only;omega,by dsimp only;omega⟩,by simp;omega,HG.out.2.2.1,HG.out.2.2.2⟩,by simpa using vd.set 2 (.slice a2 (t.l.length+1) q2x),od.setCell (fun x e=>by have:=hxd.out x e;dsimp only;omega) _,zd.other (by dsimp only;omega) _,cud.upto (fun i hi=>Below.heap_setCell _ _ _ _ (by dsimp only;omega)),kpd.setCell (.inr (by dsimp only;omega)) _⟩
  clear e0 e2 s0 s2 r0 r2 q0 q2 va vb vd oa ob od za zb zd kpa kpb kpd cua cub cud ka kb gd fd hfb hsb
  go_upto_region 16 with(fail)
  clear v4 o4 z4 cu4 kp4 HG HX hll hbb hcc hn1 hn2 hk3l f0 f1 f2 f3 f4 f5 hz0 hxd
  generalize wd.setCell ⟨k3,2,none⟩ (.slice a2 (t.l.length+1) q2x)=wq at *
 rotate_left 1
 focus
  have e0:=v4.cell (i:=0) rfl
  have e4:=v4.cell (i:=4) rfl
  obtain⟨hn1,hn2⟩:=hnx
  have ew:IntKind.i64.wrap (t.nx+5)=t.nx+5:=by rw [IntKind.wrap_i64];omega
  go_wp2_with fail
  refine Draw.wp_region_Y (S:=(fun w'=>w'.cell? ⟨k3,0,none⟩=some (.int .i64 t.nx))) 11 (by kernel_rfl) ?_ (fun hHeld=>?_)
  focus ((try dsimp only) <;>(first|exact e0|exact hHeld|exact s0|exact alloc_cell hHeld _))
  refine Draw.wpAnyY_take (i:=0) (v:=?_) rfl (by kernel_rfl) (by kernel_rfl) (by kernel_rfl) (by kernel_rfl) (fun _ _ _ h=>h) (Or.inl ⟨by rfl,?_⟩) (by assumption) ?_
  rotate_left 1
  focus (intro s h;(try dsimp only at h);go_simp;(try apply And.intro) <;>with_reducible rfl)
  (try simp only [Act.put,Draw.lays])
  refine Draw.wpAnyY_take (i:=1) (v:=?_) rfl (by kernel_rfl) (by kernel_rfl) (by kernel_rfl) (by kernel_rfl) (fun _ _ _ h=>h) (Or.inl ⟨by rfl,?_⟩) (by assumption) ?_
  rotate_left 1
  focus (intro s h;(try dsimp only at h);go_simp;(try apply And.intro) <;>with_reducible rfl)
  (try simp only [Act.put,Draw.lays])
  refine Draw.wpAnyY_take (i:=2) (v:=?_) rfl (by kernel_rfl) (by kernel_rfl) (by kernel_rfl) (by kernel_rfl) (fun _ _ _ h=>h) (Or.inl ⟨by rfl,?_⟩) (by assumption) ?_
  rotate_left 1
  focus (intro s h;(try dsimp only at h);go_simp;(try apply And.intro) <;>with_reducible rfl)
  (try simp only [Act.put,Draw.lays])
  refine Draw.wpAnyY_take (i:=3) (v:=?_) rfl (by kernel_rfl) (by kernel_rfl) (by kernel_rfl) (by kernel_rfl) (fun _ _ _ h=>h) (Or.inl ⟨by rfl,?_⟩) (by assumption) ?_
  rotate_left 1
  focus (intro s h;(try dsimp only at h);go_simp;(try apply And.intro) <;>with_reducible rfl)
  (try simp only [Act.put,Draw.lays])
  refine Draw.wpAnyY_take (i:=4) (v:=?_) rfl (by kernel_rfl) (by kernel_rfl) (by kernel_rfl) (by kernel_rfl) (fun _ _ _ h=>h) (Or.inl ⟨by rfl,?_⟩) (by assumption) ?_
  rotate_left 1
  focus (intro s h;(try dsimp only at h);go_simp;(try apply And.intro) <;>with_reducible rfl)
  (try simp only [Act.put,Draw.lays])
  refine Draw.wpAnyY_take (i:=6) (v:=?_) rfl (by kernel_rfl) (by kernel_rfl) (by kernel_rfl) (by kernel_rfl) (fun _ _ _ h=>h) (Or.inl ⟨by rfl,?_⟩) (by assumption) ?_
  rotate_left 1
  focus (intro s h;(try dsimp only at h);go_simp;(try apply And.intro) <;>with_reducible rfl)
  (try simp only [Act.put,Draw.lays])
  refine Draw.wpAnyY_ready (rs:=[5,7]) (by kernel_rfl) (by simp) ?_
  refine Draw.AllReadyY.cons rfl (fun K hK=>?_) (Draw.AllReadyY.cons rfl (fun K hK=>?_) (Draw.AllReadyY.nil))
  focus
   go_simp
   refine hK.out _ _ ?_ (fun hHeld2=>?_)
   focus (intro _ _;(try dsimp only) <;>(first|exact e0|exact hHeld|exact s0|exact alloc_cell hHeld _))
   clear hK K
   replace hHeld:=hHeld2 (by decide) hHeld
   clear hHeld2
   (try simp only [Act.put,Draw.lays])
   refine Draw.wpAnyY_ready (rs:=[7]) (by kernel_rfl) (by simp) ?_
   refine Draw.AllReadyY.cons rfl (fun K hK=>?_) Draw.AllReadyY.nil
   (go_simp;refine(Draw.l1Below c 4 _ (cu4.drew.alloc _)).mono ?_;rintro x wa ⟨y,y0,y1,rfl,cua,ka⟩;have y2:y<4:=(by omega);clear y1;obtain⟨q,hq⟩:=ends4 y t.nx y0 y2;have hc:=(ka.cell (p:=⟨w4.heap.size,y.toNat,none⟩) (by simp) (show w4.heap.size≠c by omega)).trans ((World.cell?_alloc_new w4.drew #[.int .i64 (-1),.int .i64 t.nx,.int .i64 (t.nx+5),.int .i64 0] 2 y.toNat).trans hq);have va:=(v4.drew.alloc (.cells #[.int .i64 (-1),.int .i64 t.nx,.int .i64 (t.nx+5),.int .i64 0] 2)).kept ka (by omega);have oa:=((El.Own.drew o4).alloc (.cells #[.int .i64 (-1),.int .i64 t.nx,.int .i64 (t.nx+5),.int .i64 0] 2)).kept ka (fun x e=>by have:=(o4.lt x e).1;omega);have za:=(z4.drew.alloc (.cells #[.int .i64 (-1),.int .i64 t.nx,.int .i64 (t.nx+5),.int .i64 0] 2)).kept ka (by omega);have kpa:=(kp4.drew.alloc (.cells #[.int .i64 (-1),.int .i64 t.nx,.int .i64 (t.nx+5),.int .i64 0] 2)).trans ka;have s0:=va.cell (i:=0) rfl;have s4:=va.cell (i:=4) rfl;have fa:=va.free 4;have HV:Hid _:=hq;clear hq)
   refine hK.out _ _ ?_ (fun hHeld2=>?_)
   focus (intro _ _;(try dsimp only) <;>(first|exact e0|exact hHeld|exact s0|exact alloc_cell hHeld _))
   clear hK K
   replace hHeld:=hHeld2 (by decide) hHeld
   clear hHeld2
   (try simp only [Act.put,Draw.lays])
   refine Draw.wpAnyY_ready (rs:=[8]) (by kernel_rfl) (by simp) ?_
   refine Draw.AllReadyY.cons rfl (fun K hK=>?_) Draw.AllReadyY.nil
   go_simp
   refine hK.out _ _ ?_ (fun hHeld2=>?_)
   focus (intro _ _;(try dsimp only) <;>(first|exact e0|exact hHeld|exact s0|exact alloc_cell hHeld _))
   clear hK K
   replace hHeld:=hHeld2 (by decide) hHeld
   clear hHeld2
   (try simp only [Act.put,Draw.lays])
   refine Draw.wpAnyY_ready (rs:=[9]) (by kernel_rfl) (by simp) ?_
   refine Draw.AllReadyY.cons rfl (fun K hK=>?_) Draw.AllReadyY.nil
   go_simp
   refine hK.out _ _ ?_ (fun hHeld2=>?_)
   focus (intro _ _;(try dsimp only) <;>(first|exact e0|exact hHeld|exact s0|exact alloc_cell hHeld _))
   clear hK K
   replace hHeld:=hHeld2 (by decide) hHeld
   clear hHeld2
   (try simp only [Act.put,Draw.lays])
   refine Draw.wpAnyY_ready (rs:=[10]) (by kernel_rfl) (by simp) ?_
   refine Draw.AllReadyY.cons rfl (fun K hK=>?_) Draw.AllReadyY.nil
   go_simp
   refine hK.out _ _ ?_ (fun hHeld2=>?_)
   focus (intro _ _;(try dsimp only) <;>(first|exact e0|exact hHeld|exact s0|exact alloc_cell hHeld _))
   clear hK K
   replace hHeld:=hHeld2 (by decide) hHeld
   clear hHeld2
   (try simp only [Act.put,Draw.lays])
   refine Draw.wpAnyY_ready (rs:=[11]) (by kernel_rfl) (by simp) ?_
   refine Draw.AllReadyY.cons rfl (fun K hK=>?_) Draw.AllReadyY.nil
   go_simp
   refine hK.out _ _ (fun h=>absurd rfl h) (fun hHeld2=>?_)
   clear hK K hHeld hHeld2
   (try simp only [Act.put,Draw.lays])
   refine Draw.wpAnyY_done (by kernel_rfl) ?_ _
  rotate_left 1
  focus
   (go_simp;refine(Draw.l1Below c 4 _ cu4.drew).mono ?_;rintro x wa ⟨y,y0,y1,rfl,cua,ka⟩;have y2:y<4:=(by omega);clear y1;obtain⟨q,hq⟩:=ends4 y t.nx y0 y2;have hc:=(World.cell?_alloc_new wa #[.int .i64 (-1),.int .i64 t.nx,.int .i64 (t.nx+5),.int .i64 0] 2 y.toNat).trans hq;have vx:=v4.drew.kept ka (by omega);have s0:=vx.cell (i:=0) rfl;have va:=vx.alloc (.cells #[.int .i64 (-1),.int .i64 t.nx,.int .i64 (t.nx+5),.int .i64 0] 2);have oa:=((El.Own.drew o4).kept ka (fun x e=>by have:=(o4.lt x e).1;omega)).alloc (.cells #[.int .i64 (-1),.int .i64 t.nx,.int .i64 (t.nx+5),.int .i64 0] 2);have za:=(z4.drew.kept ka (by omega)).alloc (.cells #[.int .i64 (-1),.int .i64 t.nx,.int .i64 (t.nx+5),.int .i64 0] 2);have kpa:=(kp4.drew.trans ka).alloc (.cells #[.int .i64 (-1),.int .i64 t.nx,.int .i64 (t.nx+5),.int .i64 0] 2);have cua:=cua.alloc (.cells #[.int .i64 (-1),.int .i64 t.nx,.int .i64 (t.nx+5),.int .i64 0] 2);have s4:=va.cell (i:=4) rfl;have fa:=va.free 4;have HV:Hid _:=hq;clear hq)
   refine hK.out _ _ ?_ (fun hHeld2=>?_)
   focus (intro _ _;(try dsimp only) <;>(first|exact e0|exact hHeld|exact s0|exact alloc_cell hHeld _))
   clear hK K
   replace hHeld:=hHeld2 (by decide) hHeld
   clear hHeld2
   (try simp only [Act.put,Draw.lays])
   refine Draw.wpAnyY_ready (rs:=[5]) (by kernel_rfl) (by simp) ?_
   refine Draw.AllReadyY.cons rfl (fun K hK=>?_) Draw.AllReadyY.nil
   go_simp
   refine hK.out _ _ ?_ (fun hHeld2=>?_)
   focus (intro _ _;(try dsimp only) <;>(first|exact e0|exact hHeld|exact s0|exact alloc_cell hHeld _))
   clear hK K
   replace hHeld:=hHeld2 (by decide) hHeld
   clear hHeld2
   (try simp only [Act.put,Draw.lays])
   refine Draw.wpAnyY_ready (rs:=[8]) (by kernel_rfl) (by simp) ?_
   refine Draw.AllReadyY.cons rfl (fun K hK=>?_) Draw.AllReadyY.nil
   go_simp
   refine hK.out _ _ ?_ (fun hHeld2=>?_)
   focus (intro _ _;(try dsimp only) <;>(first|exact e0|exact hHeld|exact s0|exact alloc_cell hHeld _))
   clear hK K
   replace hHeld:=hHeld2 (by decide) hHeld
   clear hHeld2
   (try simp only [Act.put,Draw.lays])
   refine Draw.wpAnyY_ready (rs:=[9]) (by kernel_rfl) (by simp) ?_
   refine Draw.AllReadyY.cons rfl (fun K hK=>?_) Draw.AllReadyY.nil
   go_simp
   refine hK.out _ _ ?_ (fun hHeld2=>?_)
   focus (intro _ _;(try dsimp only) <;>(first|exact e0|exact hHeld|exact s0|exact alloc_cell hHeld _))
   clear hK K
   replace hHeld:=hHeld2 (by decide) hHeld
   clear hHeld2
   (try simp only [Act.put,Draw.lays])
   refine Draw.wpAnyY_ready (rs:=[10]) (by kernel_rfl) (by simp) ?_
   refine Draw.AllReadyY.cons rfl (fun K hK=>?_) Draw.AllReadyY.nil
   go_simp
   refine hK.out _ _ ?_ (fun hHeld2=>?_)
   focus (intro _ _;(try dsimp only) <;>(first|exact e0|exact hHeld|exact s0|exact alloc_cell hHeld _))
   clear hK K
   replace hHeld:=hHeld2 (by decide) hHeld
   clear hHeld2
   (try simp only [Act.put,Draw.lays])
   refine Draw.wpAnyY_ready (rs:=[11]) (by kernel_rfl) (by simp) ?_
   refine Draw.AllReadyY.cons rfl (fun K hK=>?_) Draw.AllReadyY.nil
   go_simp
   refine hK.out _ _ (fun h=>absurd rfl h) (fun hHeld2=>?_)
   clear hK K hHeld hHeld2
   (try simp only [Act.put,Draw.lays])
   refine Draw.wpAnyY_done (by kernel_rfl) ?_ _
  rotate_left 1
  focus
   have HQ:Hid (AnyI w c k3 (World.setCell _ ⟨k3,4,none⟩ (.int .i64 q))):=⟨⟨t.nx,t.bs,t.l,t.cp,q,t.en⟩,a1,c1,HG.out,va.set 4 _,oa.setCell (fun x e=>by have:=HX.out x e;dsimp only;omega) _,za.other (by dsimp only;omega) _,cua.upto (fun i hi=>Below.heap_setCell _ _ _ _ (by dsimp only;omega)),kpa.setCell (.inr (by dsimp only;omega)) _⟩
   clear v4 o4 z4 cu4 kp4 HG HX hll hbb hcc hn1 hn2 hk3l f0 f1 f2 f3 f4 f5 va oa za kpa cua s0 s4 fa hc HV ka e0 e4
   go_upto_region 16 with(fail)
   generalize wa.setCell ⟨k3,4,none⟩ (.int .i64 q)=wq at *
  rotate_left 1
  focus
   have HQ:Hid (AnyI w c k3 (World.setCell _ ⟨k3,4,none⟩ (.int .i64 q))):=⟨⟨t.nx,t.bs,t.l,t.cp,q,t.en⟩,a1,c1,HG.out,va.set 4 _,oa.setCell (fun x e=>by have:=HX.out x e;dsimp only;omega) _,za.other (by dsimp only;omega) _,cua.upto (fun i hi=>Below.heap_setCell _ _ _ _ (by dsimp only;omega)),kpa.setCell (.inr (by dsimp only;omega)) _⟩
   clear v4 o4 z4 cu4 kp4 HG HX hll hbb hcc hn1 hn2 hk3l f0 f1 f2 f3 f4 f5 va oa za kpa cua s0 s4 fa hc HV ka e0 e4 vx
   go_upto_region 16 with(fail)
   generalize (wa.alloc (.cells #[.int .i64 (-1),.int .i64 t.nx,.int .i64 (t.nx+5),.int .i64 0] 2)).setCell ⟨k3,4,none⟩ (.int .i64 q)=wq at *
  rotate_left 1
 rotate_left 2
 focus
  have e5:=v4.cell (i:=5) rfl
  go_upto_region 16 with(fail)
  have HQ:Hid (AnyI w c k3 (w4.setCell ⟨k3,5,none⟩ (.bool !t.en))):=⟨⟨t.nx,t.bs,t.l,t.cp,t.fi,!t.en⟩,a1,c1,HG.out,v4.set 5 _,o4.setCell (fun x e=>by have:=HX.out x e;dsimp only;omega) _,z4.other (by dsimp only;omega) _,cu4.upto (fun i hi=>Below.heap_setCell _ _ _ _ (by dsimp only;omega)),kp4.setCell (.inr (by dsimp only;omega)) _⟩
  clear v4 o4 z4 cu4 kp4 HG HX hll hbb hcc hnx e5 hk3l f0 f1 f2 f3 f4 f5
  generalize w4.setCell ⟨k3,5,none⟩ (.bool !t.en)=wq at *
 all_goals
  obtain⟨t,a1,c1,hg,v,o,z,cu,kp⟩:=HQ.out
  have HG:Hid _:=hg
  have HXX:Hid (∀x,a1=some x→w.heap.size+1≤x.block):=fun x e=>(o.lt x e).1
  have hkq:k3≠w.heap.size:=by omega
  clear HQ hg
  obtain⟨e0,e1,e2,e3,e4,e5⟩:=v.c6
  obtain⟨r0,r1,r2,r3,r4,r5⟩:=z.c6
  obtain⟨z0,z1,z2,z3,z4,z5⟩:=z.f6
  go_wp2_with fail
  refine bodyPost_ret (v:=.agg #[.int .i64 t.nx,.string t.bs,.slice a1 t.l.length c1,.int .i64 t.cp,.int .i64 t.fi,.bool t.en]) (by rw [Tak.res_cell rfl];go_simp) rfl ⟨t,HG.out,a1,c1,rfl,?_,?_,?_⟩
  ·iterate 6 (refine El.Own.setCell ?_ (fun x hx'=>by have:=HXX.out x hx';dsimp only;omega) _)
   exact o.mono (by omega)
  ·iterate 6 (refine Draw.Cur.upto ?_ (fun i hi=>Below.heap_setCell _ _ _ _ (by dsimp only;omega)))
   exact cu
  ·iterate 6 (refine Draw.Kept.setCell ?_ (.inr (by dsimp only;omega)) _)
   exact kp
end Go.Proofs.YtfejobjgbadfjaaGreat.Tak
