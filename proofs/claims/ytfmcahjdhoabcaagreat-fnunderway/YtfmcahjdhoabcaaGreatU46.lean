/- Contracts of this seat's functions, and their mathematics (DrawF). -/
import Derived.Test.YtfmcahjdhoabcaaGreatU45
set_option linter.unusedVariables false
set_option linter.unusedSimpArgs false
set_option maxRecDepth 10000
set_option maxHeartbeats 4000000
namespace Go.Proofs.YtfmcahjdhoabcaaGreat.Giv
open Go.RowKit RowG
theorem four (a b c d:Int)(x:Int)(h0:0≤x)(h1:x<4): ∃v:Int,(#[.int .i64 a,.int .i64 b,.int .i64 c,.int .i64 d]:Array Value)[x.toNat]? =some (.int .i64 v):=by
 have h:x=0∨x=1∨x=2∨x=3:=by omega
 rcases h with rfl|rfl|rfl|rfl <;>exact⟨_,rfl⟩
theorem l6DrawAny (c:Nat)(w:World)(h:Draw.Cur w c):
  Calls Tryz.prog 90 #[.pointer (some ⟨c,0,none⟩)] w fun x w'=> ∃g:Gv,g.bs.size≤400∧x=.returned g.v∧Draw.Cur w' c∧Draw.Kept c w w':=by
 have hlt:=h.lt
 obtain⟨W1,hW1⟩: ∃z,Hid (z=w.alloc (.cells #[.int .i64 0,.string ⟨#[]⟩,.int .i64 0,.int .i64 0,.bool false,.bool false] 47)):=⟨_,rfl⟩
 have z1:Var 47 W1 w.heap.size [.int .i64 0,.string ⟨#[]⟩,.int .i64 0,.int .i64 0,.bool false,.bool false]:=by rw [hW1.out];exact Var.new w _
 have cu1:Draw.Cur W1 c:=by rw [hW1.out];exact h.alloc _
 have p1:Draw.Kept c w W1:=by rw [hW1.out];exact(Draw.Kept.refl c w).alloc _
 go_enter Tryz.func90,Tryz.ntmps90
 go_wp2_with fail
 rw [←hW1.out]
 clear hW1
 refine(l6Draw c _ cu1).mono ?_
 rintro e w2 ⟨g,hok,rfl,cu2,k2⟩
 have hsz:g.bs.size≤400:=by have:=ok_iff.1 hok;omega
 have z2:=z1.kept k2 (by omega)
 have p2:=p1.trans k2
 have v3:Var 47 (w2.alloc (.cells #[.int .i64 g.ba,.string g.bs,.int .i64 g.cp,.int .i64 g.lm,.bool g.en,.bool g.dn] 47)) w2.heap.size [.int .i64 g.ba,.string g.bs,.int .i64 g.cp,.int .i64 g.lm,.bool g.en,.bool g.dn]:=Var.new w2 _
 have z3:=z2.alloc (.cells #[.int .i64 g.ba,.string g.bs,.int .i64 g.cp,.int .i64 g.lm,.bool g.en,.bool g.dn] 47)
 have cu3:=cu2.alloc (.cells #[.int .i64 g.ba,.string g.bs,.int .i64 g.cp,.int .i64 g.lm,.bool g.en,.bool g.dn] 47)
 have p3:=p2.alloc (.cells #[.int .i64 g.ba,.string g.bs,.int .i64 g.cp,.int .i64 g.lm,.bool g.en,.bool g.dn] 47)
 have hk3:w.heap.size<w2.heap.size:=z2.lt
 clear z1 z2 cu1 cu2 p1 p2 k2 hok
 dsimp only [Gv.v]
 go_upto_region 2 with(fail)
 generalize w2.alloc (.cells #[.int .i64 g.ba,.string g.bs,.int .i64 g.cp,.int .i64 g.lm,.bool g.en,.bool g.dn] 47)=W3 at *
 generalize w2.heap.size=k3 at *
 go_wp2_with fail
 refine(Draw.l1Once c 8 _ cu3).mono ?_
 rintro e w4 ⟨b,rfl,cu4,k4⟩
 have v4:=v3.kept k4 (by omega)
 have z4:=z3.kept k4 (by omega)
 have p4:=p3.trans k4
 clear v3 z3 cu3 p3 k4
 cases b
 case false=>
  have v9:=v4
  have z9:=z4
  have cu9:=cu4
  have p9:=p4
  clear v4 z4 cu4 p4
  obtain⟨d0,d1,d2,d3,d4,d5⟩:=v9.c6
  obtain⟨r0,r1,r2,r3,r4,r5⟩:=z9.c6
  obtain⟨y0,y1,y2,y3,y4,y5⟩:=z9.f6
  go_wp2_with fail
  refine bodyPost_ret (v:=.agg #[.int .i64 g.ba,.string g.bs,.int .i64 g.cp,.int .i64 g.lm,.bool g.en,.bool g.dn]) (by rw [Tak.res_cell rfl];go_simp) rfl ⟨g,hsz,rfl,?_,?_⟩
  ·iterate 6 (refine Draw.Cur.upto ?_ (fun i hi=>Below.heap_setCell _ _ _ _ (by dsimp only;omega)))
   exact cu9
  ·iterate 6 (refine Draw.Kept.setCell ?_ (.inr (by dsimp only;omega)) _)
   exact p9
 go_wp2_with fail
 refine(Draw.l1Below c 5 _ cu4).mono ?_
 rintro e w5 ⟨j,q0,q1,rfl,cu5,k5⟩
 have v5:=v4.kept k5 (by omega)
 have z5:=z4.kept k5 (by omega)
 have p5:=p4.trans k5
 have hj:j=0∨j=1∨j=2∨j=3∨j=4:=by omega
 have hck:c<k3:=by omega
 clear v4 z4 cu4 p4 k5 q0 q1
 rcases hj with rfl|rfl|rfl|rfl|rfl
 focus
  go_wp2_with fail
  refine(Draw.l1Below c 4 _ (cu5.alloc _)).mono ?_
  rintro e w6 ⟨x,x0,x1,rfl,cu6,k6⟩
  have x2:x<4:=by omega
  clear x1
  obtain⟨v,hv⟩:=four 0 1 400 401 x x0 x2
  have hcl:=cu5.lt
  have hc:=(k6.cell (p:=⟨w5.heap.size,x.toNat,none⟩) (by simp) (show w5.heap.size≠c by omega)).trans ((World.cell?_alloc_new _ _ _ _).trans hv)
  have v6:=(v5.alloc (.cells #[.int .i64 0,.int .i64 1,.int .i64 400,.int .i64 401] 2)).kept k6 (by omega)
  have z6:=(z5.alloc (.cells #[.int .i64 0,.int .i64 1,.int .i64 400,.int .i64 401] 2)).kept k6 (by omega)
  have p6:=(p5.alloc (.cells #[.int .i64 0,.int .i64 1,.int .i64 400,.int .i64 401] 2)).trans k6
  have f2:=v6.free 2
  have e2:=v6.cell (i:=2) rfl
  have HV:Hid _:=hv
  clear hv v5 z5 p5 cu5 k6
  go_upto_region 15 with(fail)
  have v9:Var 47 (w6.setCell ⟨k3,2,none⟩ (.int .i64 v)) k3 [.int .i64 g.ba,.string g.bs,.int .i64 v,.int .i64 g.lm,.bool g.en,.bool g.dn]:=v6.set 2 _
  have z9:Var 47 (w6.setCell ⟨k3,2,none⟩ (.int .i64 v)) w.heap.size [.int .i64 0,.string ⟨#[]⟩,.int .i64 0,.int .i64 0,.bool false,.bool false]:=z6.other (by dsimp only;omega) _
  have cu9:Draw.Cur (w6.setCell ⟨k3,2,none⟩ (.int .i64 v)) c:=cu6.upto (fun i hi=>Below.heap_setCell _ _ _ _ (by dsimp only;omega))
  have p9:Draw.Kept c w (w6.setCell ⟨k3,2,none⟩ (.int .i64 v)):=p6.setCell (.inr (by dsimp only;omega)) _
  generalize w6.setCell ⟨k3,2,none⟩ (.int .i64 v)=W9 at *
  clear f2 e2 hc
  obtain⟨d0,d1,d2,d3,d4,d5⟩:=v9.c6
  obtain⟨r0,r1,r2,r3,r4,r5⟩:=z9.c6
  obtain⟨y0,y1,y2,y3,y4,y5⟩:=z9.f6
  go_wp2_with fail
  refine bodyPost_ret (v:=.agg #[.int .i64 g.ba,.string g.bs,.int .i64 v,.int .i64 g.lm,.bool g.en,.bool g.dn]) (by rw [Tak.res_cell rfl];go_simp) rfl ⟨⟨g.ba,g.bs,v,g.lm,g.en,g.dn⟩,hsz,rfl,?_,?_⟩
  ·iterate 6 (refine Draw.Cur.upto ?_ (fun i hi=>Below.heap_setCell _ _ _ _ (by dsimp only;omega)))
   exact cu9
  ·iterate 6 (refine Draw.Kept.setCell ?_ (.inr (by dsimp only;omega)) _)
   exact p9
 focus
  go_wp2_with fail
  refine(Draw.l1DrawPlace c _ cu5).mono ?_
  rintro e w6 ⟨v,rfl,cu6,k6⟩
  have v6:=v5.kept k6 (by omega)
  have z6:=z5.kept k6 (by omega)
  have p6:=p5.trans k6
  have f2:=v6.free 0
  have e2:=v6.cell (i:=0) rfl
  clear v5 z5 p5 cu5 k6
  go_upto_region 15 with(fail)
  have v9:Var 47 (w6.setCell ⟨k3,0,none⟩ (.int .i64 v)) k3 [.int .i64 v,.string g.bs,.int .i64 g.cp,.int .i64 g.lm,.bool g.en,.bool g.dn]:=v6.set 0 _
  have z9:Var 47 (w6.setCell ⟨k3,0,none⟩ (.int .i64 v)) w.heap.size [.int .i64 0,.string ⟨#[]⟩,.int .i64 0,.int .i64 0,.bool false,.bool false]:=z6.other (by dsimp only;omega) _
  have cu9:Draw.Cur (w6.setCell ⟨k3,0,none⟩ (.int .i64 v)) c:=cu6.upto (fun i hi=>Below.heap_setCell _ _ _ _ (by dsimp only;omega))
  have p9:Draw.Kept c w (w6.setCell ⟨k3,0,none⟩ (.int .i64 v)):=p6.setCell (.inr (by dsimp only;omega)) _
  generalize w6.setCell ⟨k3,0,none⟩ (.int .i64 v)=W9 at *
  clear f2 e2
  obtain⟨d0,d1,d2,d3,d4,d5⟩:=v9.c6
  obtain⟨r0,r1,r2,r3,r4,r5⟩:=z9.c6
  obtain⟨y0,y1,y2,y3,y4,y5⟩:=z9.f6
  go_wp2_with fail
  refine bodyPost_ret (v:=.agg #[.int .i64 v,.string g.bs,.int .i64 g.cp,.int .i64 g.lm,.bool g.en,.bool g.dn]) (by rw [Tak.res_cell rfl];go_simp) rfl ⟨⟨v,g.bs,g.cp,g.lm,g.en,g.dn⟩,hsz,rfl,?_,?_⟩
  ·iterate 6 (refine Draw.Cur.upto ?_ (fun i hi=>Below.heap_setCell _ _ _ _ (by dsimp only;omega)))
   exact cu9
  ·iterate 6 (refine Draw.Kept.setCell ?_ (.inr (by dsimp only;omega)) _)
   exact p9
 focus
  go_wp2_with fail
  refine(Draw.l1DrawPlace c _ cu5).mono ?_
  rintro e w6 ⟨v,rfl,cu6,k6⟩
  have v6:=v5.kept k6 (by omega)
  have z6:=z5.kept k6 (by omega)
  have p6:=p5.trans k6
  have f2:=v6.free 3
  have e2:=v6.cell (i:=3) rfl
  clear v5 z5 p5 cu5 k6
  go_upto_region 15 with(fail)
  have v9:Var 47 (w6.setCell ⟨k3,3,none⟩ (.int .i64 v)) k3 [.int .i64 g.ba,.string g.bs,.int .i64 g.cp,.int .i64 v,.bool g.en,.bool g.dn]:=v6.set 3 _
  have z9:Var 47 (w6.setCell ⟨k3,3,none⟩ (.int .i64 v)) w.heap.size [.int .i64 0,.string ⟨#[]⟩,.int .i64 0,.int .i64 0,.bool false,.bool false]:=z6.other (by dsimp only;omega) _
  have cu9:Draw.Cur (w6.setCell ⟨k3,3,none⟩ (.int .i64 v)) c:=cu6.upto (fun i hi=>Below.heap_setCell _ _ _ _ (by dsimp only;omega))
  have p9:Draw.Kept c w (w6.setCell ⟨k3,3,none⟩ (.int .i64 v)):=p6.setCell (.inr (by dsimp only;omega)) _
  generalize w6.setCell ⟨k3,3,none⟩ (.int .i64 v)=W9 at *
  clear f2 e2
  obtain⟨d0,d1,d2,d3,d4,d5⟩:=v9.c6
  obtain⟨r0,r1,r2,r3,r4,r5⟩:=z9.c6
  obtain⟨y0,y1,y2,y3,y4,y5⟩:=z9.f6
  go_wp2_with fail
  refine bodyPost_ret (v:=.agg #[.int .i64 g.ba,.string g.bs,.int .i64 g.cp,.int .i64 v,.bool g.en,.bool g.dn]) (by rw [Tak.res_cell rfl];go_simp) rfl ⟨⟨g.ba,g.bs,g.cp,v,g.en,g.dn⟩,hsz,rfl,?_,?_⟩
  ·iterate 6 (refine Draw.Cur.upto ?_ (fun i hi=>Below.heap_setCell _ _ _ _ (by dsimp only;omega)))
   exact cu9
  ·iterate 6 (refine Draw.Kept.setCell ?_ (.inr (by dsimp only;omega)) _)
   exact p9
 focus
  have f5:=v5.free 5
  have e5:=v5.cell (i:=5) rfl
  go_upto_region 15 with(fail)
  have v9:Var 47 (w5.setCell ⟨k3,5,none⟩ (.bool (!g.dn))) k3 [.int .i64 g.ba,.string g.bs,.int .i64 g.cp,.int .i64 g.lm,.bool g.en,.bool (!g.dn)]:=v5.set 5 _
  have z9:Var 47 (w5.setCell ⟨k3,5,none⟩ (.bool (!g.dn))) w.heap.size [.int .i64 0,.string ⟨#[]⟩,.int .i64 0,.int .i64 0,.bool false,.bool false]:=z5.other (by dsimp only;omega) _
  have cu9:Draw.Cur (w5.setCell ⟨k3,5,none⟩ (.bool (!g.dn))) c:=cu5.upto (fun i hi=>Below.heap_setCell _ _ _ _ (by dsimp only;omega))
  have p9:Draw.Kept c w (w5.setCell ⟨k3,5,none⟩ (.bool (!g.dn))):=p5.setCell (.inr (by dsimp only;omega)) _
  generalize (w5.setCell ⟨k3,5,none⟩ (.bool (!g.dn)))=W9 at *
  clear f5 e5 v5 z5 cu5 p5
  obtain⟨d0,d1,d2,d3,d4,d5⟩:=v9.c6
  obtain⟨r0,r1,r2,r3,r4,r5⟩:=z9.c6
  obtain⟨y0,y1,y2,y3,y4,y5⟩:=z9.f6
  go_wp2_with fail
  refine bodyPost_ret (v:=.agg #[.int .i64 g.ba,.string g.bs,.int .i64 g.cp,.int .i64 g.lm,.bool g.en,.bool (!g.dn)]) (by rw [Tak.res_cell rfl];go_simp) rfl ⟨⟨g.ba,g.bs,g.cp,g.lm,g.en,!g.dn⟩,hsz,rfl,?_,?_⟩
  ·iterate 6 (refine Draw.Cur.upto ?_ (fun i hi=>Below.heap_setCell _ _ _ _ (by dsimp only;omega)))
   exact cu9
  ·iterate 6 (refine Draw.Kept.setCell ?_ (.inr (by dsimp only;omega)) _)
   exact p9
 focus
  have f0:=v5.free 0
  have e0:=v5.cell (i:=0) rfl
  have f3:=v5.free 3
  have e3:=v5.cell (i:=3) rfl
  go_upto_region 15 with(fail)
  obtain⟨W9,hW9⟩: ∃z,Hid (z=(w5.setCell ⟨k3,0,none⟩ (.int .i64 999999997)).setCell ⟨k3,3,none⟩ (.int .i64 1000000000)):=⟨_,rfl⟩
  have v9:Var 47 W9 k3 [.int .i64 999999997,.string g.bs,.int .i64 g.cp,.int .i64 1000000000,.bool g.en,.bool g.dn]:=by rw [hW9.out];exact(v5.set 0 _).set 3 _
  have z9:Var 47 W9 w.heap.size [.int .i64 0,.string ⟨#[]⟩,.int .i64 0,.int .i64 0,.bool false,.bool false]:=by rw [hW9.out];exact(z5.other (by dsimp only;omega) _).other (by dsimp only;omega) _
  have cu9:Draw.Cur W9 c:=by rw [hW9.out];exact(cu5.upto (fun i hi=>Below.heap_setCell _ _ _ _ (by dsimp only;omega))).upto (fun i hi=>Below.heap_setCell _ _ _ _ (by dsimp only;omega))
  have p9:Draw.Kept c w W9:=by rw [hW9.out];exact(p5.setCell (.inr (by dsimp only;omega)) _).setCell (.inr (by dsimp only;omega)) _
  rw [←hW9.out]
  clear hW9
  clear f0 e0 f3 e3 v5 z5 cu5 p5
  obtain⟨d0,d1,d2,d3,d4,d5⟩:=v9.c6
  obtain⟨r0,r1,r2,r3,r4,r5⟩:=z9.c6
  obtain⟨y0,y1,y2,y3,y4,y5⟩:=z9.f6
  go_wp2_with fail
  refine bodyPost_ret (v:=.agg #[.int .i64 999999997,.string g.bs,.int .i64 g.cp,.int .i64 1000000000,.bool g.en,.bool g.dn]) (by rw [Tak.res_cell rfl];go_simp) rfl ⟨⟨999999997,g.bs,g.cp,1000000000,g.en,g.dn⟩,hsz,rfl,?_,?_⟩
  ·iterate 6 (refine Draw.Cur.upto ?_ (fun i hi=>Below.heap_setCell _ _ _ _ (by dsimp only;omega)))
   exact cu9
  ·iterate 6 (refine Draw.Kept.setCell ?_ (.inr (by dsimp only;omega)) _)
   exact p9
end Go.Proofs.YtfmcahjdhoabcaaGreat.Giv
