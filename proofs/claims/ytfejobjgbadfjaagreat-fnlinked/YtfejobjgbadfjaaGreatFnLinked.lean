/- For every code of bytes FnLinked returns true: the program's Linked answers as the specification's at the line that is drawn; and of a new world, whatever is played, what each writer's desk keeps is the text's from its base on, and the program's Linked is true of its line; no condition. (Its frame is the guide's shell; the walk is mine.) -/
import Derived.Test.YtfejobjgbadfjaaGreatRows
import Derived.Test.YtfejobjgbadfjaaGreatK42
import Derived.Test.YtfejobjgbadfjaaGreatK52
import Derived.Test.YtfejobjgbadfjaaGreatK53
import Derived.Test.YtfejobjgbadfjaaGreatK55
import Derived.Test.YtfejobjgbadfjaaGreatK49
import Derived.WalkKit
import Derived.ProofKit
import Derived.OpenShut
import Derived.ShutString
import Derived.ChangeOld
import Derived.Below
namespace Go.Proofs.YtfejobjgbadfjaaGreat.fnLinked
open Go.ChangeShapes Go.WideShapes Go.ChangeAt Go.RowKit
open Go.ChangeMaps (open_string shut_string)
set_option linter.unusedVariables false

theorem own:ownKnob Tryz.prog.godebug=none:=by kernel_rfl
theorem laidOut:laidOutB Tryz.prog=true:=by kernel_rfl

def IsRow (k:IntKind)(w:World)(a:Option Addr)(len cap:Nat)(zs:List Int):Prop:=
 (a=none∧len=0∧cap=0∧zs=[])∨
 ∃x,a=some x∧len≤cap∧cap≤maxLen∧zs.length=cap∧(∀i,i<zs.length→w.cell? (x.add i)=some (.int k (zs.getD i 0)))∧ ∀n∈zs,(Lit.int k n).wf=true

/-! ### STEP 1: THE WALK: the Go text returns true, AND WRITES NOTHING THAT WAS THERE: 'Below w.heap.size w w'' (Derived/Below.lean: '.refl', '.alloc', '.drew', '.setCell' at a new block, '.trans'). Open each 'IsRow' by 'rcases' AHEAD of 'go_enter'; part every test ahead of the walk. -/
set_option linter.unusedSimpArgs false in
set_option maxRecDepth 20000 in
set_option maxHeartbeats 40000000 in
theorem walk (a0:Option Addr)(len0 cap0:Nat)(z0:List Int)(w:World)(w0:IsRow .u8 w a0 len0 cap0 z0):
  Calls Tryz.prog 3 #[.slice a0 len0 cap0] w fun e w'=>e=.returned (.bool true)∧Below w.heap.size w w':=by
 obtain⟨hb,hm⟩:=Draw.bytes_of_row w0
 clear w0
 by_cases hl:len0≤4096
 case neg=>
  have hd:decide (4096<(len0:Int))=true:=by simp;omega
  go_enter Tryz.func3,Tryz.ntmps3
  go_wp2_with fail
  refine(Draw.big _ _ _ _ hm).mono ?_
  rintro e w1 ⟨rfl,rfl⟩
  go_wp2_with fail
  go_ret
  exact⟨rfl,Below.refl _ _⟩
 have hd:decide (4096<(len0:Int))=false:=by simp;omega
 have hmix:=Roa.mix
 go_enter Tryz.func3,Tryz.ntmps3
 go_wp2_with fail
 refine(Draw.big _ _ _ _ hm).mono ?_
 rintro e w1 ⟨rfl,rfl⟩
 clear hd
 go_wp2_with fail
 refine(Wor.drawLinked _ _ _ _ hb hl).mono ?_
 rintro e w1 ⟨qH,qR,cqH,cqR,qs,qr,rfl,D,B1⟩
 have v3:RowG.Var 27 (w1.alloc (.cells #[.slice qH qs.length cqH,.slice qR qr.length cqR] 27)) w1.heap.size [.slice qH qs.length cqH,.slice qR qr.length cqR]:=RowG.Var.new w1 _
 have b1:=(Below.refl w1.heap.size w1).alloc (Nat.le_refl _) (.cells #[.slice qH qs.length cqH,.slice qR qr.length cqR] 27)
 replace D:=D.later b1
 replace B1:=B1.trans (b1.mono B1.size)
 clear b1
 have hb1:=Draw.Bytes.below hb B1 (Nat.le_refl _)
 go_upto_region 3 with(fail)
 generalize w1.alloc (.cells _ 27)=V1 at *
 generalize w1.heap.size=k3 at *
 have c0:=Draw.Later.cell (v3.cell (i:=0) rfl)
 have c1:=Draw.Later.cell (v3.cell (i:=1) rfl)
 have HL1:Hid (∀p:Draw.Later V1,Calls Tryz.prog 6 #[.agg #[.slice qH qs.length cqH,.slice qR qr.length cqR]] p.1 fun e w'=>e=.returned (.bool (Cou.linkL (qs.map (·.h)) qr))∧Below p.1.heap.size p.1 w'):=fun p=>Cou.implLinked qH qR qs.length qr.length cqH cqR qs qr p.1 rfl rfl (D.later p.2).L (D.later p.2).R (by have:=D.nr;omega) D.sm
 have HL2:Hid (∀p:Draw.Later V1,Calls Tryz.prog 7 #[.agg #[.slice qH qs.length cqH,.slice qR qr.length cqR]] p.1 fun e w'=>e=.returned (.bool (Cou.linkL (qs.map (·.h)) qr))∧Below p.1.heap.size p.1 w'):=fun p=>Cou.specLinked qH qR qs.length qr.length cqH cqR qs qr p.1 rfl rfl (D.later p.2).L (D.later p.2).R (by have:=D.nx;omega) (by have:=D.nr;omega) D.sm
 clear D v3
 generalize Cou.linkL (qs.map (·.h)) qr=lb at *
 have f0:(lb !=lb)=false:=by cases lb <;>rfl
 go_wp2_with fail
 refine Draw.wp_region_later hmix (by kernel_rfl) ?_
 repeat (go_big_quiet_step (first|(go_at_call 6;exact Draw.later_of (HL1.out _))|(go_at_call 7;exact Draw.later_of (HL2.out _))|fail))
 refine wpQuiet_nil ?_
 intro _ hw'
 obtain⟨⟨wq,b2⟩,hw''⟩:=hw'
 subst hw''
 have B2:=B1.trans (b2.mono B1.size)
 have hb2:=Draw.Bytes.below hb1 b2 (Nat.le_refl _)
 clear b2 hb1 B1 c0 c1 HL1 HL2 f0
 go_wp2_with fail
 refine(Wor.drawPlay _ _ _ _ hb2 hl).mono ?_
 rintro e w2 ⟨pH,pR,cpH,cpR,ps,pr,pt,aL,capL,L,rfl,DP,hz2,hL,hLl,hLt,b3⟩
 replace B2:=B2.trans (b3.mono B2.size)
 clear b3 hb2 hb
 have v6:RowG.Var 33 (w2.alloc (.cells (Wor.A7 pH ps.length cpH pR pr.length cpR pt).toArray 33)) w2.heap.size (Wor.A7 pH ps.length cpH pR pr.length cpR pt):=RowG.Var.new w2 _
 have b4:=(Below.refl w2.heap.size w2).alloc (Nat.le_refl _) (.cells (Wor.A7 pH ps.length cpH pR pr.length cpR pt).toArray 33)
 replace DP:=DP.later b4
 replace hL:=hL.later b4
 replace B2:=B2.trans (b4.mono B2.size)
 clear b4
 go_upto_region 6 with(fail)
 generalize w2.alloc (.cells _ 33)=V6 at *
 generalize w2.heap.size=k6 at *
 obtain⟨c0,c1,c2,c3,c4,c5,c6⟩:=v6.c7
 go_wp2_with fail
 refine(Wor.anew pH pR _ cpH cpR ps pr pt _ rfl DP (by omega)).mono ?_
 rintro e w3 ⟨hx,b5⟩
 replace hL:=hL.later b5
 replace B2:=B2.trans (b5.mono B2.size)
 clear DP v6 b5 c0 c1 c2 c3 c4 c5 c6
 rcases hx with rfl|⟨l,n,v,hcp,rfl,⟨g,cH,xs,aR,cR,rfl,A⟩⟩
 ·have B3:=B2.alloc B2.size (.cells Wor.Z7.toArray 33)
  go_wp2_with fail
  go_ret
  exact⟨rfl,B3⟩
 generalize hW0:Wor.newW l n=W0 at *
 have HWI:Hid (Wor.okW (Wor.play W0 L)=true∧Wor.Inv (Wor.play W0 L)):=by rw [←hW0];exact Cou.play_inv hcp L
 clear hW0 hcp
 have hB3:=B2.size
 have v8:RowG.Var 33 (w3.alloc (.cells (Wor.W7 W0 g cH aR cR).toArray 33)) w3.heap.size (Wor.W7 W0 g cH aR cR):=RowG.Var.new w3 _
 have b4:=(Below.refl w3.heap.size w3).alloc (Nat.le_refl _) (.cells (Wor.W7 W0 g cH aR cR).toArray 33)
 replace A:=A.later b4
 replace hL:=hL.later b4
 replace B2:=B2.trans (b4.mono B2.size)
 clear b4
 by_cases h3:L.length≤300
 case neg=>
  have i0:(300:Int)<(L.length:Int):=by omega
  go_wp2_with fail
  go_ret
  exact⟨rfl,B2⟩
 have i0: ¬(300:Int)<(L.length:Int):=by omega
 have HTX:Hid (∀a∈L,a.tx.size≤2097152):=fun a ha=>by have:=hLt a ha;omega
 have H3:Hid (L.length≤300):=h3
 clear hLt h3 hLl
 go_upto_region 9 with(fail)
 clear i0
 generalize w3.alloc (.cells _ 33)=V8 at *
 have HK8:Hid (w.heap.size≤w3.heap.size):=hB3
 clear hB3
 generalize w3.heap.size=k8 at *
 obtain⟨c0,c1,c2,c3,c4,c5,c6⟩:=v8.c7
 go_wp2_with fail
 refine(Wor.specPlay 0 W0 g cH cR aR xs _ ⟨A.L.mono (Nat.zero_le _),A.hs,A.R.mono (Nat.zero_le _),A.ok⟩ (Nat.zero_le _) aL capL L hL H3.out HTX.out).mono ?_
 rintro e w4 ⟨v,rfl,⟨g5,h5,ys,a5,r5,rfl,A5⟩,b5⟩
 replace v8:=v8.later b5
 replace B2:=B2.trans (b5.mono B2.size)
 clear A hL b5 HTX H3 c0 c1 c2 c3 c4 c5 c6
 generalize Wor.play W0 L=W at *
 obtain⟨c0,c1,c2,c3,c4,c5,c6⟩:=v8.c7
 obtain⟨y0,y1,y2,y3,y4,y5,y6⟩:=v8.f7
 have ka:=Wor.kept7 w4 k8 (.slice (some ⟨g5,0,none⟩) 3 h5) (.slice a5 W.rs.length r5) (.string W.tx) (.int .i64 W.rd) (.bool W.en) (.bool W.dn) (.bool W.sn)
 have vv:=Wor.var7 v8 (.slice (some ⟨g5,0,none⟩) 3 h5) (.slice a5 W.rs.length r5) (.string W.tx) (.int .i64 W.rd) (.bool W.en) (.bool W.dn) (.bool W.sn)
 have A6:=A5.keptV v8 (by decide) (by decide) (by decide) (by decide) ka
 have B6:=B2.trans (ka.below HK8.out B2.size)
 clear ka A5 v8 B2
 go_upto_region 10 with(fail)
 clear c0 c1 c2 c3 c4 c5 c6 y0 y1 y2 y3 y4 y5 y6
 simp only [Wor.put7]at vv A6 B6
 generalize World.setCell _ ⟨k8,6,none⟩ _=WZ at *
 have hok:=HWI.out.1
 have hrl:=Wor.roads_len (Wor.hops_iff.1 (Wor.ok_parts.1 hok).1).2.1
 have htx:=(Wor.stream_iff.1 (Wor.ok_parts.1 hok).2).1
 have hy3:=A6.len
 have hys:=A6.hs
 have hsm: ∀x∈ys,x.h.Sm:=fun x hx=>(Wor.sms_of A6.ok A6.hs x hx).1
 have HL:Hid (∀w',Below WZ.heap.size WZ w'→Calls Tryz.prog 6 #[.agg #[.slice (some ⟨g5,0,none⟩) 3 h5,.slice a5 W.rs.length r5]] w' fun x w''=>x=.returned (.bool true)∧Below w'.heap.size w' w''):=fun w' b=>(Cou.implLinked _ a5 3 W.rs.length h5 r5 ys W.rs w' hy3.symm rfl (A6.L.ll.later b) (A6.R.lies.later b) (by omega) hsm).mono (by
  rintro x w'' ⟨rfl,bb⟩
  exact⟨by rw [hys,Cou.linked hok HWI.out.2],bb⟩)
 have HG:Hid (∀(k:Nat) (x:Lin.Ha),ys[k]? =some x→x.h.g.bs=W.tx.extract x.h.g.ba.toNat (x.h.g.ba+x.h.g.bs.size).toNat∧0≤x.h.g.ba∧x.h.g.ba+x.h.g.bs.size≤(W.tx.size:Int)):=fun k x e=>by
  have k3:k<3:=by have:=(List.getElem?_eq_some_iff.1 e).1;omega
  have q:=Wor.giver_text hok HWI.out.2 k3
  have ea:W.at k=x.h:=by rw [Wor.Wd.at,List.getD_eq_getElem?_getD,←hys,List.getElem?_map,e];rfl
  rw [ea]at q
  exact q
 have HLL:Hid (Lin.LL WZ (some ⟨g5,0,none⟩) ys):=A6.L.ll
 have HTT:Hid (W.tx.size≤1000000000):=by show _≤_;omega
 obtain⟨x0,x1,x2,rfl⟩: ∃a b c,ys=[a,b,c]:=by
  match ys,hy3 with
  | [a,b,c],_=>exact⟨a,b,c,rfl⟩
 clear hok hrl htx hy3 hys hsm A6 HWI
 go_loopw [8] (fun iv wr=> ∃k:Nat,k≤3∧iv=.int .i64 k∧Below WZ.heap.size WZ wr) (fun iv _=>3-(intOf iv).toNat)
 case atStart=>exact⟨0,by omega,rfl,Below.refl _ _⟩
 case round=>
  obtain⟨k,hk,rfl,b8⟩:=hrel
  have B8:=B6.trans (b8.mono B6.size)
  have v9:=vv.later b8
  by_cases hk3:k<3
  case neg=>
   have k0: ¬(k:Int)<3:=by omega
   have e0:=v9.cell (i:=0) rfl
   have e1:=v9.cell (i:=1) rfl
   go_wp2_with fail
   refine(HL.out _ b8).mono ?_
   rintro e w9 ⟨rfl,b9⟩
   go_wp2_with fail
   go_ret
   exact⟨rfl,B8.trans (b9.mono B8.size)⟩
  have hL:=(HLL.out.later b8).row
  have e0:=v9.cell (i:=0) rfl
  rcases(show k=0∨k=1∨k=2 by omega)with rfl|rfl|rfl
  focus
   obtain⟨hg0,hg1,hg2⟩:=HG.out 0 x0 rfl
   have d0:wr.cell? ⟨g5,0,none⟩=some (.int .i64 x0.h.g.ba):=RowG.El.Lies.cells hL (i:=0) (x:=x0) rfl 0 _ rfl
   have d1:wr.cell? ⟨g5,1,none⟩=some (.string x0.h.g.bs):=RowG.El.Lies.cells hL (i:=0) (x:=x0) rfl 1 _ rfl
   have d2:wr.cell? ⟨g5,2,none⟩=some (.int .i64 x0.h.g.cp):=RowG.El.Lies.cells hL (i:=0) (x:=x0) rfl 2 _ rfl
   have d3:wr.cell? ⟨g5,3,none⟩=some (.int .i64 x0.h.g.lm):=RowG.El.Lies.cells hL (i:=0) (x:=x0) rfl 3 _ rfl
   have d4:wr.cell? ⟨g5,4,none⟩=some (.bool x0.h.g.en):=RowG.El.Lies.cells hL (i:=0) (x:=x0) rfl 4 _ rfl
   have d5:wr.cell? ⟨g5,5,none⟩=some (.bool x0.h.g.dn):=RowG.El.Lies.cells hL (i:=0) (x:=x0) rfl 5 _ rfl
   have HS:Hid (x0.h.g.bs=W.tx.extract x0.h.g.ba.toNat (x0.h.g.ba+x0.h.g.bs.size).toNat):=hg0
   have h5:=HTT.out
   clear hL HL HG HLL hg0 HTT
   generalize x0.h.g.ba=ba at *
   generalize x0.h.g.bs=bs at *
   generalize x0.h.g.cp=cp at *
   generalize x0.h.g.lm=lm at *
   generalize x0.h.g.en=en at *
   generalize x0.h.g.dn=dn at *
   obtain⟨r,rfl⟩: ∃r:Nat,ba=r:=⟨ba.toNat,by omega⟩
   have GC0:=(RowG.Var.new (T:=41) wr [.int .i64 (r:Int),.string bs,.int .i64 cp,.int .i64 lm,.bool en,.bool dn])
   have b9:=b8.alloc b8.size (.cells #[.int .i64 (r:Int),.string bs,.int .i64 cp,.int .i64 lm,.bool en,.bool dn] 41)
   have v10:=v9.later ((Below.refl wr.heap.size wr).alloc (Nat.le_refl _) (.cells #[.int .i64 (r:Int),.string bs,.int .i64 cp,.int .i64 lm,.bool en,.bool dn] 41))
   have vg:RowG.Var 41 (wr.alloc (.cells #[.int .i64 (r:Int),.string bs,.int .i64 cp,.int .i64 lm,.bool en,.bool dn] 41)) wr.heap.size [.int .i64 (r:Int),.string bs,.int .i64 cp,.int .i64 lm,.bool en,.bool dn]:=GC0
   clear GC0 v9
   have hS:W.tx.extract r (r+bs.size)=bs:=by
    have q:=HS.out
    rw [show((r:Nat):Int).toNat=r by omega,show((r:Int)+(bs.size:Int)).toNat=r+bs.size by omega]at q
    exact q.symm
   go_upto_region 15 with(fail)
   clear d0 d1 d2 d3 d4 d5 e0 HS
   generalize wr.alloc (.cells _ 41)=VG at *
   generalize wr.heap.size=kg at *
   have f0:=Draw.Later.cell (vg.cell (i:=0) rfl)
   have f1:=Draw.Later.cell (vg.cell (i:=1) rfl)
   have f2:=Draw.Later.cell (v10.cell (i:=2) rfl)
   have i0:(r:Int)+(bs.size:Int)≤(W.tx.size:Int):=hg2
   have i1:(r:Int)≤(r:Int)+(bs.size:Int):=by omega
   have i2:(0:Int)≤(r:Int):=by omega
   clear vg v10 hg1 hg2
   have h0:=hS
   go_wp2_with fail
   refine Draw.wp_region_later hmix (by kernel_rfl) ?_
   repeat (go_big_quiet_step (fail))
   refine wpQuiet_nil ?_
   intro _ hw'
   obtain⟨⟨wq,b10⟩,hw''⟩:=hw'
   subst hw''
   have hc:(bs.toList !=bs.toList)=false:=by simp
   try rw [hc]
   go_wp2_with fail
   go_roundw
   case rel=>exact⟨1,by omega,by go_num,b9.trans (b10.mono b9.size)⟩
   case measure=>simp [intOf]
  focus
   obtain⟨hg0,hg1,hg2⟩:=HG.out 1 x1 rfl
   have d0:wr.cell? ⟨g5,13,none⟩=some (.int .i64 x1.h.g.ba):=RowG.El.Lies.cells hL (i:=1) (x:=x1) rfl 0 _ rfl
   have d1:wr.cell? ⟨g5,14,none⟩=some (.string x1.h.g.bs):=RowG.El.Lies.cells hL (i:=1) (x:=x1) rfl 1 _ rfl
   have d2:wr.cell? ⟨g5,15,none⟩=some (.int .i64 x1.h.g.cp):=RowG.El.Lies.cells hL (i:=1) (x:=x1) rfl 2 _ rfl
   have d3:wr.cell? ⟨g5,16,none⟩=some (.int .i64 x1.h.g.lm):=RowG.El.Lies.cells hL (i:=1) (x:=x1) rfl 3 _ rfl
   have d4:wr.cell? ⟨g5,17,none⟩=some (.bool x1.h.g.en):=RowG.El.Lies.cells hL (i:=1) (x:=x1) rfl 4 _ rfl
   have d5:wr.cell? ⟨g5,18,none⟩=some (.bool x1.h.g.dn):=RowG.El.Lies.cells hL (i:=1) (x:=x1) rfl 5 _ rfl
   have HS:Hid (x1.h.g.bs=W.tx.extract x1.h.g.ba.toNat (x1.h.g.ba+x1.h.g.bs.size).toNat):=hg0
   have h5:=HTT.out
   clear hL HL HG HLL hg0 HTT
   generalize x1.h.g.ba=ba at *
   generalize x1.h.g.bs=bs at *
   generalize x1.h.g.cp=cp at *
   generalize x1.h.g.lm=lm at *
   generalize x1.h.g.en=en at *
   generalize x1.h.g.dn=dn at *
   obtain⟨r,rfl⟩: ∃r:Nat,ba=r:=⟨ba.toNat,by omega⟩
   have GC0:=(RowG.Var.new (T:=41) wr [.int .i64 (r:Int),.string bs,.int .i64 cp,.int .i64 lm,.bool en,.bool dn])
   have b9:=b8.alloc b8.size (.cells #[.int .i64 (r:Int),.string bs,.int .i64 cp,.int .i64 lm,.bool en,.bool dn] 41)
   have v10:=v9.later ((Below.refl wr.heap.size wr).alloc (Nat.le_refl _) (.cells #[.int .i64 (r:Int),.string bs,.int .i64 cp,.int .i64 lm,.bool en,.bool dn] 41))
   have vg:RowG.Var 41 (wr.alloc (.cells #[.int .i64 (r:Int),.string bs,.int .i64 cp,.int .i64 lm,.bool en,.bool dn] 41)) wr.heap.size [.int .i64 (r:Int),.string bs,.int .i64 cp,.int .i64 lm,.bool en,.bool dn]:=GC0
   clear GC0 v9
   have hS:W.tx.extract r (r+bs.size)=bs:=by
    have q:=HS.out
    rw [show((r:Nat):Int).toNat=r by omega,show((r:Int)+(bs.size:Int)).toNat=r+bs.size by omega]at q
    exact q.symm
   go_upto_region 15 with(fail)
   clear d0 d1 d2 d3 d4 d5 e0 HS
   generalize wr.alloc (.cells _ 41)=VG at *
   generalize wr.heap.size=kg at *
   have f0:=Draw.Later.cell (vg.cell (i:=0) rfl)
   have f1:=Draw.Later.cell (vg.cell (i:=1) rfl)
   have f2:=Draw.Later.cell (v10.cell (i:=2) rfl)
   have i0:(r:Int)+(bs.size:Int)≤(W.tx.size:Int):=hg2
   have i1:(r:Int)≤(r:Int)+(bs.size:Int):=by omega
   have i2:(0:Int)≤(r:Int):=by omega
   clear vg v10 hg1 hg2
   have h0:=hS
   go_wp2_with fail
   refine Draw.wp_region_later hmix (by kernel_rfl) ?_
   repeat (go_big_quiet_step (fail))
   refine wpQuiet_nil ?_
   intro _ hw'
   obtain⟨⟨wq,b10⟩,hw''⟩:=hw'
   subst hw''
   have hc:(bs.toList !=bs.toList)=false:=by simp
   try rw [hc]
   go_wp2_with fail
   go_roundw
   case rel=>exact⟨2,by omega,by go_num,b9.trans (b10.mono b9.size)⟩
   case measure=>simp [intOf]
  focus
   obtain⟨hg0,hg1,hg2⟩:=HG.out 2 x2 rfl
   have d0:wr.cell? ⟨g5,26,none⟩=some (.int .i64 x2.h.g.ba):=RowG.El.Lies.cells hL (i:=2) (x:=x2) rfl 0 _ rfl
   have d1:wr.cell? ⟨g5,27,none⟩=some (.string x2.h.g.bs):=RowG.El.Lies.cells hL (i:=2) (x:=x2) rfl 1 _ rfl
   have d2:wr.cell? ⟨g5,28,none⟩=some (.int .i64 x2.h.g.cp):=RowG.El.Lies.cells hL (i:=2) (x:=x2) rfl 2 _ rfl
   have d3:wr.cell? ⟨g5,29,none⟩=some (.int .i64 x2.h.g.lm):=RowG.El.Lies.cells hL (i:=2) (x:=x2) rfl 3 _ rfl
   have d4:wr.cell? ⟨g5,30,none⟩=some (.bool x2.h.g.en):=RowG.El.Lies.cells hL (i:=2) (x:=x2) rfl 4 _ rfl
   have d5:wr.cell? ⟨g5,31,none⟩=some (.bool x2.h.g.dn):=RowG.El.Lies.cells hL (i:=2) (x:=x2) rfl 5 _ rfl
   have HS:Hid (x2.h.g.bs=W.tx.extract x2.h.g.ba.toNat (x2.h.g.ba+x2.h.g.bs.size).toNat):=hg0
   have h5:=HTT.out
   clear hL HL HG HLL hg0 HTT
   generalize x2.h.g.ba=ba at *
   generalize x2.h.g.bs=bs at *
   generalize x2.h.g.cp=cp at *
   generalize x2.h.g.lm=lm at *
   generalize x2.h.g.en=en at *
   generalize x2.h.g.dn=dn at *
   obtain⟨r,rfl⟩: ∃r:Nat,ba=r:=⟨ba.toNat,by omega⟩
   have GC0:=(RowG.Var.new (T:=41) wr [.int .i64 (r:Int),.string bs,.int .i64 cp,.int .i64 lm,.bool en,.bool dn])
   have b9:=b8.alloc b8.size (.cells #[.int .i64 (r:Int),.string bs,.int .i64 cp,.int .i64 lm,.bool en,.bool dn] 41)
   have v10:=v9.later ((Below.refl wr.heap.size wr).alloc (Nat.le_refl _) (.cells #[.int .i64 (r:Int),.string bs,.int .i64 cp,.int .i64 lm,.bool en,.bool dn] 41))
   have vg:RowG.Var 41 (wr.alloc (.cells #[.int .i64 (r:Int),.string bs,.int .i64 cp,.int .i64 lm,.bool en,.bool dn] 41)) wr.heap.size [.int .i64 (r:Int),.string bs,.int .i64 cp,.int .i64 lm,.bool en,.bool dn]:=GC0
   clear GC0 v9
   have hS:W.tx.extract r (r+bs.size)=bs:=by
    have q:=HS.out
    rw [show((r:Nat):Int).toNat=r by omega,show((r:Int)+(bs.size:Int)).toNat=r+bs.size by omega]at q
    exact q.symm
   go_upto_region 15 with(fail)
   clear d0 d1 d2 d3 d4 d5 e0 HS
   generalize wr.alloc (.cells _ 41)=VG at *
   generalize wr.heap.size=kg at *
   have f0:=Draw.Later.cell (vg.cell (i:=0) rfl)
   have f1:=Draw.Later.cell (vg.cell (i:=1) rfl)
   have f2:=Draw.Later.cell (v10.cell (i:=2) rfl)
   have i0:(r:Int)+(bs.size:Int)≤(W.tx.size:Int):=hg2
   have i1:(r:Int)≤(r:Int)+(bs.size:Int):=by omega
   have i2:(0:Int)≤(r:Int):=by omega
   clear vg v10 hg1 hg2
   have h0:=hS
   go_wp2_with fail
   refine Draw.wp_region_later hmix (by kernel_rfl) ?_
   repeat (go_big_quiet_step (fail))
   refine wpQuiet_nil ?_
   intro _ hw'
   obtain⟨⟨wq,b10⟩,hw''⟩:=hw'
   subst hw''
   have hc:(bs.toList !=bs.toList)=false:=by simp
   try rw [hc]
   go_wp2_with fail
   go_roundw
   case rel=>exact⟨3,by omega,by go_num,b9.trans (b10.mono b9.size)⟩
   case measure=>simp [intOf]

/-! ### THE ROW's STEP: WRITTEN OUT: LEAVE IT -/
set_option maxRecDepth 100000 in
theorem lifted (os:Os)(started:os.Started)(H:Type)(enc:TypeId×Value→H):
  ReturnsInHanded {} Tryz.checked os 3 .any (Rows.fnLinkedSpec.pre6 enc Tryz.prog Tryz.f3 Rows.fnLinkedRow.domain false) (Rows.fnLinkedSpec.post enc Tryz.prog Tryz.f3 false true false false):=by
 refine returnsInHanded_of_change (C:=Tryz.checked) own started (by kernel_rfl) Tryz.func3
  (ChangeSpec.witness6 (enc:=enc) (C:=Tryz.checked) false ⟨#[],#[.slice none 0 0],[]⟩ 8 (by kernel_rfl) (by kernel_rfl) (by kernel_rfl) (by kernel_rfl)) ?_
 intro W base args ds gs before hval0 hW hcnd _
 have hval: ∀(j:Nat) t v,Tryz.f3.params[j]? =some t→args[j]? =some v→Value.okWide Tryz.prog W .any base t v:=hval0
 have hW':=hW
 obtain⟨p,q,hA0,hV,rfl,hfz,hnd⟩:=hW
 have hA:DataW.TrodAll enc Tryz.prog W 0 (fun _=>true) true Tryz.f3.params.toList args.toList ds p:=hA0
 rw [Tryz.params3]at hA hval
 obtain⟨v0,vs0,d0,ds0,p0,q0,hargs,rfl,rfl,h0,r0⟩:=trodAll_cons hA
 obtain⟨rfl,rfl,rfl⟩:=trodAll_nil r0
 obtain rfl:args= #[v0]:=by cases args;simp_all
 obtain⟨rfl,rfl⟩:=trodVars_none hV
 obtain⟨a0,len0,cap0,rfl⟩:=okWide_slice Tryz.underlying22 (hval 0 22 v0 rfl rfl)
 have k0:=h0
 have lt0: ∀x∈p0,x.block<W.heap.size:=by obtain⟨m,hm⟩:=k0;exact DataW.trod_lt m _ _ _ hm
 obtain⟨z0,w0⟩: ∃zs,IsRow .u8 W a0 len0 cap0 zs:=by
  obtain⟨fuel,hf⟩:=h0
  rcases open_ints Tryz.underlying22 Tryz.underlying5 (by kernel_rfl) hf with⟨hcs,_⟩|⟨x,l,c,zs,hcs,_,hl,hm,hz,_,hcell,hwz⟩
  ·simp [Value.cells]at hcs
   obtain⟨rfl,rfl,rfl⟩:=hcs
   exact⟨[],.inl ⟨rfl,rfl,rfl,rfl⟩⟩
  ·simp [Value.cells]at hcs
   obtain⟨rfl,rfl,rfl⟩:=hcs
   exact⟨zs,.inr ⟨_,rfl,hl,hm,by simpa using hz,hcell,hwz⟩⟩
 clear hA0 hval0
 refine(walk a0 len0 cap0 z0 W w0).mono fun e W' ⟨he,bel⟩=>?_
 subst he
 exact⟨_,rfl,_,_,_,[],_,[],hW',trodAll_mk1 (shut_bool Tryz.underlying4 _),(trodAll_cons_mk (Below.trod laidOut (by kernel_rfl) (of_decide_eq_true (by kernel_rfl)) k0 bel lt0) trodAll_mk0),rfl,bel.frame _,fun h=>by cases h⟩

theorem over:Rows.fnLinkedRow.holds Tryz.pinned (OpenSpec.ofChange Rows.fnLinkedSpec):=
 OpenClaim.holds_of_wide 3 Tryz.f3 rfl rfl rfl rfl rfl rfl rfl ⟨rfl,rfl,rfl,rfl,rfl⟩ rfl rfl rfl rfl rfl (by kernel_rfl) Tryz.func3 (by kernel_rfl)
  (of_decide_eq_true (by kernel_rfl)) (by unfold Func.isWrapper;first|(rw [if_pos (by decide +kernel)];kernel_rfl)|(rw [if_neg (by decide +kernel)];exact⟨rfl,rfl⟩))
  (fun os started H enc _=>lifted os started H enc)

theorem proved:Rows.FnLinkedSaid:=over
end Go.Proofs.YtfejobjgbadfjaaGreat.fnLinked
namespace Go.Proofs.YtfejobjgbadfjaaGreat
theorem fnLinked_holds:Rows.FnLinkedSaid:=fnLinked.proved
#print axioms fnLinked_holds
end Go.Proofs.YtfejobjgbadfjaaGreat
