/- Contracts of this seat's functions, and their mathematics (CouL PlaE PlaF). -/
import Derived.Test.YtfejobjgbadfjaaGreatK54
import Derived.Test.YtfejobjgbadfjaaGreatK52
import Derived.Test.YtfejobjgbadfjaaGreatK47
import Derived.Laws.OwnMore
set_option linter.unusedVariables false
set_option linter.unusedSimpArgs false
set_option maxRecDepth 10000
set_option maxHeartbeats 8000000
namespace Go.Proofs.YtfejobjgbadfjaaGreat.Cou
open Go.RowKit RowG Hop Lin Wor
theorem byte_sub {Y c:ByteArray}{a b k:Int}(h0:0≤a)(h1:a+c.size≤Y.size)(hb:b=a+c.size)(e:c=sub Y a b)(k0:0≤k)(k1:k<c.size):byteN c k=byteN Y (a+k):=by
 subst hb
 generalize hn:(c.size:Int)=n at *
 subst e
 rw [byteN,dif_pos (by omega),byteN,dif_pos (by omega)]
 congr 2
 simp only [sub,ByteArray.getElem_extract]
 congr 1
 omega
theorem road_yes {Y:ByteArray}{h:Hp}(H:HI Y h)(hg:0≤h.g.ba)(ht:0≤h.t.nx-h.t.bs.size):Cou.roadB h.g.ba h.g.bs (h.t.nx-h.t.bs.size) h.t.bs=true:=by
 have h1:=H.ba
 have h2:=H.ge
 have h3:=H.tk.nx
 have ha:alikeB h.g.ba h.g.bs (h.t.nx-h.t.bs.size) h.t.bs=true:=alike_yes fun i hi=>by
  rw [byte_sub hg (by omega) h2.symm H.gb (by omega) (by omega),byte_sub ht (by omega) (by omega) H.tk.bs (by omega) (by omega)]
  congr 1
  omega
 rw [Cou.roadB,ha,decide_eq_true (by omega),decide_eq_true (by omega)]
 rfl
theorem linked {W:Wd}(h:okW W=true)(I:Inv W):linkL W.hs W.rs=true:=by
 have hb:hopsB W.hs W.rs=true:=(ok_parts.1 h).1
 obtain⟨-,h2,-,-⟩:=hang h I
 have g0:=h2 0 (by decide)
 have g1:=h2 1 (by decide)
 have r: ∀i,i<3→Cou.roadB (W.at i).g.ba (W.at i).g.bs ((W.at i).t.nx-(W.at i).t.bs.size) (W.at i).t.bs=true:=fun i hi=>road_yes (I.h i hi) (giver_text h I hi).2.1 (by have:=nx_in (tok h hi);omega)
 have r0:=r 0 (by decide)
 have r1:=r 1 (by decide)
 have r2:=r 2 (by decide)
 clear r h2
 rw [linkL,hb,Bool.true_and]
 obtain⟨a,b,c,hw⟩:=three (len3 h)
 simp only [Wd.beg,Wd.at,hw,List.getD_cons_zero,List.getD_cons_succ]at g0 g1 r0 r1 r2
 rw [hw]
 refine link_yes fun j hj=>?_
 rcases(show j=0∨j=1∨j=2∨j=3∨j=4 by omega)with rfl|rfl|rfl|rfl|rfl
 ·exact r0
 ·show(a.t.nx-(a.t.bs.size:Int)==b.g.ba+b.g.bs.size)=true
  simp only [beq_iff_eq]
  omega
 ·exact r1
 ·show(b.t.nx-(b.t.bs.size:Int)==c.g.ba+c.g.bs.size)=true
  simp only [beq_iff_eq]
  omega
 ·exact r2
end Go.Proofs.YtfejobjgbadfjaaGreat.Cou
namespace Go.Proofs.YtfejobjgbadfjaaGreat.Wor
open Go.RowKit RowG Hop Roa Pum Lin
structure DP (c k:Nat)(w wr:World)(aH:Option Addr)(cH:Nat)(xs:List Ha)(aR:Option Addr)(cR:Nat)(rs:List Rd)(s:Str.Sm)(aL:Option Addr)(L:List Ac):Prop where
 v:Var 33 wr k (A7 aH xs.length cH aR rs.length cR s)
 vR:Var 33 wr w.heap.size Z7
 D:DL wr aH xs aR rs
 lo:DLo (w.heap.size+2) aH xs aR
 sz:s.tx.size≤2001
 cu:Draw.Cur wr c
 bel:Below w.heap.size w wr
 hc:c=w.heap.size+1
 hk:c<k
 al:actE.Lies wr aL L
 ab: ∀x,aL=some x→k<x.block
 tx: ∀a∈L,a.tx.size≤12
theorem DP.drawn {c k:Nat}{w wr wa:World}{aH:Option Addr}{cH:Nat}{xs:List Ha}{aR:Option Addr}{cR:Nat}{rs:List Rd}{s:Str.Sm}{aL:Option Addr}{L:List Ac}(q:DP c k w wr aH cH xs aR cR rs s aL L)(cu:Draw.Cur wa c)(ka:Draw.Kept c wr wa):DP c k w wa aH cH xs aR cR rs s aL L:=by
 have h1:=q.hk
 have h2:=q.hc
 refine⟨q.v.kept ka (by omega),q.vR.kept ka (by omega),q.D.kept ka (fun x hx=>?_) (fun x hx=>?_) (fun x hx=>⟨fun y hy=>?_,fun y hy=>?_⟩),q.lo,q.sz,cu,q.bel.trans (ka.below (by omega) q.bel.size),h2,h1,q.al.kept ka (fun x hx=>?_),q.ab,q.tx⟩
 ·have:=q.lo.h x hx;omega
 ·have:=q.lo.r x hx;omega
 ·have:=(q.lo.x x hx).1 y hy;omega
 ·have:=(q.lo.x x hx).2 y hy;omega
 ·have:=q.ab x hx;omega
theorem DP.acts {c k:Nat}{w wr:World}{aH:Option Addr}{cH:Nat}{xs:List Ha}{aR:Option Addr}{cR:Nat}{rs:List Rd}{s:Str.Sm}{aL:Option Addr}{L:List Ac}{aL':Option Addr}{L':List Ac}(q:DP c k w wr aH cH xs aR cR rs s aL L)(al:actE.Lies wr aL' L')(ab: ∀x,aL'=some x→k<x.block)(tx: ∀a∈L',a.tx.size≤12):DP c k w wr aH cH xs aR cR rs s aL' L':=⟨q.v,q.vR,q.D,q.lo,q.sz,q.cu,q.bel,q.hc,q.hk,al,ab,tx⟩
theorem DP.later {c k:Nat}{w wr wa:World}{aH:Option Addr}{cH:Nat}{xs:List Ha}{aR:Option Addr}{cR:Nat}{rs:List Rd}{s:Str.Sm}{aL:Option Addr}{L:List Ac}(q:DP c k w wr aH cH xs aR cR rs s aL L)(b:Below wr.heap.size wr wa):DP c k w wa aH cH xs aR cR rs s aL L:=q.drawn (q.cu.below b (Nat.le_refl _)) (Draw.Kept.ofBelow b (Nat.le_refl _))
theorem DP.store {c k:Nat}{w wr:World}{aH:Option Addr}{cH:Nat}{xs:List Ha}{aR:Option Addr}{cR:Nat}{rs:List Rd}{s:Str.Sm}{aL:Option Addr}{L:List Ac}{aH' aR':Option Addr}{cH' cR' B:Nat}{xs':List Ha}{rs':List Rd}{s':Str.Sm}(q:DP c k w wr aH cH xs aR cR rs s aL L)(D:DL wr aH' xs' aR' rs')(lo:DLo B aH' xs' aR')(hB:w.heap.size+2≤B)(hz:s'.tx.size≤2001):
  DP c k w (put7 wr k (.slice aH' xs'.length cH') (.slice aR' rs'.length cR') (.string s'.tx) (.int .i64 s'.rd) (.bool s'.en) (.bool s'.dn) (.bool s'.sn)) aH' cH' xs' aR' cR' rs' s' aL L:=by
 have ka:=kept7 wr k (.slice aH' xs'.length cH') (.slice aR' rs'.length cR') (.string s'.tx) (.int .i64 s'.rd) (.bool s'.en) (.bool s'.dn) (.bool s'.sn)
 have h1:=q.hk
 have h2:=q.hc
 refine⟨var7 q.v _ _ _ _ _ _ _,q.vR.kept ka (by omega),D.keptV q.v ntWorld ka,⟨fun x hx=>?_,fun x hx=>?_,fun y hy=>⟨fun x hx=>?_,fun x hx=>?_⟩⟩,hz,cur_put q.cu h1 ka,q.bel.trans (ka.below (by omega) q.bel.size),h2,h1,q.al.kept ka (fun x hx=>by have:=q.ab x hx;omega),q.ab,q.tx⟩
 ·have:=lo.h x hx;omega
 ·have:=lo.r x hx;omega
 ·have:=(lo.x y hy).1 x hx;omega
 ·have:=(lo.x y hy).2 x hx;omega
end Go.Proofs.YtfejobjgbadfjaaGreat.Wor
namespace Go.Proofs.YtfejobjgbadfjaaGreat.Wor
open Go.RowKit RowG Hop Roa Pum Lin
theorem made_gen {α:Type}(E:El α)(x:α)(z:Array Value)(hz:z.toList=E.enc x)(n:Nat):(madeCells z (n*E.size)).toList=E.vals (List.replicate n x):=by
 have hs:z.size=E.size:=by
  have:=E.len x
  rw [←hz]at this
  simpa using this
 apply List.ext_getElem?
 intro i
 by_cases hi:i<n*E.size
 ·have hp:=E.pos
  have h1:i / E.size<n:=Nat.div_lt_of_lt_mul (by rwa [Nat.mul_comm])
  have h2:i%E.size<z.size:=by rw [hs];exact Nat.mod_lt _ hp
  have hu:(E.enc x)[i%E.size]? =some z[i%E.size]:=by rw [←hz];simp [h2]
  have:=E.vals_at (List.replicate n x) (i / E.size) x (i%E.size) _ (by rw [List.getElem?_replicate,if_pos h1]) hu
  rw [Nat.div_add_mod']at this
  rw [this]
  simp [madeCells,hi,hs]
  rw [getElem!_pos z _ h2]
 ·rw [List.getElem?_eq_none (by simp [madeCells];omega),List.getElem?_eq_none (by rw [E.vals_len,List.length_replicate];omega)]
theorem act_made {w w1:World}{n:Nat}(h:w1.ownsRow w.heap.size 69 6 (.slice (some ⟨w.heap.size,0,none⟩) n n) n (madeCells #[.int .i64 0,.int .i64 0,.int .i64 0,.int .i64 0,.int .i64 0,.string ⟨#[]⟩] (n*6)).toList):actE.Own 69 w1 w.heap.size (some ⟨w.heap.size,0,none⟩) n (List.replicate n ⟨0,0,0,0,0,⟨#[]⟩⟩):=by
 unfold El.Own
 rw [←made_gen actE ⟨0,0,0,0,0,⟨#[]⟩⟩ #[.int .i64 0,.int .i64 0,.int .i64 0,.int .i64 0,.int .i64 0,.string ⟨#[]⟩] rfl n,List.length_replicate]
 exact h
theorem drawPlay (a:Option Addr)(len cap:Nat)(w:World)(hb:Draw.Bytes w a len)(hl:len≤4096):
  Calls Tryz.prog 8 #[.slice a len cap] w fun e w'=> ∃(aH aR:Option Addr) (cH cR:Nat) (xs:List Ha) (rs:List Rd) (s:Str.Sm) (aL:Option Addr) (capL:Nat) (L:List Ac),e=.returned (.tuple #[.agg (A7 aH xs.length cH aR rs.length cR s).toArray,.slice aL L.length capL])∧DL w' aH xs aR rs∧s.tx.size≤2001∧actE.Lies w' aL L∧L.length≤2000∧(∀a∈L,a.tx.size≤12)∧Below w.heap.size w w':=by
 have hmix:=Roa.mix
 have vR:Var 33 (w.alloc (.cells Z7.toArray 33)) w.heap.size Z7:=Var.new w _
 have b0:Below w.heap.size w (w.alloc (.cells Z7.toArray 33)):=(Below.refl _ _).alloc (Nat.le_refl _) _
 have hb0:=hb.below b0 (Nat.le_refl _)
 go_enter Tryz.func8,Tryz.ntmps8
 go_wp2_with fail
 refine(Draw.l1New a len cap _ hb0 hl).mono ?_
 rintro x w1 ⟨rfl,hh,hw1⟩
 have c1:Draw.Cur w1 (w.heap.size+1):=by rw [hw1];simpa using Draw.cur_new hb0 hl hh _
 have b1:Below (w.heap.size+1) (w.alloc (.cells Z7.toArray 33)) w1:=by rw [hw1];exact(Below.refl _ _).alloc (by simp) _
 have hs1:w.heap.size+2≤w1.heap.size:=c1.lt
 replace vR:=vR.later (b1.mono (by simp))
 replace b0:=b0.trans (b1.mono (by simp))
 clear b1 hw1 hb0 hb hl
 go_wp2_with fail
 refine(l16New _ _ c1).mono ?_
 rintro x w2 ⟨l,n,v,hcp,rfl,⟨g2,h2,xs2,a2,r2,rfl,A2⟩,cu2,k2⟩
 generalize newW l n=W at *
 clear hcp
 have hx3:=A2.len
 have hrl:=roads_len (hops_iff.1 (ok_parts.1 A2.ok).1).2.1
 have htx:=(stream_iff.1 (ok_parts.1 A2.ok).2).1
 have D:DP (w.heap.size+1) w2.heap.size w (w2.alloc (.cells #[.slice (some ⟨g2,0,none⟩) 3 h2,.slice a2 W.rs.length r2,.string W.tx,.int .i64 W.rd,.bool W.en,.bool W.dn,.bool W.sn] 33)) (some ⟨g2,0,none⟩) h2 xs2 a2 r2 W.rs W.sm none []:=by
  have hz1:=k2.size
  have LD:=LineLay.dl A2.L A2.R (by omega) (by omega) (fun x hx=>(sms_of A2.ok A2.hs x hx).1)
  have lo:=LineLay.lo (A2.L.mono hs1) (A2.R.mono hs1)
  refine⟨?_,(vR.kept k2 (by omega)).alloc _,LD.later ((Below.refl _ _).alloc (Nat.le_refl _) _),lo,by show W.tx.size≤2001;omega,cu2.alloc _,(b0.trans (k2.below (by omega) b0.size)).alloc (b0.trans (k2.below (by omega) b0.size)).size _,rfl,by omega,.inl rfl,(fun x hx=>by cases hx),(fun a ha=>by cases ha)⟩
  have q:=Var.new (T:=33) w2 (A7 (some ⟨g2,0,none⟩) 3 h2 a2 W.rs.length r2 W.sm)
  rw [hx3]
  exact q
 have A3:=A2.later ((Below.refl w2.heap.size w2).alloc (Nat.le_refl _) (.cells #[.slice (some ⟨g2,0,none⟩) 3 h2,.slice a2 W.rs.length r2,.string W.tx,.int .i64 W.rd,.bool W.en,.bool W.dn,.bool W.sn] 33))
 have hzk:w2.heap.size+1≤(w2.alloc (.cells #[.slice (some ⟨g2,0,none⟩) 3 h2,.slice a2 W.rs.length r2,.string W.tx,.int .i64 W.rd,.bool W.en,.bool W.dn,.bool W.sn] 33)).heap.size:=by simp
 clear vR c1 b0 k2 A2 hrl htx hs1
 go_upto_region 3 with(fail)
 generalize w2.alloc (.cells _ 33)=V at *
 generalize w2.heap.size=k at *
 have HX3:Hid (xs2.length=3):=hx3
 clear hx3 cu2
 have c0:=D.v.cell (i:=0) rfl
 rw [HX3.out]at c0
 have c1:=D.v.cell (i:=1) rfl
 have c2:=D.v.cell (i:=2) rfl
 have c3:=D.v.cell (i:=3) rfl
 have c4:=D.v.cell (i:=4) rfl
 have c5:=D.v.cell (i:=5) rfl
 have c6:=D.v.cell (i:=6) rfl
 dsimp only [Wd.sm]at c2 c3 c4 c5 c6
 go_wp2_with fail
 refine(l16DrawActs _ _ 70 (by decide) W a2 g2 h2 r2 xs2 _ A3 D.cu).mono ?_
 rintro x w3 ⟨gL,capL,L,rfl,hL1,hL2,oL,cu3,k3⟩
 have hgL:=(oL.lt _ rfl).1
 dsimp only at hgL
 replace D:=(D.drawn cu3 k3).acts oL.lies (fun x hx=>by cases hx;dsimp only;omega) hL2
 clear cu3 k3 A3 c0 c1 c2 c3 c4 c5 c6
 generalize W.sm=s at *
 generalize W.rs=rs at *
 have HL1:Hid (L.length≤1470):=by have:=hL1;show L.length≤1470;omega
 have HCap:Hid (L.length≤capL):=oL.cap
 clear hL1 hL2 oL hgL HX3 hzk
 go_upto_if 16 with(fail)
 go_cut [6]from 17 (fun v wr=> ∃(aL:Option Addr) (capL:Nat) (L:List Ac),v=.slice aL L.length capL∧L.length≤300∧DP (w.heap.size+1) k w wr (some ⟨g2,0,none⟩) h2 xs2 a2 r2 rs s aL L)
 case first=>
  by_cases h3:L.length≤300
  focus
   have i0: ¬(300:Int)<(L.length:Int):=by omega
   have H3:Hid (L.length≤300):=h3
   clear h3
   go_wp2_with fail
   go_meet
   exact⟨_,_,_,rfl,H3.out,D⟩
  focus
   have i0:(300:Int)<(L.length:Int):=by omega
   have i1:(300:Int)≤(capL:Int):=by have:=HCap.out;omega
   have H3:Hid (¬L.length≤300):=h3
   clear h3
   go_wp2_with fail
   go_meet
   refine⟨_,capL,L.take 300,?_,by rw [List.length_take];omega,D.acts (El.Lies.take D.al 300) D.ab (fun a ha=>D.tx a (List.mem_of_mem_take ha))⟩
   rw [List.length_take,Nat.min_eq_left (by have:=H3.out;omega)]
 case rest=>
 clear D HL1 HCap
 obtain⟨aL,capL,L,rfl,hL3,D⟩:=hcut
 have HL3:Hid (L.length≤300):=hL3
 clear hL3
 go_wp2_with fail
 refine(Draw.l1Once _ _ _ D.cu).mono ?_
 rintro e w4 ⟨b,rfl,cu4,k4⟩
 replace D:=D.drawn cu4 k4
 clear cu4 k4
 go_upto_if 20 with(fail)
 generalize (some ⟨g2,0,none⟩:Option Addr)=aH2 at *
 go_cut []from 21 (fun wr=> ∃aH cH xs aR cR rs s,DP (w.heap.size+1) k w wr aH cH xs aR cR rs s aL L)
 case first=>
  cases b
  case false=>
   go_wp2_with fail
   go_meet
   exact⟨_,_,_,_,_,_,_,D⟩
  case true=>
   go_wp2_with fail
   refine(l16DrawAny _ _ D.cu).mono ?_
   rintro e w5 ⟨aH',aR',cH',cR',xs',rs',s',rfl,D',lo',sz',cu5,k5⟩
   have hz3:=D.cu.lt
   replace D:=D.drawn cu5 k5
   clear cu5 k5
   obtain⟨c0,c1,c2,c3,c4,c5,c6⟩:=D.v.c7
   have f0:=D.v.free 0
   have f1:=D.v.free 1
   have f2:=D.v.free 2
   have f3:=D.v.free 3
   have f4:=D.v.free 4
   have f5:=D.v.free 5
   have f6:=D.v.free 6
   have D2:=D.store (cH':=cH') (cR':=cR') D' lo' (by omega) sz'
   clear D D' lo' sz'
   go_wp2_with fail
   go_meet
   exact⟨_,_,_,_,_,_,_,D2⟩
 case rest=>
 clear D
 obtain⟨aH,cH,xs,aR,cR,rs,s,D⟩:=hcut
 go_wp2_with fail
 refine(Draw.l1Once _ _ _ D.cu).mono ?_
 rintro e w6 ⟨b,rfl,cu6,k6⟩
 replace D:=D.drawn cu6 k6
 clear cu6 k6
 go_upto_if 24 with(fail)
 go_cut [6]from 25 (fun v wr=> ∃(aL:Option Addr) (capL:Nat) (L:List Ac),v=.slice aL L.length capL∧L.length≤301∧DP (w.heap.size+1) k w wr aH cH xs aR cR rs s aL L)
 case first=>
  cases b
  case false=>
   go_wp2_with fail
   go_meet
   exact⟨_,_,_,rfl,by have:=HL3.out;omega,D⟩
  case true=>
   go_wp2_with fail
   refine(Draw.l1Below _ _ _ D.cu).mono ?_
   rintro e w7 ⟨y,y0,y1,rfl,cu7,k7⟩
   replace D:=D.drawn cu7 k7
   clear cu7 k7
   obtain⟨i,hi,hz0,hz1,hz2⟩:=info_parts infoAct
   have y2:y=0∨y=1:=by omega
   clear y0 y1
   rcases y2 with rfl|rfl
   focus
    have hby:i.bytes*300≤281474976710656:=by rw [hz2];decide
    have hmx:300≤maxLen:=by unfold maxLen;decide
    go_wp2_with (at_make;refine wpList_make_full _ (by rfl) _ _ 34 (by rfl) w7.heap.size 69 i (.agg #[.int .i64 0,.int .i64 0,.int .i64 0,.int .i64 0,.int .i64 0,.string ⟨#[]⟩]) 6 Tryz.underlying34 hi hz0 hz1 .i64 .i64 _ _ 300 (by rfl) (by rfl) rfl rfl hby hmx (Nat.le_refl _) ?_;intro w8 hown hgrow)
    have o8:=act_made hown
    have b8:Below w7.heap.size w7 w8:=(Below.refl _ _).grown hgrow (Nat.le_refl _) (fun _ h=>by cases h)
    have hk8:=D.v.lt
    replace D:=(D.later b8).acts o8.lies (fun x hx=>by cases hx;exact hk8) (fun a ha=>by rw [List.eq_of_mem_replicate ha];exact Nat.zero_le _)
    clear hown hgrow b8 o8 hk8 hby hmx hi hz0 hz1 hz2
    go_wp2_with fail
    go_meet
    exact⟨_,_,List.replicate 300 ⟨0,0,0,0,0,⟨#[]⟩⟩,by rw [List.length_replicate],by rw [List.length_replicate];decide,D⟩
   focus
    have hby:i.bytes*301≤281474976710656:=by rw [hz2];decide
    have hmx:301≤maxLen:=by unfold maxLen;decide
    go_wp2_with (at_make;refine wpList_make_full _ (by rfl) _ _ 34 (by rfl) w7.heap.size 69 i (.agg #[.int .i64 0,.int .i64 0,.int .i64 0,.int .i64 0,.int .i64 0,.string ⟨#[]⟩]) 6 Tryz.underlying34 hi hz0 hz1 .i64 .i64 _ _ 301 (by rfl) (by rfl) rfl rfl hby hmx (Nat.le_refl _) ?_;intro w8 hown hgrow)
    have o8:=act_made hown
    have b8:Below w7.heap.size w7 w8:=(Below.refl _ _).grown hgrow (Nat.le_refl _) (fun _ h=>by cases h)
    have hk8:=D.v.lt
    replace D:=(D.later b8).acts o8.lies (fun x hx=>by cases hx;exact hk8) (fun a ha=>by rw [List.eq_of_mem_replicate ha];exact Nat.zero_le _)
    clear hown hgrow b8 o8 hk8 hby hmx hi hz0 hz1 hz2
    go_wp2_with fail
    go_meet
    exact⟨_,_,List.replicate 301 ⟨0,0,0,0,0,⟨#[]⟩⟩,by rw [List.length_replicate],by rw [List.length_replicate];decide,D⟩
 case rest=>
 clear D
 obtain⟨aL,capL,L,rfl,hL4,D⟩:=hcut
 obtain⟨c0,c1,c2,c3,c4,c5,c6⟩:=D.v.c7
 have d0:=D.vR.cell (i:=0) rfl
 have d1:=D.vR.cell (i:=1) rfl
 have d2:=D.vR.cell (i:=2) rfl
 have d3:=D.vR.cell (i:=3) rfl
 have d4:=D.vR.cell (i:=4) rfl
 have d5:=D.vR.cell (i:=5) rfl
 have d6:=D.vR.cell (i:=6) rfl
 have y0:=D.vR.free 0
 have y1:=D.vR.free 1
 have y2:=D.vR.free 2
 have y3:=D.vR.free 3
 have y4:=D.vR.free 4
 have y5:=D.vR.free 5
 have y6:=D.vR.free 6
 go_wp2_with fail
 clear c0 c1 c2 c3 c4 c5 c6 d0 d1 d2 d3 d4 d5 d6 y0 y1 y2 y3 y4 y5 y6
 have hk:=D.hk
 have hc':=D.hc
 have ka:=kept7 wc w.heap.size (.slice aH xs.length cH) (.slice aR rs.length cR) (.string s.tx) (.int .i64 s.rd) (.bool s.en) (.bool s.dn) (.bool s.sn)
 have vv:=var7 D.vR (.slice aH xs.length cH) (.slice aR rs.length cR) (.string s.tx) (.int .i64 s.rd) (.bool s.en) (.bool s.dn) (.bool s.sn)
 have D6:=D.D.keptV D.vR ntWorld ka
 have b6:=D.bel.trans (ka.below (Nat.le_refl _) D.bel.size)
 have al6:=D.al.kept ka (fun x hx=>by have:=D.ab x hx;omega)
 have tx6:=D.tx
 have sz6:=D.sz
 clear D ka
 simp only [put7]at vv D6 b6 al6
 generalize World.setCell _ ⟨w.heap.size,6,none⟩ (.bool s.sn)=WZ at *
 obtain⟨c0,c1,c2,c3,c4,c5,c6⟩:=vv.c7
 refine bodyPost_ret (v:=.tuple #[.agg (A7 aH xs.length cH aR rs.length cR s).toArray,.slice aL L.length capL]) (by rw [Tak.res_cell_tmp rfl];go_simp) rfl ⟨aH,aR,cH,cR,xs,rs,s,aL,capL,L,rfl,D6,sz6,al6,by omega,tx6,b6⟩
end Go.Proofs.YtfejobjgbadfjaaGreat.Wor
