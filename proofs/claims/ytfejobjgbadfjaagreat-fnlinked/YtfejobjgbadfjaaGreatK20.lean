/- Contracts of this seat's functions, and their mathematics (WorE). -/
import Derived.Test.YtfejobjgbadfjaaGreatK19
import Derived.Test.YtfejobjgbadfjaaGreatK17
set_option linter.unusedVariables false
set_option linter.unusedSimpArgs false
set_option maxRecDepth 10000
set_option maxHeartbeats 8000000
namespace Go.Proofs.YtfejobjgbadfjaaGreat.Wor
open Go.RowKit RowG Hop Roa Pum Lin
theorem send_t (h:Hp)(r p n:Int):(sendH h r p n).1.t=h.t:=by
 unfold sendH
 split
 ·unfold postH
  split <;>rfl
 ·rfl
theorem own_varS2 {w:World}{B g c kA:Nat}{xs:List Ha}{vs:List Value}(o:hopE.Own 47 w B (some ⟨g,0,none⟩) c xs)(v:Var 69 w kA vs):kA≠g:=by
 intro e
 obtain⟨cs,h1⟩:=own_row o ⟨g,0,none⟩ rfl
 have h2:w.heap[kA]? =_:=v
 rw [e]at h2
 simp only at h1
 rw [h1]at h2
 injection h2 with h2
 injection h2 with _ h3 _
 exact absurd h3 (by decide)
theorem own_varS3 {w:World}{B c kA:Nat}{a:Option Addr}{l:List Lt}{vs:List Value}(o:letE.Own 75 w B a c l)(v:Var 69 w kA vs):some kA≠blk a:=by
 intro e
 cases a with
 | none=>simp [blk]at e
 | some q=>
  obtain⟨cs,h1⟩:=own_row o q rfl
  have h2:w.heap[kA]? =_:=v
  simp only [blk,Option.map_some,Option.some.injEq]at e
  rw [e]at h2
  rw [h1]at h2
  injection h2 with h2
  injection h2 with _ h3 _
  exact absurd h3 (by decide)
theorem hopSend {T:TypeId}{pre post:List Value}{ow:Nat}(hTa:T≠69)(k B:Nat)(W:Wd)(ro pl n:Int)(tx:ByteArray)(i:Nat)(hi:i<3)(w:World){g:Nat}(lay:WLay T pre post ow w B k g W)(hB:B≤w.heap.size)(hkB:NT T)(ok:okW W=true):
  Calls Tryz.prog 66 #[.pointer (some ⟨k,ow,none⟩),(⟨3,(i:Int),ro,pl,n,tx⟩:Ac).v] w fun x w'=>x=.returned (.bool (hopW W ⟨3,(i:Int),ro,pl,n,tx⟩ i).2)∧WLay T pre post ow w' B k g (hopW W ⟨3,(i:Int),ro,pl,n,tx⟩ i).1∧Fr B g w w':=by
 obtain⟨cH,xs,aR,cR,A⟩:=lay
 have hmix:=Tak.mix
 obtain⟨okh,oks⟩:=ok_parts.1 ok
 obtain⟨ya,hx,hxh⟩:=A.hop okh hi
 have hrl:W.rs.length≤2097152:=by have:=(hops_iff.1 okh).2.1;simp only [roadsB,Bool.and_eq_true,decide_eq_true_eq]at this;omega
 obtain⟨hxo,hxr⟩:=at_ok okh hi
 rw [←hxh]at hxo hxr
 obtain⟨hw30,hgo,hto,hlo⟩:=hop_ok hxo
 have HXH:Hid (ya.h=W.at i):=hxh
 clear hxh
 have hIn: ∀w',Calls Tryz.prog 57 #[.int .i64 (i:Int),.int .i64 0,.int .i64 2] w' fun x w''=>x=.returned (.bool true)∧w'=w'':=fun w'=>Tak.l1InEq (decide_eq_true ⟨by omega,by omega⟩) w'
 have bW:=(Below.refl w.heap.size w).alloc (Nat.le_refl _) (.cells #[.int .i64 3,.int .i64 (i:Int),.int .i64 ro,.int .i64 pl,.int .i64 n,.string tx] 69)
 have v0:Var 69 (w.alloc (.cells #[.int .i64 3,.int .i64 (i:Int),.int .i64 ro,.int .i64 pl,.int .i64 n,.string tx] 69)) w.heap.size [.int .i64 3,.int .i64 (i:Int),.int .i64 ro,.int .i64 pl,.int .i64 n,.string tx]:=Var.new w _
 replace A:=A.later bW
 have e0:=A.v.cell0 rfl
 have e1:=A.v.cell (i:=1) rfl
 have d0:=v0.cell (i:=0) rfl
 have d1:=v0.cell (i:=1) rfl
 have d2:=v0.cell (i:=2) rfl
 have d3:=v0.cell (i:=3) rfl
 have d4:=v0.cell (i:=4) rfl
 have i0:(0:Int)≤(i:Int):=by omega
 have i1:(i:Int)<3:=by omega
 have HIN:Hid _:=hIn
 clear hIn
 go_enter Tryz.func66,Tryz.ntmps66
 go_upto_region 1 with(fail)
 generalize w.alloc (.cells #[.int .i64 3,.int .i64 (i:Int),.int .i64 ro,.int .i64 pl,.int .i64 n,.string tx] 69)=V at *
 go_wp2_with fail
 refine(HIN.out _).mono ?_
 rintro e w1 ⟨rfl,rfl⟩
 clear HIN
 go_wp2_with fail
 have le0:=Draw.Later.cell e0
 have l1:=Draw.Later.cell d1
 refine Draw.wp_region_later hmix (by kernel_rfl) ?_
 repeat (go_big_quiet_step (fail))
 refine wpQuiet_nil ?_
 intro wq hw'
 obtain⟨q9,hq9⟩:=hw'
 have hBq:=q9.h
 rw [←hq9]at hBq
 clear hq9 q9 le0 l1 e0 e1 d0 d1 d2 d3 d4
 replace bW:=bW.trans (hBq.mono bW.size)
 replace A:=A.later hBq
 replace v0:=v0.later hBq
 clear hBq
 have e0:=A.v.cell0 rfl
 have e1:=A.v.cell (i:=1) rfl
 have d0:=v0.cell (i:=0) rfl
 have d1:=v0.cell (i:=1) rfl
 have d2:=v0.cell (i:=2) rfl
 have d3:=v0.cell (i:=3) rfl
 have d4:=v0.cell (i:=4) rfl
 have HS:Hid (w.heap.size<wq.heap.size):=v0.lt
 go_wp2_with fail
 obtain⟨kA,hkA⟩: ∃kA,w.heap.size=kA:=⟨_,rfl⟩
 rw [hkA]at v0 d0 d1 d2 d3 d4 HS ⊢
 cases ho:openB W.rs (i:Int) ro
 ·have le0:=Draw.Later.cell e0
  have le1:=Draw.Later.cell e1
  have l1:=Draw.Later.cell d1
  have l2:=Draw.Later.cell d2
  have l3:=Draw.Later.cell d3
  have l4:=Draw.Later.cell d4
  have HO:Hid (∀p:Draw.Later wq,Calls Tryz.prog 85 #[.agg #[.slice (some ⟨g,0,none⟩) 3 cH,.slice aR W.rs.length cR],.int .i64 (i:Int),.int .i64 ro] p.v fun x w'=>x=.returned (.bool false)∧Below p.v.heap.size p.v w'):=fun p=>by
   have:=l16Open (some ⟨g,0,none⟩) 3 cH aR cR W.rs (i:Int) ro p.v (A.R.later p.h).lies hrl
   rw [ho]at this
   exact this
  refine Draw.wp_region_later hmix (by kernel_rfl) ?_
  repeat (go_big_quiet_step ((go_at_call 85;exact Draw.later_of (HO.out _))))
  refine wpQuiet_nil ?_
  intro wr hw'
  obtain⟨q9,hq9⟩:=hw'
  have hBq:=q9.h
  rw [←hq9]at hBq
  clear hq9 q9
  replace bW:=bW.trans (hBq.mono bW.size)
  replace A:=A.later hBq
  clear hBq le0 le1 l1 l2 l3 l4 e0 e1 d0 d1 d2 d3 d4 HO v0
  have hR:Hid (hopW W ⟨3,(i:Int),ro,pl,n,tx⟩ i=(W,false)):=by show _=_;simp [hopW,ho]
  go_wp2_with fail
  go_ret
  exact⟨by rw [hR.out];rfl,by rw [hR.out];exact⟨cH,xs,aR,cR,A⟩,Fr.ofB bW hB⟩
 ·have hR2:Hid (hopW W ⟨3,(i:Int),ro,pl,n,tx⟩ i=(W.put i (sendH (W.at i) ro pl n).1,(sendH (W.at i) ro pl n).2)):=by show _=_;simp [hopW,ho]
  obtain⟨R,hR⟩: ∃R,(sendH ya.h ro pl n).2=R:=⟨_,rfl⟩
  have hRW:Hid ((sendH (W.at i) ro pl n).2=R):=by show _=_;rw [←HXH.out];exact hR
  have keepG: ∀(j:Nat) (d:Nat→Bool) (w1 w':World),(fun d w'=>Win T pre post ow w' k [.slice (some ⟨g,0,none⟩) 3 cH,.slice aR W.rs.length cR,.string W.tx,.int .i64 W.rd,.bool W.en,.bool W.dn,.bool W.sn]∧Var 69 w' kA [.int .i64 3,.int .i64 (i:Int),.int .i64 ro,.int .i64 pl,.int .i64 n,.string tx]∧Roa.E.Own 95 w' B aR cR W.rs∧(d 17=false→WAt T pre post ow w' B k g cH xs aR cR W∧Below w.heap.size w w')∧(d 17=true→WLay T pre post ow w' B k g (W.put i (sendH (W.at i) ro pl n).1)∧Fr B g w w')) d w1→j≠17→Below w1.heap.size w1 w'→(fun d w'=>Win T pre post ow w' k [.slice (some ⟨g,0,none⟩) 3 cH,.slice aR W.rs.length cR,.string W.tx,.int .i64 W.rd,.bool W.en,.bool W.dn,.bool W.sn]∧Var 69 w' kA [.int .i64 3,.int .i64 (i:Int),.int .i64 ro,.int .i64 pl,.int .i64 n,.string tx]∧Roa.E.Own 95 w' B aR cR W.rs∧(d 17=false→WAt T pre post ow w' B k g cH xs aR cR W∧Below w.heap.size w w')∧(d 17=true→WLay T pre post ow w' B k g (W.put i (sendH (W.at i) ro pl n).1)∧Fr B g w w')) (fun q=>q==j||d q) w':=fun j d w1 w' hW hj hb=>by
   have ez:((17:Nat)==j)=false:=beq_eq_false_iff_ne.2 (Ne.symm hj)
   simp only [ez,Bool.false_or]
   obtain⟨u0,u1,u2,u3,u4⟩:=hW
   refine⟨u0.later hb,u1.later hb,u2.later hb,fun hd=>⟨(u3 hd).1.later hb,(u3 hd).2.trans (hb.mono (u3 hd).2.size)⟩,fun hd=>?_⟩
   obtain⟨⟨c2,x2,a2,r2,A2⟩,b2⟩:=u4 hd
   exact⟨⟨c2,x2,a2,r2,A2.later hb⟩,b2.later hb (Nat.le_trans hB b2.size)⟩
  have keepW: ∀(j:Nat) (d:Nat→Bool) (w1:World),(fun d w'=>Win T pre post ow w' k [.slice (some ⟨g,0,none⟩) 3 cH,.slice aR W.rs.length cR,.string W.tx,.int .i64 W.rd,.bool W.en,.bool W.dn,.bool W.sn]∧Var 69 w' kA [.int .i64 3,.int .i64 (i:Int),.int .i64 ro,.int .i64 pl,.int .i64 n,.string tx]∧Roa.E.Own 95 w' B aR cR W.rs∧(d 17=false→WAt T pre post ow w' B k g cH xs aR cR W∧Below w.heap.size w w')∧(d 17=true→WLay T pre post ow w' B k g (W.put i (sendH (W.at i) ro pl n).1)∧Fr B g w w')) d w1→j≠17→(fun d w'=>Win T pre post ow w' k [.slice (some ⟨g,0,none⟩) 3 cH,.slice aR W.rs.length cR,.string W.tx,.int .i64 W.rd,.bool W.en,.bool W.dn,.bool W.sn]∧Var 69 w' kA [.int .i64 3,.int .i64 (i:Int),.int .i64 ro,.int .i64 pl,.int .i64 n,.string tx]∧Roa.E.Own 95 w' B aR cR W.rs∧(d 17=false→WAt T pre post ow w' B k g cH xs aR cR W∧Below w.heap.size w w')∧(d 17=true→WLay T pre post ow w' B k g (W.put i (sendH (W.at i) ro pl n).1)∧Fr B g w w')) (fun q=>q==j||d q) w1:=fun j d w1 hW hj=>keepG j d w1 w1 hW hj (Below.refl _ _)
  refine RegJ.wp_region_J (W:=(fun d w'=>Win T pre post ow w' k [.slice (some ⟨g,0,none⟩) 3 cH,.slice aR W.rs.length cR,.string W.tx,.int .i64 W.rd,.bool W.en,.bool W.dn,.bool W.sn]∧Var 69 w' kA [.int .i64 3,.int .i64 (i:Int),.int .i64 ro,.int .i64 pl,.int .i64 n,.string tx]∧Roa.E.Own 95 w' B aR cR W.rs∧(d 17=false→WAt T pre post ow w' B k g cH xs aR cR W∧Below w.heap.size w w')∧(d 17=true→WLay T pre post ow w' B k g (W.put i (sendH (W.at i) ro pl n).1)∧Fr B g w w'))) (RegJ.Val [some (.pointer (some ⟨k,ow,none⟩)),some (.pointer (some ⟨k,ow,none⟩)),some (.pointer (some ⟨k,ow,none⟩)),some (.agg #[.slice (some ⟨g,0,none⟩) 3 cH,.slice aR W.rs.length cR]),some (.pointer (some ⟨kA,1,none⟩)),some (.int .i64 (i:Int)),some (.pointer (some ⟨kA,2,none⟩)),some (.int .i64 ro),some (.bool true),some (.bool true),some (.pointer (some ⟨g,i*13,none⟩)),some (.pointer (some ⟨kA,2,none⟩)),some (.int .i64 ro),some (.pointer (some ⟨kA,3,none⟩)),some (.int .i64 pl),some (.pointer (some ⟨kA,4,none⟩)),some (.int .i64 n),some (.bool R),some (.bool R),some (.bool R)]) [some 27,some 28,some 29,some 30,some 31,some 32,some 33,some 34,some 35,some 36,some 37,some 38,some 39,some 40,some 41,some 42,some 43,some 44,some 45,some 4] (F:=?_) (is:=[0,1,2,3,4,5,6,7,8,9,10,11,12,13,14,15,16,17,18,19]) hmix (by kernel_rfl) (by kernel_rfl) (by kernel_rfl) (by kernel_rfl) (fun x=>?_) (⟨A.v.drew,v0.drew,A.R.drew,fun _=>⟨⟨A.v.drew,A.L.drew,A.hs,A.R.drew⟩,bW.drew⟩,fun hd=>(by cases hd)⟩) ?_ (fun dR xR wR hWR hdR hJR=>?_)
  rotate_left 1
  focus (simp only [RegJ.lay,Act.put,Nat.reduceAdd,Nat.zero_add,Draw.lays];rfl)
  focus
   iterate 20 (refine RegJ.Steps.cons (RegJ.StepAt.mk rfl (fun d x w1 hW1 hJ1 hx1 K hK=>?_)) ?_;simp only [Draw.lays]at hK;rotate_left 1)
   exact RegJ.Steps.nil
   ·go_simp;exact hK.out _ _ (keepW 0 d _ hW1 (by decide)) RegJ.Val.keep (RegJ.Val.this (Or.inl rfl))
   ·have j0:x 0=_:=(hJ1.out 0 (by kernel_rfl)).2 _ rfl;rw [j0]at hK;go_simp;exact hK.out _ _ (keepW 1 d _ hW1 (by decide)) RegJ.Val.keep (RegJ.Val.this (Or.inl rfl))
   ·have j1:x 1=_:=(hJ1.out 1 (by kernel_rfl)).2 _ rfl;rw [j1]at hK;go_simp;exact hK.out _ _ (keepW 2 d _ hW1 (by decide)) RegJ.Val.keep (RegJ.Val.this (Or.inl rfl))
   ·obtain⟨u0,u1,u2,u3,u4⟩:=id hW1;have c0:=u0.cell0 rfl;have c1:=u0.cell (i:=1) rfl;have j2:x 2=_:=(hJ1.out 2 (by kernel_rfl)).2 _ rfl;rw [j2]at hK;go_simp;exact hK.out _ _ (keepW 3 d _ hW1 (by decide)) RegJ.Val.keep (RegJ.Val.this (Or.inl rfl))
   ·go_simp;exact hK.out _ _ (keepW 4 d _ hW1 (by decide)) RegJ.Val.keep (RegJ.Val.this (Or.inl rfl))
   ·obtain⟨u0,u1,u2,u3,u4⟩:=id hW1;have c:=u1.cell (i:=1) rfl;have j4:x 4=_:=(hJ1.out 4 (by kernel_rfl)).2 _ rfl;rw [j4]at hK;go_simp;exact hK.out _ _ (keepW 5 d _ hW1 (by decide)) RegJ.Val.keep (RegJ.Val.this (Or.inl rfl))
   ·go_simp;exact hK.out _ _ (keepW 6 d _ hW1 (by decide)) RegJ.Val.keep (RegJ.Val.this (Or.inl rfl))
   ·obtain⟨u0,u1,u2,u3,u4⟩:=id hW1;have c:=u1.cell (i:=2) rfl;have j6:x 6=_:=(hJ1.out 6 (by kernel_rfl)).2 _ rfl;rw [j6]at hK;go_simp;exact hK.out _ _ (keepW 7 d _ hW1 (by decide)) RegJ.Val.keep (RegJ.Val.this (Or.inl rfl))
   ·obtain⟨u0,u1,u2,u3,u4⟩:=id hW1;have j3:x 3=_:=(hJ1.out 3 (by kernel_rfl)).2 _ rfl;rw [j3]at hK;have j5:x 5=_:=(hJ1.out 5 (by kernel_rfl)).2 _ rfl;rw [j5]at hK;have j7:x 7=_:=(hJ1.out 7 (by kernel_rfl)).2 _ rfl;rw [j7]at hK;have hop:=l16Open (some ⟨g,0,none⟩) 3 cH aR cR W.rs (i:Int) ro w1 u2.lies hrl;rw [ho]at hop;go_simp;refine hop.mono ?_;rintro e wa ⟨rfl,ba⟩;go_simp;exact hK.out _ _ (keepG 8 d _ _ hW1 (by decide) ba) RegJ.Val.keep (RegJ.Val.this (Or.inl rfl))
   ·have j8:x 8=_:=(hJ1.out 8 (by kernel_rfl)).2 _ rfl;rw [j8]at hK;go_simp;exact hK.out _ _ (keepW 9 d _ hW1 (by decide)) RegJ.Val.keep (RegJ.Val.this (Or.inl rfl))
   ·have j9:x 9=_:=(hJ1.out 9 (by kernel_rfl)).2 _ rfl;rw [j9]at hK;go_simp;exact hK.out _ _ (keepW 10 d _ hW1 (by decide)) RegJ.Val.keep (RegJ.Val.this (Or.inl rfl))
   ·have j9:x 9=_:=(hJ1.out 9 (by kernel_rfl)).2 _ rfl;rw [j9]at hK;go_simp;exact hK.out _ _ (keepW 11 d _ hW1 (by decide)) RegJ.Val.keep (RegJ.Val.this (Or.inl rfl))
   ·obtain⟨u0,u1,u2,u3,u4⟩:=id hW1;have c:=u1.cell (i:=2) rfl;have j11:x 11=_:=(hJ1.out 11 (by kernel_rfl)).2 _ rfl;rw [j11]at hK;have j9:x 9=_:=(hJ1.out 9 (by kernel_rfl)).2 _ rfl;rw [j9]at hK;go_simp;exact hK.out _ _ (keepW 12 d _ hW1 (by decide)) RegJ.Val.keep (RegJ.Val.this (Or.inl rfl))
   ·have j9:x 9=_:=(hJ1.out 9 (by kernel_rfl)).2 _ rfl;rw [j9]at hK;go_simp;exact hK.out _ _ (keepW 13 d _ hW1 (by decide)) RegJ.Val.keep (RegJ.Val.this (Or.inl rfl))
   ·obtain⟨u0,u1,u2,u3,u4⟩:=id hW1;have c:=u1.cell (i:=3) rfl;have j13:x 13=_:=(hJ1.out 13 (by kernel_rfl)).2 _ rfl;rw [j13]at hK;have j9:x 9=_:=(hJ1.out 9 (by kernel_rfl)).2 _ rfl;rw [j9]at hK;go_simp;exact hK.out _ _ (keepW 14 d _ hW1 (by decide)) RegJ.Val.keep (RegJ.Val.this (Or.inl rfl))
   ·have j9:x 9=_:=(hJ1.out 9 (by kernel_rfl)).2 _ rfl;rw [j9]at hK;go_simp;exact hK.out _ _ (keepW 15 d _ hW1 (by decide)) RegJ.Val.keep (RegJ.Val.this (Or.inl rfl))
   ·obtain⟨u0,u1,u2,u3,u4⟩:=id hW1;have c:=u1.cell (i:=4) rfl;have j15:x 15=_:=(hJ1.out 15 (by kernel_rfl)).2 _ rfl;rw [j15]at hK;have j9:x 9=_:=(hJ1.out 9 (by kernel_rfl)).2 _ rfl;rw [j9]at hK;go_simp;exact hK.out _ _ (keepW 16 d _ hW1 (by decide)) RegJ.Val.keep (RegJ.Val.this (Or.inl rfl))
   ·obtain⟨u0,u1,u2,u3,u4⟩:=id hW1;have hd17:Hid _:=(hx1.out 17 (.inl rfl)).1;obtain⟨A1,b1⟩:=u3 hd17.out;have j9:x 9=_:=(hJ1.out 9 (by kernel_rfl)).2 _ rfl;rw [j9]at hK;have j10:x 10=_:=(hJ1.out 10 (by kernel_rfl)).2 _ rfl;rw [j10]at hK;have j12:x 12=_:=(hJ1.out 12 (by kernel_rfl)).2 _ rfl;rw [j12]at hK;have j14:x 14=_:=(hJ1.out 14 (by kernel_rfl)).2 _ rfl;rw [j14]at hK;have j16:x 16=_:=(hJ1.out 16 (by kernel_rfl)).2 _ rfl;rw [j16]at hK;obtain⟨pr,po,vx,rx,back⟩:=A1.L.step hx;have hBw:B≤w1.heap.size:=Nat.le_trans hB b1.size;have hgA:kA≠g:=(own_varS2 A1.L.row u1);have hwA:some kA≠blk ya.aW:=(own_varS3 rx.l u1);have hlb:Hid _:=back;clear back;go_simp;refine(l7SendL (by decide) g B ya.h ya.aT ya.cT ya.aW ya.cW ro pl n w1 vx rx.l hBw (by omega) hgo).mono ?_;rintro e wa ⟨aW',cW',rfl,va,oa,ka,la⟩;have L':=hlb.out wa ⟨(sendH ya.h ro pl n).1,ya.aT,ya.cT,aW',cW'⟩ va ⟨by rw [show(sendH ya.h ro pl n).1.t=ya.h.t from send_t _ _ _ _];exact rx.p.keep ka (own_win (by decide) rx.p vx) (own_two (by decide) rx.p rx.l),oa⟩ ka la;obtain⟨A2,b2⟩:=A1.turn hkB hx L' ka hBw;have hv2:=A2.v;have hu1:Var 69 wa kA [.int .i64 3,.int .i64 (i:Int),.int .i64 ro,.int .i64 pl,.int .i64 n,.string tx]:=u1.same (ka.block kA u1.lt hgA hwA);have hWL:WLay T pre post ow wa B k g (W.put i (sendH (W.at i) ro pl n).1):=(by rw [←HXH.out];exact⟨cH,_,aR,cR,A2⟩);rw [hR];go_simp;exact hK.out _ _ ⟨hv2,hu1,A2.R,fun hd=>absurd hd (by simp),fun _=>⟨hWL,(Fr.ofB b1 hB).trans b2⟩⟩ RegJ.Val.keep (RegJ.Val.this (Or.inl rfl))
   ·have j9:x 9=_:=(hJ1.out 9 (by kernel_rfl)).2 _ rfl;rw [j9]at hK;have j17:x 17=_:=(hJ1.out 17 (by kernel_rfl)).2 _ rfl;rw [j17]at hK;go_simp;exact hK.out _ _ (keepW 18 d _ hW1 (by decide)) RegJ.Val.keep (RegJ.Val.this (Or.inl rfl))
   ·have j18:x 18=_:=(hJ1.out 18 (by kernel_rfl)).2 _ rfl;rw [j18]at hK;go_simp;exact hK.out _ _ (keepW 19 d _ hW1 (by decide)) RegJ.Val.keep (RegJ.Val.this (Or.inl rfl))
  have j19:xR 19=.bool R:=(hJR 19 (by simp)).2 _ rfl
  rw [j19]
  obtain⟨-,-,-,-,u4⟩:=hWR
  obtain⟨Lf,bf⟩:=u4 (hdR 17 (by simp))
  clear hJR hdR keepG keepW j19
  go_wp2_with fail
  go_ret
  exact⟨by rw [hR2.out,hRW.out];rfl,by rw [hR2.out];exact Lf,bf⟩
end Go.Proofs.YtfejobjgbadfjaaGreat.Wor
