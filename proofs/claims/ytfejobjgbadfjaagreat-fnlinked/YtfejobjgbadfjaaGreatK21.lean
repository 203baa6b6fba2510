/- Contracts of this seat's functions, and their mathematics (WorF WorG). -/
import Derived.Test.YtfejobjgbadfjaaGreatK20
set_option linter.unusedVariables false
set_option linter.unusedSimpArgs false
set_option maxRecDepth 10000
set_option maxHeartbeats 8000000
namespace Go.Proofs.YtfejobjgbadfjaaGreat.Wor
open Go.RowKit RowG Hop Roa Pum Lin
theorem tell_t (h:Hp)(r:Int)(d:Bool):(tellH h r d).1.t=h.t:=by
 unfold tellH postH
 dsimp only
 split <;>rfl
theorem hopTell {T:TypeId}{pre post:List Value}{ow:Nat}(hTa:T≠69)(k B:Nat)(W:Wd)(ro pl n:Int)(tx:ByteArray)(i:Nat)(hi:i<3)(w:World){g:Nat}(lay:WLay T pre post ow w B k g W)(hB:B≤w.heap.size)(hkB:NT T)(ok:okW W=true):
  Calls Tryz.prog 66 #[.pointer (some ⟨k,ow,none⟩),(⟨4,(i:Int),ro,pl,n,tx⟩:Ac).v] w fun x w'=>x=.returned (.bool (hopW W ⟨4,(i:Int),ro,pl,n,tx⟩ i).2)∧WLay T pre post ow w' B k g (hopW W ⟨4,(i:Int),ro,pl,n,tx⟩ i).1∧Fr B g w w':=by
 obtain⟨cH,xs,aR,cR,A⟩:=lay
 have hmix:=Tak.mix
 obtain⟨okh,oks⟩:=ok_parts.1 ok
 obtain⟨ya,hx,hxh⟩:=A.hop okh hi
 have hrl:W.rs.length≤2097152:=by have:=(hops_iff.1 okh).2.1;simp only [roadsB,Bool.and_eq_true,decide_eq_true_eq]at this;omega
 obtain⟨hxo,hxr⟩:=at_ok okh hi
 rw [←hxh]at hxo hxr
 obtain⟨hw30,hgo,hto,hlo⟩:=hop_ok hxo
 have HXH:Hid (ya.h=W.at i):=hxh
 clear hxh
 have hIn: ∀w',Calls Tryz.prog 57 #[.int .i64 (i:Int),.int .i64 0,.int .i64 2] w' fun x w''=>x=.returned (.bool true)∧w'=w'':=fun w'=>Tak.l1InEq (decide_eq_true ⟨by omega,by omega⟩) w'
 have bW:=(Below.refl w.heap.size w).alloc (Nat.le_refl _) (.cells #[.int .i64 4,.int .i64 (i:Int),.int .i64 ro,.int .i64 pl,.int .i64 n,.string tx] 69)
 have v0:Var 69 (w.alloc (.cells #[.int .i64 4,.int .i64 (i:Int),.int .i64 ro,.int .i64 pl,.int .i64 n,.string tx] 69)) w.heap.size [.int .i64 4,.int .i64 (i:Int),.int .i64 ro,.int .i64 pl,.int .i64 n,.string tx]:=Var.new w _
 replace A:=A.later bW
 have e0:=A.v.cell0 rfl
 have e1:=A.v.cell (i:=1) rfl
 have d0:=v0.cell (i:=0) rfl
 have d1:=v0.cell (i:=1) rfl
 have d2:=v0.cell (i:=2) rfl
 have d3:=v0.cell (i:=3) rfl
 have d4:=v0.cell (i:=4) rfl
 have i0:(0:Int)≤(i:Int):=by omega
 have i1:(i:Int)<3:=by omega
 have HIN:Hid _:=hIn
 clear hIn
 go_enter Tryz.func66,Tryz.ntmps66
 go_upto_region 1 with(fail)
 generalize w.alloc (.cells #[.int .i64 4,.int .i64 (i:Int),.int .i64 ro,.int .i64 pl,.int .i64 n,.string tx] 69)=V at *
 go_wp2_with fail
 refine(HIN.out _).mono ?_
 rintro e w1 ⟨rfl,rfl⟩
 clear HIN
 go_wp2_with fail
 have le0:=Draw.Later.cell e0
 have l1:=Draw.Later.cell d1
 refine Draw.wp_region_later hmix (by kernel_rfl) ?_
 repeat (go_big_quiet_step (fail))
 refine wpQuiet_nil ?_
 intro wq hw'
 obtain⟨q9,hq9⟩:=hw'
 have hBq:=q9.h
 rw [←hq9]at hBq
 clear hq9 q9 le0 l1 e0 e1 d0 d1 d2 d3 d4
 replace bW:=bW.trans (hBq.mono bW.size)
 replace A:=A.later hBq
 replace v0:=v0.later hBq
 clear hBq
 have e0:=A.v.cell0 rfl
 have e1:=A.v.cell (i:=1) rfl
 have d0:=v0.cell (i:=0) rfl
 have d1:=v0.cell (i:=1) rfl
 have d2:=v0.cell (i:=2) rfl
 have d3:=v0.cell (i:=3) rfl
 have d4:=v0.cell (i:=4) rfl
 have HS:Hid (w.heap.size<wq.heap.size):=v0.lt
 go_wp2_with fail
 obtain⟨kA,hkA⟩: ∃kA,w.heap.size=kA:=⟨_,rfl⟩
 rw [hkA]at v0 d0 d1 d2 d3 d4 HS ⊢
 cases ho:openB W.rs (i:Int) ro
 ·have le0:=Draw.Later.cell e0
  have le1:=Draw.Later.cell e1
  have l1:=Draw.Later.cell d1
  have l2:=Draw.Later.cell d2
  have l3:=Draw.Later.cell d3
  have l4:=Draw.Later.cell d4
  have HO:Hid (∀p:Draw.Later wq,Calls Tryz.prog 85 #[.agg #[.slice (some ⟨g,0,none⟩) 3 cH,.slice aR W.rs.length cR],.int .i64 (i:Int),.int .i64 ro] p.v fun x w'=>x=.returned (.bool false)∧Below p.v.heap.size p.v w'):=fun p=>by
   have:=l16Open (some ⟨g,0,none⟩) 3 cH aR cR W.rs (i:Int) ro p.v (A.R.later p.h).lies hrl
   rw [ho]at this
   exact this
  refine Draw.wp_region_later hmix (by kernel_rfl) ?_
  repeat (go_big_quiet_step ((go_at_call 85;exact Draw.later_of (HO.out _))))
  refine wpQuiet_nil ?_
  intro wr hw'
  obtain⟨q9,hq9⟩:=hw'
  have hBq:=q9.h
  rw [←hq9]at hBq
  clear hq9 q9
  replace bW:=bW.trans (hBq.mono bW.size)
  replace A:=A.later hBq
  clear hBq le0 le1 l1 l2 l3 l4 e0 e1 d0 d1 d2 d3 d4 HO v0
  have hR:Hid (hopW W ⟨4,(i:Int),ro,pl,n,tx⟩ i=(W,false)):=by show _=_;simp [hopW,ho]
  go_wp2_with fail
  go_ret
  exact⟨by rw [hR.out];rfl,by rw [hR.out];exact⟨cH,xs,aR,cR,A⟩,Fr.ofB bW hB⟩
 ·have hR2:Hid (hopW W ⟨4,(i:Int),ro,pl,n,tx⟩ i=(W.put i (tellH (W.at i) ro (mayB W i)).1,(tellH (W.at i) ro (mayB W i)).2)):=by show _=_;simp [hopW,ho]
  have hlen:xs.length=3:=by
   have:=congrArg List.length A.hs
   rw [List.length_map,(hops_iff.1 okh).1]at this
   exact this
  obtain⟨zz,hzz,hzh⟩: ∃zz:Ha,(i<2→xs[i+1]? =some zz)∧(i<2→zz.h=W.at (i+1)):=by
   by_cases q:i<2
   ·obtain⟨z,h1,h2⟩:=A.hop okh (show i+1<3 by omega)
    exact⟨z,fun _=>h1,fun _=>h2⟩
   ·exact⟨ya,fun h=>absurd h q,fun h=>absurd h q⟩
  obtain⟨M,hM⟩: ∃M,(ya.h.t.en&&(decide (i=2)||zz.h.g.dn))=M:=⟨_,rfl⟩
  have hMW:Hid (mayB W i=M):=by
   show _=_
   rw [←hM]
   unfold mayB
   rw [←HXH.out]
   by_cases q:i=2
   ·rw [decide_eq_true q];rfl
   ·rw [hzh (by omega)]
  obtain⟨R,hR⟩: ∃R,(tellH ya.h ro M).2=R:=⟨_,rfl⟩
  have hRW:Hid ((tellH (W.at i) ro (mayB W i)).2=R):=by show _=_;rw [hMW.out,←HXH.out];exact hR
  have hin:Tak.inT ya.h.t.nx ya.h.t.bs ya.h.t.l ya.h.t.cp:=by
   have q:=hto
   unfold Tak.Tk.ok Tak.takerB at q
   simp only [Bool.and_eq_true,decide_eq_true_eq]at q
   exact q.1
  unfold Tak.inT at hin
  have keepG: ∀(j:Nat) (d:Nat→Bool) (w1 w':World),(fun d w'=>Win T pre post ow w' k [.slice (some ⟨g,0,none⟩) 3 cH,.slice aR W.rs.length cR,.string W.tx,.int .i64 W.rd,.bool W.en,.bool W.dn,.bool W.sn]∧Var 69 w' kA [.int .i64 4,.int .i64 (i:Int),.int .i64 ro,.int .i64 pl,.int .i64 n,.string tx]∧Roa.E.Own 95 w' B aR cR W.rs∧(d 20=false→WAt T pre post ow w' B k g cH xs aR cR W∧Below w.heap.size w w')∧(d 20=true→WLay T pre post ow w' B k g (W.put i (tellH (W.at i) ro (mayB W i)).1)∧Fr B g w w')) d w1→j≠20→Below w1.heap.size w1 w'→(fun d w'=>Win T pre post ow w' k [.slice (some ⟨g,0,none⟩) 3 cH,.slice aR W.rs.length cR,.string W.tx,.int .i64 W.rd,.bool W.en,.bool W.dn,.bool W.sn]∧Var 69 w' kA [.int .i64 4,.int .i64 (i:Int),.int .i64 ro,.int .i64 pl,.int .i64 n,.string tx]∧Roa.E.Own 95 w' B aR cR W.rs∧(d 20=false→WAt T pre post ow w' B k g cH xs aR cR W∧Below w.heap.size w w')∧(d 20=true→WLay T pre post ow w' B k g (W.put i (tellH (W.at i) ro (mayB W i)).1)∧Fr B g w w')) (fun q=>q==j||d q) w':=fun j d w1 w' hW hj hb=>by
   have ez:((20:Nat)==j)=false:=beq_eq_false_iff_ne.2 (Ne.symm hj)
   simp only [ez,Bool.false_or]
   obtain⟨u0,u1,u2,u3,u4⟩:=hW
   refine⟨u0.later hb,u1.later hb,u2.later hb,fun hd=>⟨(u3 hd).1.later hb,(u3 hd).2.trans (hb.mono (u3 hd).2.size)⟩,fun hd=>?_⟩
   obtain⟨⟨c2,x2,a2,r2,A2⟩,b2⟩:=u4 hd
   exact⟨⟨c2,x2,a2,r2,A2.later hb⟩,b2.later hb (Nat.le_trans hB b2.size)⟩
  have keepW: ∀(j:Nat) (d:Nat→Bool) (w1:World),(fun d w'=>Win T pre post ow w' k [.slice (some ⟨g,0,none⟩) 3 cH,.slice aR W.rs.length cR,.string W.tx,.int .i64 W.rd,.bool W.en,.bool W.dn,.bool W.sn]∧Var 69 w' kA [.int .i64 4,.int .i64 (i:Int),.int .i64 ro,.int .i64 pl,.int .i64 n,.string tx]∧Roa.E.Own 95 w' B aR cR W.rs∧(d 20=false→WAt T pre post ow w' B k g cH xs aR cR W∧Below w.heap.size w w')∧(d 20=true→WLay T pre post ow w' B k g (W.put i (tellH (W.at i) ro (mayB W i)).1)∧Fr B g w w')) d w1→j≠20→(fun d w'=>Win T pre post ow w' k [.slice (some ⟨g,0,none⟩) 3 cH,.slice aR W.rs.length cR,.string W.tx,.int .i64 W.rd,.bool W.en,.bool W.dn,.bool W.sn]∧Var 69 w' kA [.int .i64 4,.int .i64 (i:Int),.int .i64 ro,.int .i64 pl,.int .i64 n,.string tx]∧Roa.E.Own 95 w' B aR cR W.rs∧(d 20=false→WAt T pre post ow w' B k g cH xs aR cR W∧Below w.heap.size w w')∧(d 20=true→WLay T pre post ow w' B k g (W.put i (tellH (W.at i) ro (mayB W i)).1)∧Fr B g w w')) (fun q=>q==j||d q) w1:=fun j d w1 hW hj=>keepG j d w1 w1 hW hj (Below.refl _ _)
  refine RegJ.wp_region_J (W:=(fun d w'=>Win T pre post ow w' k [.slice (some ⟨g,0,none⟩) 3 cH,.slice aR W.rs.length cR,.string W.tx,.int .i64 W.rd,.bool W.en,.bool W.dn,.bool W.sn]∧Var 69 w' kA [.int .i64 4,.int .i64 (i:Int),.int .i64 ro,.int .i64 pl,.int .i64 n,.string tx]∧Roa.E.Own 95 w' B aR cR W.rs∧(d 20=false→WAt T pre post ow w' B k g cH xs aR cR W∧Below w.heap.size w w')∧(d 20=true→WLay T pre post ow w' B k g (W.put i (tellH (W.at i) ro (mayB W i)).1)∧Fr B g w w'))) (RegJ.Val [some (.pointer (some ⟨k,ow,none⟩)),some (.pointer (some ⟨k,ow,none⟩)),some (.pointer (some ⟨k,ow,none⟩)),some (.agg #[.slice (some ⟨g,0,none⟩) 3 cH,.slice aR W.rs.length cR]),some (.pointer (some ⟨kA,1,none⟩)),some (.int .i64 (i:Int)),some (.pointer (some ⟨kA,2,none⟩)),some (.int .i64 ro),some (.bool true),some (.bool true),some (.pointer (some ⟨g,i*13,none⟩)),some (.pointer (some ⟨kA,2,none⟩)),some (.int .i64 ro),some (.pointer (some ⟨k,ow,none⟩)),some (.pointer (some ⟨k,ow,none⟩)),some (.pointer (some ⟨k,ow,none⟩)),some (.agg #[.slice (some ⟨g,0,none⟩) 3 cH,.slice aR W.rs.length cR]),some (.pointer (some ⟨kA,1,none⟩)),some (.int .i64 (i:Int)),some (.bool M),some (.bool R),some (.bool R),some (.bool R)]) [some 48,some 49,some 50,some 51,some 52,some 53,some 54,some 55,some 56,some 57,some 58,some 59,some 60,some 61,some 62,some 63,some 64,some 65,some 66,some 67,some 68,some 69,some 4] (F:=?_) (is:=[0,1,2,3,4,5,6,7,8,9,10,11,12,13,14,15,16,17,18,19,20,21,22]) hmix (by kernel_rfl) (by kernel_rfl) (by kernel_rfl) (by kernel_rfl) (fun x=>?_) (⟨A.v.drew,v0.drew,A.R.drew,fun _=>⟨⟨A.v.drew,A.L.drew,A.hs,A.R.drew⟩,bW.drew⟩,fun hd=>(by cases hd)⟩) ?_ (fun dR xR wR hWR hdR hJR=>?_)
  rotate_left 1
  focus (simp only [RegJ.lay,Act.put,Nat.reduceAdd,Nat.zero_add,Draw.lays];rfl)
  focus
   iterate 23 (refine RegJ.Steps.cons (RegJ.StepAt.mk rfl (fun d x w1 hW1 hJ1 hx1 K hK=>?_)) ?_;simp only [Draw.lays]at hK;rotate_left 1)
   exact RegJ.Steps.nil
   ·go_simp;exact hK.out _ _ (keepW 0 d _ hW1 (by decide)) RegJ.Val.keep (RegJ.Val.this (Or.inl rfl))
   ·have j0:x 0=_:=(hJ1.out 0 (by kernel_rfl)).2 _ rfl;rw [j0]at hK;go_simp;exact hK.out _ _ (keepW 1 d _ hW1 (by decide)) RegJ.Val.keep (RegJ.Val.this (Or.inl rfl))
   ·have j1:x 1=_:=(hJ1.out 1 (by kernel_rfl)).2 _ rfl;rw [j1]at hK;go_simp;exact hK.out _ _ (keepW 2 d _ hW1 (by decide)) RegJ.Val.keep (RegJ.Val.this (Or.inl rfl))
   ·obtain⟨u0,u1,u2,u3,u4⟩:=id hW1;have c0:=u0.cell0 rfl;have c1:=u0.cell (i:=1) rfl;have j2:x 2=_:=(hJ1.out 2 (by kernel_rfl)).2 _ rfl;rw [j2]at hK;go_simp;exact hK.out _ _ (keepW 3 d _ hW1 (by decide)) RegJ.Val.keep (RegJ.Val.this (Or.inl rfl))
   ·go_simp;exact hK.out _ _ (keepW 4 d _ hW1 (by decide)) RegJ.Val.keep (RegJ.Val.this (Or.inl rfl))
   ·obtain⟨u0,u1,u2,u3,u4⟩:=id hW1;have c:=u1.cell (i:=1) rfl;have j4:x 4=_:=(hJ1.out 4 (by kernel_rfl)).2 _ rfl;rw [j4]at hK;go_simp;exact hK.out _ _ (keepW 5 d _ hW1 (by decide)) RegJ.Val.keep (RegJ.Val.this (Or.inl rfl))
   ·go_simp;exact hK.out _ _ (keepW 6 d _ hW1 (by decide)) RegJ.Val.keep (RegJ.Val.this (Or.inl rfl))
   ·obtain⟨u0,u1,u2,u3,u4⟩:=id hW1;have c:=u1.cell (i:=2) rfl;have j6:x 6=_:=(hJ1.out 6 (by kernel_rfl)).2 _ rfl;rw [j6]at hK;go_simp;exact hK.out _ _ (keepW 7 d _ hW1 (by decide)) RegJ.Val.keep (RegJ.Val.this (Or.inl rfl))
   ·obtain⟨u0,u1,u2,u3,u4⟩:=id hW1;have j3:x 3=_:=(hJ1.out 3 (by kernel_rfl)).2 _ rfl;rw [j3]at hK;have j5:x 5=_:=(hJ1.out 5 (by kernel_rfl)).2 _ rfl;rw [j5]at hK;have j7:x 7=_:=(hJ1.out 7 (by kernel_rfl)).2 _ rfl;rw [j7]at hK;have hop:=l16Open (some ⟨g,0,none⟩) 3 cH aR cR W.rs (i:Int) ro w1 u2.lies hrl;rw [ho]at hop;go_simp;refine hop.mono ?_;rintro e wa ⟨rfl,ba⟩;go_simp;exact hK.out _ _ (keepG 8 d _ _ hW1 (by decide) ba) RegJ.Val.keep (RegJ.Val.this (Or.inl rfl))
   ·have j8:x 8=_:=(hJ1.out 8 (by kernel_rfl)).2 _ rfl;rw [j8]at hK;go_simp;exact hK.out _ _ (keepW 9 d _ hW1 (by decide)) RegJ.Val.keep (RegJ.Val.this (Or.inl rfl))
   ·have j9:x 9=_:=(hJ1.out 9 (by kernel_rfl)).2 _ rfl;rw [j9]at hK;go_simp;exact hK.out _ _ (keepW 10 d _ hW1 (by decide)) RegJ.Val.keep (RegJ.Val.this (Or.inl rfl))
   ·have j9:x 9=_:=(hJ1.out 9 (by kernel_rfl)).2 _ rfl;rw [j9]at hK;go_simp;exact hK.out _ _ (keepW 11 d _ hW1 (by decide)) RegJ.Val.keep (RegJ.Val.this (Or.inl rfl))
   ·obtain⟨u0,u1,u2,u3,u4⟩:=id hW1;have c:=u1.cell (i:=2) rfl;have j11:x 11=_:=(hJ1.out 11 (by kernel_rfl)).2 _ rfl;rw [j11]at hK;have j9:x 9=_:=(hJ1.out 9 (by kernel_rfl)).2 _ rfl;rw [j9]at hK;go_simp;exact hK.out _ _ (keepW 12 d _ hW1 (by decide)) RegJ.Val.keep (RegJ.Val.this (Or.inl rfl))
   ·have j9:x 9=_:=(hJ1.out 9 (by kernel_rfl)).2 _ rfl;rw [j9]at hK;go_simp;exact hK.out _ _ (keepW 13 d _ hW1 (by decide)) RegJ.Val.keep (RegJ.Val.this (Or.inl rfl))
   ·have j9:x 9=_:=(hJ1.out 9 (by kernel_rfl)).2 _ rfl;rw [j9]at hK;have j13:x 13=_:=(hJ1.out 13 (by kernel_rfl)).2 _ rfl;rw [j13]at hK;go_simp;exact hK.out _ _ (keepW 14 d _ hW1 (by decide)) RegJ.Val.keep (RegJ.Val.this (Or.inl rfl))
   ·have j9:x 9=_:=(hJ1.out 9 (by kernel_rfl)).2 _ rfl;rw [j9]at hK;have j14:x 14=_:=(hJ1.out 14 (by kernel_rfl)).2 _ rfl;rw [j14]at hK;go_simp;exact hK.out _ _ (keepW 15 d _ hW1 (by decide)) RegJ.Val.keep (RegJ.Val.this (Or.inl rfl))
   ·obtain⟨u0,u1,u2,u3,u4⟩:=id hW1;have c0:=u0.cell0 rfl;have c1:=u0.cell (i:=1) rfl;have j15:x 15=_:=(hJ1.out 15 (by kernel_rfl)).2 _ rfl;rw [j15]at hK;have j9:x 9=_:=(hJ1.out 9 (by kernel_rfl)).2 _ rfl;rw [j9]at hK;go_simp;exact hK.out _ _ (keepW 16 d _ hW1 (by decide)) RegJ.Val.keep (RegJ.Val.this (Or.inl rfl))
   ·have j9:x 9=_:=(hJ1.out 9 (by kernel_rfl)).2 _ rfl;rw [j9]at hK;go_simp;exact hK.out _ _ (keepW 17 d _ hW1 (by decide)) RegJ.Val.keep (RegJ.Val.this (Or.inl rfl))
   ·obtain⟨u0,u1,u2,u3,u4⟩:=id hW1;have c:=u1.cell (i:=1) rfl;have j17:x 17=_:=(hJ1.out 17 (by kernel_rfl)).2 _ rfl;rw [j17]at hK;have j9:x 9=_:=(hJ1.out 9 (by kernel_rfl)).2 _ rfl;rw [j9]at hK;go_simp;exact hK.out _ _ (keepW 18 d _ hW1 (by decide)) RegJ.Val.keep (RegJ.Val.this (Or.inl rfl))
   ·obtain⟨u0,u1,u2,u3,u4⟩:=id hW1;have hdz:Hid _:=(hx1.out 20 (.inr (by kernel_rfl))).1;obtain⟨A1,b1⟩:=u3 hdz.out;have j9:x 9=_:=(hJ1.out 9 (by kernel_rfl)).2 _ rfl;rw [j9]at hK;have j16:x 16=_:=(hJ1.out 16 (by kernel_rfl)).2 _ rfl;rw [j16]at hK;have j18:x 18=_:=(hJ1.out 18 (by kernel_rfl)).2 _ rfl;rw [j18]at hK;have hmay:=l14May B g cH xs aR W.rs.length cR i hi ya zz w1 A1.L.row hlen hx hzz;rw [hM]at hmay;go_simp;refine hmay.mono ?_;rintro e wa ⟨rfl,ba⟩;go_simp;exact hK.out _ _ (keepG 19 d _ _ hW1 (by decide) ba) RegJ.Val.keep (RegJ.Val.this (Or.inl rfl))
   ·obtain⟨u0,u1,u2,u3,u4⟩:=id hW1;have hdz:Hid _:=(hx1.out 20 (.inl rfl)).1;obtain⟨A1,b1⟩:=u3 hdz.out;have j9:x 9=_:=(hJ1.out 9 (by kernel_rfl)).2 _ rfl;rw [j9]at hK;have j10:x 10=_:=(hJ1.out 10 (by kernel_rfl)).2 _ rfl;rw [j10]at hK;have j12:x 12=_:=(hJ1.out 12 (by kernel_rfl)).2 _ rfl;rw [j12]at hK;have j19:x 19=_:=(hJ1.out 19 (by kernel_rfl)).2 _ rfl;rw [j19]at hK;obtain⟨pr,po,vx,rx,back⟩:=A1.L.step hx;have hBw:B≤w1.heap.size:=Nat.le_trans hB b1.size;have hgA:kA≠g:=(own_varS2 A1.L.row u1);have hwA:some kA≠blk ya.aW:=(own_varS3 rx.l u1);have hlb:Hid _:=back;clear back;go_simp;refine(l7TellL (by decide) (by decide) g B ya.h ya.aT ya.cT ya.aW ya.cW ro M w1 vx rx.l hBw (by omega) ⟨by omega,by omega⟩ (by omega) ⟨by omega,by omega⟩).mono ?_;rintro e wa ⟨aW',cW',rfl,va,oa,ka,la⟩;have L':=hlb.out wa ⟨(tellH ya.h ro M).1,ya.aT,ya.cT,aW',cW'⟩ va ⟨by rw [show(tellH ya.h ro M).1.t=ya.h.t from tell_t _ _ _];exact rx.p.keep ka (own_win (by decide) rx.p vx) (own_two (by decide) rx.p rx.l),oa⟩ ka la;obtain⟨A2,b2⟩:=A1.turn hkB hx L' ka hBw;have hv2:=A2.v;have hu1:Var 69 wa kA [.int .i64 4,.int .i64 (i:Int),.int .i64 ro,.int .i64 pl,.int .i64 n,.string tx]:=u1.same (ka.block kA u1.lt hgA hwA);have hWL:WLay T pre post ow wa B k g (W.put i (tellH (W.at i) ro (mayB W i)).1):=(by rw [hMW.out,←HXH.out];exact⟨cH,_,aR,cR,A2⟩);rw [hR];go_simp;exact hK.out _ _ ⟨hv2,hu1,A2.R,fun hd=>absurd hd (by simp),fun _=>⟨hWL,(Fr.ofB b1 hB).trans b2⟩⟩ RegJ.Val.keep (RegJ.Val.this (Or.inl rfl))
   ·have j9:x 9=_:=(hJ1.out 9 (by kernel_rfl)).2 _ rfl;rw [j9]at hK;have j20:x 20=_:=(hJ1.out 20 (by kernel_rfl)).2 _ rfl;rw [j20]at hK;go_simp;exact hK.out _ _ (keepW 21 d _ hW1 (by decide)) RegJ.Val.keep (RegJ.Val.this (Or.inl rfl))
   ·have j21:x 21=_:=(hJ1.out 21 (by kernel_rfl)).2 _ rfl;rw [j21]at hK;go_simp;exact hK.out _ _ (keepW 22 d _ hW1 (by decide)) RegJ.Val.keep (RegJ.Val.this (Or.inl rfl))
  have j22:xR 22=.bool R:=(hJR 22 (by simp)).2 _ rfl
  rw [j22]
  obtain⟨-,-,-,-,u4⟩:=hWR
  obtain⟨Lf,bf⟩:=u4 (hdR 20 (by simp))
  clear hJR hdR keepG keepW j22
  go_wp2_with fail
  go_ret
  exact⟨by rw [hR2.out,hRW.out];rfl,by rw [hR2.out];exact Lf,bf⟩
end Go.Proofs.YtfejobjgbadfjaaGreat.Wor
namespace Go.Proofs.YtfejobjgbadfjaaGreat.Wor
open Go.RowKit RowG Hop Roa Pum Lin
theorem out_t (h:Hp)(n:Int):(outH h n).1.t=h.t:=by
 unfold outH
 split
 ·split <;>rfl
 ·rfl
theorem hopCome {T:TypeId}{pre post:List Value}{ow:Nat}(hTa:T≠69)(k B:Nat)(W:Wd)(ro pl n:Int)(tx:ByteArray)(i:Nat)(hi:i<3)(w:World){g:Nat}(lay:WLay T pre post ow w B k g W)(hB:B≤w.heap.size)(hkB:NT T)(ok:okW W=true):
  Calls Tryz.prog 66 #[.pointer (some ⟨k,ow,none⟩),(⟨5,(i:Int),ro,pl,n,tx⟩:Ac).v] w fun x w'=>x=.returned (.bool (hopW W ⟨5,(i:Int),ro,pl,n,tx⟩ i).2)∧WLay T pre post ow w' B k g (hopW W ⟨5,(i:Int),ro,pl,n,tx⟩ i).1∧Fr B g w w':=by
 obtain⟨cH,xs,aR,cR,A⟩:=lay
 have hmix:=Tak.mix
 obtain⟨okh,oks⟩:=ok_parts.1 ok
 obtain⟨ya,hx,hxh⟩:=A.hop okh hi
 have hrl:W.rs.length≤2097152:=by have:=(hops_iff.1 okh).2.1;simp only [roadsB,Bool.and_eq_true,decide_eq_true_eq]at this;omega
 obtain⟨hxo,hxr⟩:=at_ok okh hi
 rw [←hxh]at hxo hxr
 obtain⟨hw30,hgo,hto,hlo⟩:=hop_ok hxo
 have HXH:Hid (ya.h=W.at i):=hxh
 clear hxh
 have hIn: ∀w',Calls Tryz.prog 57 #[.int .i64 (i:Int),.int .i64 0,.int .i64 2] w' fun x w''=>x=.returned (.bool true)∧w'=w'':=fun w'=>Tak.l1InEq (decide_eq_true ⟨by omega,by omega⟩) w'
 have bW:=(Below.refl w.heap.size w).alloc (Nat.le_refl _) (.cells #[.int .i64 5,.int .i64 (i:Int),.int .i64 ro,.int .i64 pl,.int .i64 n,.string tx] 69)
 have v0:Var 69 (w.alloc (.cells #[.int .i64 5,.int .i64 (i:Int),.int .i64 ro,.int .i64 pl,.int .i64 n,.string tx] 69)) w.heap.size [.int .i64 5,.int .i64 (i:Int),.int .i64 ro,.int .i64 pl,.int .i64 n,.string tx]:=Var.new w _
 replace A:=A.later bW
 have e0:=A.v.cell0 rfl
 have e1:=A.v.cell (i:=1) rfl
 have d0:=v0.cell (i:=0) rfl
 have d1:=v0.cell (i:=1) rfl
 have d2:=v0.cell (i:=2) rfl
 have d3:=v0.cell (i:=3) rfl
 have d4:=v0.cell (i:=4) rfl
 have i0:(0:Int)≤(i:Int):=by omega
 have i1:(i:Int)<3:=by omega
 have HIN:Hid _:=hIn
 clear hIn
 go_enter Tryz.func66,Tryz.ntmps66
 go_upto_region 1 with(fail)
 generalize w.alloc (.cells #[.int .i64 5,.int .i64 (i:Int),.int .i64 ro,.int .i64 pl,.int .i64 n,.string tx] 69)=V at *
 go_wp2_with fail
 refine(HIN.out _).mono ?_
 rintro e w1 ⟨rfl,rfl⟩
 clear HIN
 go_wp2_with fail
 have le0:=Draw.Later.cell e0
 have l1:=Draw.Later.cell d1
 refine Draw.wp_region_later hmix (by kernel_rfl) ?_
 repeat (go_big_quiet_step (fail))
 refine wpQuiet_nil ?_
 intro wq hw'
 obtain⟨q9,hq9⟩:=hw'
 have hBq:=q9.h
 rw [←hq9]at hBq
 clear hq9 q9 le0 l1 e0 e1 d0 d1 d2 d3 d4
 replace bW:=bW.trans (hBq.mono bW.size)
 replace A:=A.later hBq
 replace v0:=v0.later hBq
 clear hBq
 have e0:=A.v.cell0 rfl
 have e1:=A.v.cell (i:=1) rfl
 have d0:=v0.cell (i:=0) rfl
 have d1:=v0.cell (i:=1) rfl
 have d2:=v0.cell (i:=2) rfl
 have d3:=v0.cell (i:=3) rfl
 have d4:=v0.cell (i:=4) rfl
 have HS:Hid (w.heap.size<wq.heap.size):=v0.lt
 go_wp2_with fail
 obtain⟨kA,hkA⟩: ∃kA,w.heap.size=kA:=⟨_,rfl⟩
 rw [hkA]at v0 d0 d1 d2 d3 d4 HS ⊢
 have cW:=own_cell A.L.row hx (j:=12) rfl
 have l1:=Draw.Later.cell d1
 have l4:=Draw.Later.cell d4
 have le0:=Draw.Later.cell e0
 have le1:=Draw.Later.cell e1
 have lW:=Draw.Later.cell cW
 clear e0 e1 d0 d1 d2 d3 d4 cW
 by_cases hn0:n<0
 ·have hn0d:decide (n<0)=true:=decide_eq_true hn0
  have hR:Hid (hopW W ⟨5,(i:Int),ro,pl,n,tx⟩ i=(W,false)):=by show _=_;simp [hopW,show ¬0≤n by omega]
  refine Draw.wp_region_later hmix (by kernel_rfl) ?_
  repeat (go_big_quiet_step (fail))
  refine wpQuiet_nil ?_
  intro wr hw'
  obtain⟨q9,hq9⟩:=hw'
  have hBq:=q9.h
  rw [←hq9]at hBq
  clear hq9 q9
  replace bW:=bW.trans (hBq.mono bW.size)
  replace A:=A.later hBq
  replace v0:=v0.later hBq
  clear hBq
  clear l1 l4 le0 le1 lW
  go_wp2_with fail
  go_ret
  exact⟨by rw [hR.out];rfl,by rw [hR.out];exact⟨cH,xs,aR,cR,A⟩,Fr.ofB bW hB⟩
 have hn0d:decide (n<0)=false:=decide_eq_false hn0
 by_cases hn1:(ya.h.ws.length:Int)≤n
 ·have hn1d:decide ((ya.h.ws.length:Int)≤n)=true:=decide_eq_true hn1
  have hR:Hid (hopW W ⟨5,(i:Int),ro,pl,n,tx⟩ i=(W,false)):=by show _=_;simp [hopW,show 0≤n by omega,←HXH.out,List.getElem?_eq_none (show ya.h.ws.length≤n.toNat by omega)]
  refine Draw.wp_region_later hmix (by kernel_rfl) ?_
  repeat (go_big_quiet_step (fail))
  refine wpQuiet_nil ?_
  intro wr hw'
  obtain⟨q9,hq9⟩:=hw'
  have hBq:=q9.h
  rw [←hq9]at hBq
  clear hq9 q9
  replace bW:=bW.trans (hBq.mono bW.size)
  replace A:=A.later hBq
  replace v0:=v0.later hBq
  clear hBq
  clear l1 l4 le0 le1 lW
  go_wp2_with fail
  go_ret
  exact⟨by rw [hR.out];rfl,by rw [hR.out];exact⟨cH,xs,aR,cR,A⟩,Fr.ofB bW hB⟩
 have hn1d:decide ((ya.h.ws.length:Int)≤n)=false:=decide_eq_false hn1
 obtain⟨j,rfl⟩: ∃j:Nat,n=(j:Int):=⟨n.toNat,by omega⟩
 have hj:j<ya.h.ws.length:=by omega
 obtain⟨lt,hlt⟩: ∃lt,ya.h.ws[j]? =some lt:=⟨_,List.getElem?_eq_getElem hj⟩
 have j0:(0:Int)≤(j:Int):=by omega
 have j1:(j:Int)<(ya.h.ws.length:Int):=by omega
 have j2:decide (ya.h.ws.length≤j)=false:=decide_eq_false (by omega)
 have j3: ¬ya.h.ws.length≤j:=by omega
 have Rx:=A.L.rows ya (List.mem_of_getElem? hx)
 obtain⟨b,off,hab,hL⟩: ∃b off,ya.aW=some ⟨b,off,none⟩∧ ∀q u,(letE.vals ya.h.ws)[q]? =some u→wq.cell? ⟨b,off+q,none⟩=some u:=by
  rcases Rx.l.lies with e|⟨b,off,e,h⟩
  ·rw [e]at hj;simp at hj
  ·exact⟨b,off,e,h⟩
 have cR1:wq.cell? ⟨b,off+j*7+1,none⟩=some (.int .i64 lt.rd):=El.Lies.cell hL hlt (j:=1) rfl
 have lR1:=Draw.Later.cell cR1
 rw [hab]at lW
 cases ho:openB W.rs (i:Int) lt.rd
 ·have hR:Hid (hopW W ⟨5,(i:Int),ro,pl,(j:Int),tx⟩ i=(W,false)):=by show _=_;simp [hopW,←HXH.out,hlt,ho]
  have HO:Hid (∀p:Draw.Later wq,Calls Tryz.prog 85 #[.agg #[.slice (some ⟨g,0,none⟩) 3 cH,.slice aR W.rs.length cR],.int .i64 (i:Int),.int .i64 lt.rd] p.v fun x w'=>x=.returned (.bool false)∧Below p.v.heap.size p.v w'):=fun p=>by
   have:=l16Open (some ⟨g,0,none⟩) 3 cH aR cR W.rs (i:Int) lt.rd p.v (A.R.later p.h).lies hrl
   rw [ho]at this
   exact this
  clear Rx cR1 hL
  refine Draw.wp_region_later hmix (by kernel_rfl) ?_
  repeat (go_big_quiet_step ((go_at_call 85;exact Draw.later_of (HO.out _))))
  refine wpQuiet_nil ?_
  intro wr hw'
  obtain⟨q9,hq9⟩:=hw'
  have hBq:=q9.h
  rw [←hq9]at hBq
  clear hq9 q9
  replace bW:=bW.trans (hBq.mono bW.size)
  replace A:=A.later hBq
  replace v0:=v0.later hBq
  clear hBq
  clear l1 l4 le0 le1 lW lR1 HO
  go_wp2_with fail
  go_ret
  exact⟨by rw [hR.out];rfl,by rw [hR.out];exact⟨cH,xs,aR,cR,A⟩,Fr.ofB bW hB⟩
 ·have hR:Hid (hopW W ⟨5,(i:Int),ro,pl,(j:Int),tx⟩ i=(W.put i (comeH ya.h (j:Int)).1,(comeH ya.h (j:Int)).2)):=by show _=_;simp [hopW,←HXH.out,hlt,ho]
  have HO:Hid (∀p:Draw.Later wq,Calls Tryz.prog 85 #[.agg #[.slice (some ⟨g,0,none⟩) 3 cH,.slice aR W.rs.length cR],.int .i64 (i:Int),.int .i64 lt.rd] p.v fun x w'=>x=.returned (.bool true)∧Below p.v.heap.size p.v w'):=fun p=>by
   have:=l16Open (some ⟨g,0,none⟩) 3 cH aR cR W.rs (i:Int) lt.rd p.v (A.R.later p.h).lies hrl
   rw [ho]at this
   exact this
  clear Rx cR1 hL
  refine Draw.wp_region_later hmix (by kernel_rfl) ?_
  repeat (go_big_quiet_step ((go_at_call 85;exact Draw.later_of (HO.out _))))
  refine wpQuiet_nil ?_
  intro wr hw'
  obtain⟨q9,hq9⟩:=hw'
  have hBq:=q9.h
  rw [←hq9]at hBq
  clear hq9 q9
  replace bW:=bW.trans (hBq.mono bW.size)
  replace A:=A.later hBq
  replace v0:=v0.later hBq
  clear hBq
  clear l1 l4 le0 le1 lW lR1 HO
  have d4:=v0.cell (i:=4) rfl
  obtain⟨pr,po,vx,rx,back⟩:=A.L.step hx
  have hBw:B≤wr.heap.size:=Nat.le_trans hB bW.size
  have HBK:Hid _:=back
  clear back
  go_wp2_with fail
  refine(comeL (by decide) (by decide) g B ya.h ya.aT ya.cT ya.aW ya.cW (j:Int) wr vx rx.p rx.l hBw hxo).mono ?_
  rintro e wa ⟨rfl,⟨aT',cT',aW',cW',va,pa,oa,la⟩,ka⟩
  have L':=HBK.out wa ⟨(comeH ya.h (j:Int)).1,aT',cT',aW',cW'⟩ va ⟨pa,oa⟩ (Keep.ofKept ka) la
  obtain⟨A2,b2⟩:=A.turn hkB hx L' (Keep.ofKept ka) hBw
  clear HBK va pa oa la ka L'
  go_wp2_with fail
  go_ret
  exact⟨by rw [hR.out];rfl,by rw [hR.out];exact⟨cH,_,aR,cR,A2⟩,(Fr.ofB bW hB).trans b2⟩
theorem hopLose {T:TypeId}{pre post:List Value}{ow:Nat}(hTa:T≠69)(k B:Nat)(W:Wd)(ro pl n:Int)(tx:ByteArray)(i:Nat)(hi:i<3)(w:World){g:Nat}(lay:WLay T pre post ow w B k g W)(hB:B≤w.heap.size)(hkB:NT T)(ok:okW W=true):
  Calls Tryz.prog 66 #[.pointer (some ⟨k,ow,none⟩),(⟨6,(i:Int),ro,pl,n,tx⟩:Ac).v] w fun x w'=>x=.returned (.bool (hopW W ⟨6,(i:Int),ro,pl,n,tx⟩ i).2)∧WLay T pre post ow w' B k g (hopW W ⟨6,(i:Int),ro,pl,n,tx⟩ i).1∧Fr B g w w':=by
 obtain⟨cH,xs,aR,cR,A⟩:=lay
 have hmix:=Tak.mix
 obtain⟨okh,oks⟩:=ok_parts.1 ok
 obtain⟨ya,hx,hxh⟩:=A.hop okh hi
 have hrl:W.rs.length≤2097152:=by have:=(hops_iff.1 okh).2.1;simp only [roadsB,Bool.and_eq_true,decide_eq_true_eq]at this;omega
 obtain⟨hxo,hxr⟩:=at_ok okh hi
 rw [←hxh]at hxo hxr
 obtain⟨hw30,hgo,hto,hlo⟩:=hop_ok hxo
 have HXH:Hid (ya.h=W.at i):=hxh
 clear hxh
 have hIn: ∀w',Calls Tryz.prog 57 #[.int .i64 (i:Int),.int .i64 0,.int .i64 2] w' fun x w''=>x=.returned (.bool true)∧w'=w'':=fun w'=>Tak.l1InEq (decide_eq_true ⟨by omega,by omega⟩) w'
 have bW:=(Below.refl w.heap.size w).alloc (Nat.le_refl _) (.cells #[.int .i64 6,.int .i64 (i:Int),.int .i64 ro,.int .i64 pl,.int .i64 n,.string tx] 69)
 have v0:Var 69 (w.alloc (.cells #[.int .i64 6,.int .i64 (i:Int),.int .i64 ro,.int .i64 pl,.int .i64 n,.string tx] 69)) w.heap.size [.int .i64 6,.int .i64 (i:Int),.int .i64 ro,.int .i64 pl,.int .i64 n,.string tx]:=Var.new w _
 replace A:=A.later bW
 have e0:=A.v.cell0 rfl
 have e1:=A.v.cell (i:=1) rfl
 have d0:=v0.cell (i:=0) rfl
 have d1:=v0.cell (i:=1) rfl
 have d2:=v0.cell (i:=2) rfl
 have d3:=v0.cell (i:=3) rfl
 have d4:=v0.cell (i:=4) rfl
 have i0:(0:Int)≤(i:Int):=by omega
 have i1:(i:Int)<3:=by omega
 have HIN:Hid _:=hIn
 clear hIn
 go_enter Tryz.func66,Tryz.ntmps66
 go_upto_region 1 with(fail)
 generalize w.alloc (.cells #[.int .i64 6,.int .i64 (i:Int),.int .i64 ro,.int .i64 pl,.int .i64 n,.string tx] 69)=V at *
 go_wp2_with fail
 refine(HIN.out _).mono ?_
 rintro e w1 ⟨rfl,rfl⟩
 clear HIN
 go_wp2_with fail
 have le0:=Draw.Later.cell e0
 have l1:=Draw.Later.cell d1
 refine Draw.wp_region_later hmix (by kernel_rfl) ?_
 repeat (go_big_quiet_step (fail))
 refine wpQuiet_nil ?_
 intro wq hw'
 obtain⟨q9,hq9⟩:=hw'
 have hBq:=q9.h
 rw [←hq9]at hBq
 clear hq9 q9 le0 l1 e0 e1 d0 d1 d2 d3 d4
 replace bW:=bW.trans (hBq.mono bW.size)
 replace A:=A.later hBq
 replace v0:=v0.later hBq
 clear hBq
 have e0:=A.v.cell0 rfl
 have e1:=A.v.cell (i:=1) rfl
 have d0:=v0.cell (i:=0) rfl
 have d1:=v0.cell (i:=1) rfl
 have d2:=v0.cell (i:=2) rfl
 have d3:=v0.cell (i:=3) rfl
 have d4:=v0.cell (i:=4) rfl
 have HS:Hid (w.heap.size<wq.heap.size):=v0.lt
 go_wp2_with fail
 obtain⟨kA,hkA⟩: ∃kA,w.heap.size=kA:=⟨_,rfl⟩
 rw [hkA]at v0 d0 d1 d2 d3 d4 HS ⊢
 obtain⟨pr,po,vx,rx,back⟩:=A.L.step hx
 have hBw:B≤wq.heap.size:=Nat.le_trans hB bW.size
 have HBK:Hid _:=back
 clear back e0 e1 d0 d1 d2 d3 d4
 have hR:Hid (hopW W ⟨6,(i:Int),ro,pl,n,tx⟩ i=(W.put i (outH ya.h n).1,(outH ya.h n).2.2)):=by show _=_;simp [hopW,←HXH.out]
 refine(l7OutL (by decide) g B ya.h ya.aT ya.cT ya.aW ya.cW n wq vx rx.l hBw (by omega)).mono ?_
 rintro e wa ⟨aW',cW',rfl,va,oa,ka,la⟩
 have L':=HBK.out wa ⟨(outH ya.h n).1,ya.aT,ya.cT,aW',cW'⟩ va ⟨by rw [show(outH ya.h n).1.t=ya.h.t from out_t _ _];exact rx.p.kept ka (own_win (by decide) rx.p vx),oa⟩ (Keep.ofKept ka) la
 obtain⟨A2,b2⟩:=A.turn hkB hx L' (Keep.ofKept ka) hBw
 clear HBK va oa la ka L' vx rx
 have HA2:Hid _:=A2
 have HB2:Hid _:=(Fr.ofB bW hB).trans b2
 clear A2 b2
 go_wp2_with fail
 go_ret
 have bA: ∀o:Obj,Below wa.heap.size wa (wa.alloc o):=fun o=>(Below.refl _ _).alloc (Nat.le_refl _) o
 exact⟨by rw [hR.out];rfl,by rw [hR.out];exact⟨cH,_,aR,cR,HA2.out.later (bA _)⟩,HB2.out.trans (Fr.ofB (bA _) (Nat.le_trans hB HB2.out.size))⟩
end Go.Proofs.YtfejobjgbadfjaaGreat.Wor
