/- Contracts of this seat's functions, and their mathematics (WorH). -/
import Derived.Test.YtfejobjgbadfjaaGreatK21
set_option linter.unusedVariables false
set_option linter.unusedSimpArgs false
set_option maxRecDepth 10000
set_option maxHeartbeats 8000000
namespace Go.Proofs.YtfejobjgbadfjaaGreat.Wor
open Go.RowKit RowG Hop Roa Pum Lin
theorem post_t (h:Hp)(x:Lt):(postH h x).t=h.t:=by
 unfold postH
 split <;>rfl
theorem way_cells {w:World}{B c b off j:Nat}{a:Option Addr}{l:List Lt}{x:Lt}(o:letE.Own 75 w B a c l)(ha:a=some ⟨b,off,none⟩)(hx:l[j]? =some x):
  w.cell? ⟨b,off+j*7,none⟩=some (.bool x.bk)∧w.cell? ⟨b,off+j*7+1,none⟩=some (.int .i64 x.rd)∧w.cell? ⟨b,off+j*7+2,none⟩=some (.int .i64 x.pl)∧w.cell? ⟨b,off+j*7+3,none⟩=some (.string x.bs)∧w.cell? ⟨b,off+j*7+4,none⟩=some (.bool x.en)∧w.cell? ⟨b,off+j*7+5,none⟩=some (.int .i64 x.lm)∧w.cell? ⟨b,off+j*7+6,none⟩=some (.bool x.dn):=by
 subst ha
 rcases o.lies with e|⟨b',off',e,h⟩
 ·rw [e]at hx;simp at hx
 ·cases e
  exact⟨El.Lies.cell h hx (j:=0) rfl,El.Lies.cell h hx (j:=1) rfl,El.Lies.cell h hx (j:=2) rfl,El.Lies.cell h hx (j:=3) rfl,El.Lies.cell h hx (j:=4) rfl,El.Lies.cell h hx (j:=5) rfl,El.Lies.cell h hx (j:=6) rfl⟩
theorem hopTwice {T:TypeId}{pre post:List Value}{ow:Nat}(hTa:T≠69)(k B:Nat)(W:Wd)(ro pl n:Int)(tx:ByteArray)(i:Nat)(hi:i<3)(w:World){g:Nat}(lay:WLay T pre post ow w B k g W)(hB:B≤w.heap.size)(hkB:NT T)(ok:okW W=true):
  Calls Tryz.prog 66 #[.pointer (some ⟨k,ow,none⟩),(⟨7,(i:Int),ro,pl,n,tx⟩:Ac).v] w fun x w'=>x=.returned (.bool (hopW W ⟨7,(i:Int),ro,pl,n,tx⟩ i).2)∧WLay T pre post ow w' B k g (hopW W ⟨7,(i:Int),ro,pl,n,tx⟩ i).1∧Fr B g w w':=by
 obtain⟨cH,xs,aR,cR,A⟩:=lay
 have hmix:=Tak.mix
 obtain⟨okh,oks⟩:=ok_parts.1 ok
 obtain⟨ya,hx,hxh⟩:=A.hop okh hi
 have hrl:W.rs.length≤2097152:=by have:=(hops_iff.1 okh).2.1;simp only [roadsB,Bool.and_eq_true,decide_eq_true_eq]at this;omega
 obtain⟨hxo,hxr⟩:=at_ok okh hi
 rw [←hxh]at hxo hxr
 obtain⟨hw30,hgo,hto,hlo⟩:=hop_ok hxo
 have HXH:Hid (ya.h=W.at i):=hxh
 clear hxh
 have hIn: ∀w',Calls Tryz.prog 57 #[.int .i64 (i:Int),.int .i64 0,.int .i64 2] w' fun x w''=>x=.returned (.bool true)∧w'=w'':=fun w'=>Tak.l1InEq (decide_eq_true ⟨by omega,by omega⟩) w'
 have bW:=(Below.refl w.heap.size w).alloc (Nat.le_refl _) (.cells #[.int .i64 7,.int .i64 (i:Int),.int .i64 ro,.int .i64 pl,.int .i64 n,.string tx] 69)
 have v0:Var 69 (w.alloc (.cells #[.int .i64 7,.int .i64 (i:Int),.int .i64 ro,.int .i64 pl,.int .i64 n,.string tx] 69)) w.heap.size [.int .i64 7,.int .i64 (i:Int),.int .i64 ro,.int .i64 pl,.int .i64 n,.string tx]:=Var.new w _
 replace A:=A.later bW
 have e0:=A.v.cell0 rfl
 have e1:=A.v.cell (i:=1) rfl
 have d0:=v0.cell (i:=0) rfl
 have d1:=v0.cell (i:=1) rfl
 have d2:=v0.cell (i:=2) rfl
 have d3:=v0.cell (i:=3) rfl
 have d4:=v0.cell (i:=4) rfl
 have i0:(0:Int)≤(i:Int):=by omega
 have i1:(i:Int)<3:=by omega
 have HIN:Hid _:=hIn
 clear hIn
 go_enter Tryz.func66,Tryz.ntmps66
 go_upto_region 1 with(fail)
 generalize w.alloc (.cells #[.int .i64 7,.int .i64 (i:Int),.int .i64 ro,.int .i64 pl,.int .i64 n,.string tx] 69)=V at *
 go_wp2_with fail
 refine(HIN.out _).mono ?_
 rintro e w1 ⟨rfl,rfl⟩
 clear HIN
 go_wp2_with fail
 have le0:=Draw.Later.cell e0
 have l1:=Draw.Later.cell d1
 refine Draw.wp_region_later hmix (by kernel_rfl) ?_
 repeat (go_big_quiet_step (fail))
 refine wpQuiet_nil ?_
 intro wq hw'
 obtain⟨q9,hq9⟩:=hw'
 have hBq:=q9.h
 rw [←hq9]at hBq
 clear hq9 q9 le0 l1 e0 e1 d0 d1 d2 d3 d4
 replace bW:=bW.trans (hBq.mono bW.size)
 replace A:=A.later hBq
 replace v0:=v0.later hBq
 clear hBq
 have e0:=A.v.cell0 rfl
 have e1:=A.v.cell (i:=1) rfl
 have d0:=v0.cell (i:=0) rfl
 have d1:=v0.cell (i:=1) rfl
 have d2:=v0.cell (i:=2) rfl
 have d3:=v0.cell (i:=3) rfl
 have d4:=v0.cell (i:=4) rfl
 have HS:Hid (w.heap.size<wq.heap.size):=v0.lt
 go_wp2_with fail
 obtain⟨kA,hkA⟩: ∃kA,w.heap.size=kA:=⟨_,rfl⟩
 rw [hkA]at v0 d0 d1 d2 d3 d4 HS ⊢
 have cW:=own_cell A.L.row hx (j:=12) rfl
 have l4:=Draw.Later.cell d4
 have lW:=Draw.Later.cell cW
 clear e0 e1 d0 d1 d2 d3 d4 cW
 by_cases hn0:n<0
 ·have hn0d:decide (0≤n)=false:=decide_eq_false (by omega)
  have hR:Hid (hopW W ⟨7,(i:Int),ro,pl,n,tx⟩ i=(W,false)):=by show _=_;simp [hopW,show ¬0≤n by omega]
  refine Draw.wp_region_later hmix (by kernel_rfl) ?_
  repeat (go_big_quiet_step (fail))
  refine wpQuiet_nil ?_
  intro wr hw'
  obtain⟨q9,hq9⟩:=hw'
  have hBq:=q9.h
  rw [←hq9]at hBq
  clear hq9 q9
  replace bW:=bW.trans (hBq.mono bW.size)
  replace A:=A.later hBq
  replace v0:=v0.later hBq
  clear hBq
  clear l4 lW
  go_wp2_with fail
  go_ret
  exact⟨by rw [hR.out];rfl,by rw [hR.out];exact⟨cH,xs,aR,cR,A⟩,Fr.ofB bW hB⟩
 have hn0d:decide (0≤n)=true:=decide_eq_true (by omega)
 by_cases hn1:(ya.h.ws.length:Int)≤n
 ·have hn1d:decide (n<(ya.h.ws.length:Int))=false:=decide_eq_false (by omega)
  have hR:Hid (hopW W ⟨7,(i:Int),ro,pl,n,tx⟩ i=(W,false)):=by show _=_;simp [hopW,show 0≤n by omega,←HXH.out,List.getElem?_eq_none (show ya.h.ws.length≤n.toNat by omega)]
  refine Draw.wp_region_later hmix (by kernel_rfl) ?_
  repeat (go_big_quiet_step (fail))
  refine wpQuiet_nil ?_
  intro wr hw'
  obtain⟨q9,hq9⟩:=hw'
  have hBq:=q9.h
  rw [←hq9]at hBq
  clear hq9 q9
  replace bW:=bW.trans (hBq.mono bW.size)
  replace A:=A.later hBq
  replace v0:=v0.later hBq
  clear hBq
  clear l4 lW
  go_wp2_with fail
  go_ret
  exact⟨by rw [hR.out];rfl,by rw [hR.out];exact⟨cH,xs,aR,cR,A⟩,Fr.ofB bW hB⟩
 clear l4 lW hn0d
 obtain⟨jn,rfl⟩: ∃jn:Nat,n=(jn:Int):=⟨n.toNat,by omega⟩
 have hj:jn<ya.h.ws.length:=by omega
 obtain⟨lt,hlt⟩: ∃lt,ya.h.ws[jn]? =some lt:=⟨_,List.getElem?_eq_getElem hj⟩
 have hls:lt.bs.size≤2097152:=by have:=(let_in (hlo lt (List.mem_of_getElem? hlt))).2;omega
 have j0:(0:Int)≤(jn:Int):=by omega
 have j1:(jn:Int)<(ya.h.ws.length:Int):=by omega
 have Rx:=A.L.rows ya (List.mem_of_getElem? hx)
 obtain⟨b,off,hab⟩: ∃b off,Hid (ya.aW=some ⟨b,off,none⟩):=by
  rcases Rx.l.lies with e|⟨b,off,e,h⟩
  ·rw [e]at hj;simp at hj
  ·exact⟨b,off,e⟩
 clear Rx hn0 hn1
 have hR2:Hid (hopW W ⟨7,(i:Int),ro,pl,(jn:Int),tx⟩ i=(W.put i (postH (W.at i) lt),postB (W.at i) lt)):=by show _=_;rw [←HXH.out];simp [hopW,←HXH.out,hlt]
 obtain⟨R,hR⟩: ∃R,postB ya.h lt=R:=⟨_,rfl⟩
 have hRW:Hid (postB (W.at i) lt=R):=by show _=_;rw [←HXH.out];exact hR
 have keepG: ∀(j:Nat) (d:Nat→Bool) (w1 w':World),(fun d w'=>Win T pre post ow w' k [.slice (some ⟨g,0,none⟩) 3 cH,.slice aR W.rs.length cR,.string W.tx,.int .i64 W.rd,.bool W.en,.bool W.dn,.bool W.sn]∧Var 69 w' kA [.int .i64 7,.int .i64 (i:Int),.int .i64 ro,.int .i64 pl,.int .i64 (jn:Int),.string tx]∧Roa.E.Own 95 w' B aR cR W.rs∧(d 23=false→WAt T pre post ow w' B k g cH xs aR cR W∧Below w.heap.size w w')∧(d 23=true→WLay T pre post ow w' B k g (W.put i (postH (W.at i) lt))∧Fr B g w w')) d w1→j≠23→Below w1.heap.size w1 w'→(fun d w'=>Win T pre post ow w' k [.slice (some ⟨g,0,none⟩) 3 cH,.slice aR W.rs.length cR,.string W.tx,.int .i64 W.rd,.bool W.en,.bool W.dn,.bool W.sn]∧Var 69 w' kA [.int .i64 7,.int .i64 (i:Int),.int .i64 ro,.int .i64 pl,.int .i64 (jn:Int),.string tx]∧Roa.E.Own 95 w' B aR cR W.rs∧(d 23=false→WAt T pre post ow w' B k g cH xs aR cR W∧Below w.heap.size w w')∧(d 23=true→WLay T pre post ow w' B k g (W.put i (postH (W.at i) lt))∧Fr B g w w')) (fun q=>q==j||d q) w':=fun j d w1 w' hW hj hb=>by
  have ez:((23:Nat)==j)=false:=beq_eq_false_iff_ne.2 (Ne.symm hj)
  simp only [ez,Bool.false_or]
  obtain⟨u0,u1,u2,u3,u4⟩:=hW
  refine⟨u0.later hb,u1.later hb,u2.later hb,fun hd=>⟨(u3 hd).1.later hb,(u3 hd).2.trans (hb.mono (u3 hd).2.size)⟩,fun hd=>?_⟩
  obtain⟨⟨c2,x2,a2,r2,A2⟩,b2⟩:=u4 hd
  exact⟨⟨c2,x2,a2,r2,A2.later hb⟩,b2.later hb (Nat.le_trans hB b2.size)⟩
 have keepW: ∀(j:Nat) (d:Nat→Bool) (w1:World),(fun d w'=>Win T pre post ow w' k [.slice (some ⟨g,0,none⟩) 3 cH,.slice aR W.rs.length cR,.string W.tx,.int .i64 W.rd,.bool W.en,.bool W.dn,.bool W.sn]∧Var 69 w' kA [.int .i64 7,.int .i64 (i:Int),.int .i64 ro,.int .i64 pl,.int .i64 (jn:Int),.string tx]∧Roa.E.Own 95 w' B aR cR W.rs∧(d 23=false→WAt T pre post ow w' B k g cH xs aR cR W∧Below w.heap.size w w')∧(d 23=true→WLay T pre post ow w' B k g (W.put i (postH (W.at i) lt))∧Fr B g w w')) d w1→j≠23→(fun d w'=>Win T pre post ow w' k [.slice (some ⟨g,0,none⟩) 3 cH,.slice aR W.rs.length cR,.string W.tx,.int .i64 W.rd,.bool W.en,.bool W.dn,.bool W.sn]∧Var 69 w' kA [.int .i64 7,.int .i64 (i:Int),.int .i64 ro,.int .i64 pl,.int .i64 (jn:Int),.string tx]∧Roa.E.Own 95 w' B aR cR W.rs∧(d 23=false→WAt T pre post ow w' B k g cH xs aR cR W∧Below w.heap.size w w')∧(d 23=true→WLay T pre post ow w' B k g (W.put i (postH (W.at i) lt))∧Fr B g w w')) (fun q=>q==j||d q) w1:=fun j d w1 hW hj=>keepG j d w1 w1 hW hj (Below.refl _ _)
 refine RegJ.wp_region_J (W:=(fun d w'=>Win T pre post ow w' k [.slice (some ⟨g,0,none⟩) 3 cH,.slice aR W.rs.length cR,.string W.tx,.int .i64 W.rd,.bool W.en,.bool W.dn,.bool W.sn]∧Var 69 w' kA [.int .i64 7,.int .i64 (i:Int),.int .i64 ro,.int .i64 pl,.int .i64 (jn:Int),.string tx]∧Roa.E.Own 95 w' B aR cR W.rs∧(d 23=false→WAt T pre post ow w' B k g cH xs aR cR W∧Below w.heap.size w w')∧(d 23=true→WLay T pre post ow w' B k g (W.put i (postH (W.at i) lt))∧Fr B g w w'))) (RegJ.Val [some (.pointer (some ⟨kA,4,none⟩)),some (.int .i64 (jn:Int)),some (.bool true),some (.bool true),some (.pointer (some ⟨kA,4,none⟩)),some (.int .i64 (jn:Int)),some (.pointer (some ⟨g,i*13,none⟩)),some (.pointer (some ⟨g,i*13,none⟩)),some (.pointer (some ⟨g,i*13+12,none⟩)),some (.slice (some ⟨b,off,none⟩) ya.h.ws.length ya.cW),some (.int .i64 (ya.h.ws.length:Int)),some (.bool true),some (.bool true),some (.bool true),some (.pointer (some ⟨g,i*13,none⟩)),some (.pointer (some ⟨g,i*13,none⟩)),some (.pointer (some ⟨g,i*13,none⟩)),some (.pointer (some ⟨g,i*13+12,none⟩)),some (.slice (some ⟨b,off,none⟩) ya.h.ws.length ya.cW),some (.pointer (some ⟨kA,4,none⟩)),some (.int .i64 (jn:Int)),some (.pointer (some ⟨b,off+jn*7,none⟩)),some (.agg #[.bool lt.bk,.int .i64 lt.rd,.int .i64 lt.pl,.string lt.bs,.bool lt.en,.int .i64 lt.lm,.bool lt.dn]),some (.bool R),some (.bool R),some (.bool R)]) [some 120,some 121,some 122,some 123,some 124,some 125,some 126,some 127,some 128,some 129,some 130,some 131,some 132,some 133,some 134,some 135,some 136,some 137,some 138,some 139,some 140,some 141,some 142,some 143,some 144,some 4] (F:=?_) (is:=[0,1,2,3,4,5,6,7,8,9,10,11,12,13,14,15,16,17,18,19,20,21,22,23,24,25]) hmix (by kernel_rfl) (by kernel_rfl) (by kernel_rfl) (by kernel_rfl) (fun x=>?_) (⟨A.v.drew,v0.drew,A.R.drew,fun _=>⟨⟨A.v.drew,A.L.drew,A.hs,A.R.drew⟩,bW.drew⟩,fun hd=>(by cases hd)⟩) ?_ (fun dR xR wR hWR hdR hJR=>?_)
 rotate_left 1
 focus (simp only [RegJ.lay,Act.put,Nat.reduceAdd,Nat.zero_add,Draw.lays];rfl)
 focus
  iterate 26 (refine RegJ.Steps.cons (RegJ.StepAt.mk rfl (fun d x w1 hW1 hJ1 hx1 K hK=>?_)) ?_;simp only [Draw.lays]at hK;rotate_left 1)
  exact RegJ.Steps.nil
  ·go_simp;exact hK.out _ _ (keepW 0 d _ hW1 (by decide)) RegJ.Val.keep (RegJ.Val.this (Or.inl rfl))
  ·obtain⟨u0,u1,u2,u3,u4⟩:=id hW1;have c:=u1.cell (i:=4) rfl;have j0:x 0=_:=(hJ1.out 0 (by kernel_rfl)).2 _ rfl;rw [j0]at hK;go_simp;exact hK.out _ _ (keepW 1 d _ hW1 (by decide)) RegJ.Val.keep (RegJ.Val.this (Or.inl rfl))
  ·have j1:x 1=_:=(hJ1.out 1 (by kernel_rfl)).2 _ rfl;rw [j1]at hK;go_simp;exact hK.out _ _ (keepW 2 d _ hW1 (by decide)) RegJ.Val.keep (RegJ.Val.this (Or.inl rfl))
  ·have j2:x 2=_:=(hJ1.out 2 (by kernel_rfl)).2 _ rfl;rw [j2]at hK;go_simp;exact hK.out _ _ (keepW 3 d _ hW1 (by decide)) RegJ.Val.keep (RegJ.Val.this (Or.inl rfl))
  ·have j3:x 3=_:=(hJ1.out 3 (by kernel_rfl)).2 _ rfl;rw [j3]at hK;go_simp;exact hK.out _ _ (keepW 4 d _ hW1 (by decide)) RegJ.Val.keep (RegJ.Val.this (Or.inl rfl))
  ·obtain⟨u0,u1,u2,u3,u4⟩:=id hW1;have c:=u1.cell (i:=4) rfl;have j3:x 3=_:=(hJ1.out 3 (by kernel_rfl)).2 _ rfl;rw [j3]at hK;have j4:x 4=_:=(hJ1.out 4 (by kernel_rfl)).2 _ rfl;rw [j4]at hK;go_simp;exact hK.out _ _ (keepW 5 d _ hW1 (by decide)) RegJ.Val.keep (RegJ.Val.this (Or.inl rfl))
  ·have j3:x 3=_:=(hJ1.out 3 (by kernel_rfl)).2 _ rfl;rw [j3]at hK;go_simp;exact hK.out _ _ (keepW 6 d _ hW1 (by decide)) RegJ.Val.keep (RegJ.Val.this (Or.inl rfl))
  ·have j3:x 3=_:=(hJ1.out 3 (by kernel_rfl)).2 _ rfl;rw [j3]at hK;have j6:x 6=_:=(hJ1.out 6 (by kernel_rfl)).2 _ rfl;rw [j6]at hK;go_simp;exact hK.out _ _ (keepW 7 d _ hW1 (by decide)) RegJ.Val.keep (RegJ.Val.this (Or.inl rfl))
  ·have j3:x 3=_:=(hJ1.out 3 (by kernel_rfl)).2 _ rfl;rw [j3]at hK;have j7:x 7=_:=(hJ1.out 7 (by kernel_rfl)).2 _ rfl;rw [j7]at hK;go_simp;exact hK.out _ _ (keepW 8 d _ hW1 (by decide)) RegJ.Val.keep (RegJ.Val.this (Or.inl rfl))
  ·obtain⟨u0,u1,u2,u3,u4⟩:=id hW1;have hdz:Hid _:=(hx1.out 23 (.inr (by kernel_rfl))).1;obtain⟨A1,b1⟩:=u3 hdz.out;have cw:=own_cell A1.L.row hx (j:=12) rfl;rw [hab.out]at cw;have j3:x 3=_:=(hJ1.out 3 (by kernel_rfl)).2 _ rfl;rw [j3]at hK;have j8:x 8=_:=(hJ1.out 8 (by kernel_rfl)).2 _ rfl;rw [j8]at hK;go_simp;exact hK.out _ _ (keepW 9 d _ hW1 (by decide)) RegJ.Val.keep (RegJ.Val.this (Or.inl rfl))
  ·have j3:x 3=_:=(hJ1.out 3 (by kernel_rfl)).2 _ rfl;rw [j3]at hK;have j9:x 9=_:=(hJ1.out 9 (by kernel_rfl)).2 _ rfl;rw [j9]at hK;go_simp;exact hK.out _ _ (keepW 10 d _ hW1 (by decide)) RegJ.Val.keep (RegJ.Val.this (Or.inl rfl))
  ·have j3:x 3=_:=(hJ1.out 3 (by kernel_rfl)).2 _ rfl;rw [j3]at hK;have j5:x 5=_:=(hJ1.out 5 (by kernel_rfl)).2 _ rfl;rw [j5]at hK;have j10:x 10=_:=(hJ1.out 10 (by kernel_rfl)).2 _ rfl;rw [j10]at hK;go_simp;exact hK.out _ _ (keepW 11 d _ hW1 (by decide)) RegJ.Val.keep (RegJ.Val.this (Or.inl rfl))
  ·have j3:x 3=_:=(hJ1.out 3 (by kernel_rfl)).2 _ rfl;rw [j3]at hK;have j11:x 11=_:=(hJ1.out 11 (by kernel_rfl)).2 _ rfl;rw [j11]at hK;go_simp;exact hK.out _ _ (keepW 12 d _ hW1 (by decide)) RegJ.Val.keep (RegJ.Val.this (Or.inl rfl))
  ·have j12:x 12=_:=(hJ1.out 12 (by kernel_rfl)).2 _ rfl;rw [j12]at hK;go_simp;exact hK.out _ _ (keepW 13 d _ hW1 (by decide)) RegJ.Val.keep (RegJ.Val.this (Or.inl rfl))
  ·have j13:x 13=_:=(hJ1.out 13 (by kernel_rfl)).2 _ rfl;rw [j13]at hK;go_simp;exact hK.out _ _ (keepW 14 d _ hW1 (by decide)) RegJ.Val.keep (RegJ.Val.this (Or.inl rfl))
  ·have j13:x 13=_:=(hJ1.out 13 (by kernel_rfl)).2 _ rfl;rw [j13]at hK;go_simp;exact hK.out _ _ (keepW 15 d _ hW1 (by decide)) RegJ.Val.keep (RegJ.Val.this (Or.inl rfl))
  ·have j13:x 13=_:=(hJ1.out 13 (by kernel_rfl)).2 _ rfl;rw [j13]at hK;have j15:x 15=_:=(hJ1.out 15 (by kernel_rfl)).2 _ rfl;rw [j15]at hK;go_simp;exact hK.out _ _ (keepW 16 d _ hW1 (by decide)) RegJ.Val.keep (RegJ.Val.this (Or.inl rfl))
  ·have j13:x 13=_:=(hJ1.out 13 (by kernel_rfl)).2 _ rfl;rw [j13]at hK;have j16:x 16=_:=(hJ1.out 16 (by kernel_rfl)).2 _ rfl;rw [j16]at hK;go_simp;exact hK.out _ _ (keepW 17 d _ hW1 (by decide)) RegJ.Val.keep (RegJ.Val.this (Or.inl rfl))
  ·obtain⟨u0,u1,u2,u3,u4⟩:=id hW1;have hdz:Hid _:=(hx1.out 23 (.inr (by kernel_rfl))).1;obtain⟨A1,b1⟩:=u3 hdz.out;have cw:=own_cell A1.L.row hx (j:=12) rfl;rw [hab.out]at cw;have j13:x 13=_:=(hJ1.out 13 (by kernel_rfl)).2 _ rfl;rw [j13]at hK;have j17:x 17=_:=(hJ1.out 17 (by kernel_rfl)).2 _ rfl;rw [j17]at hK;go_simp;exact hK.out _ _ (keepW 18 d _ hW1 (by decide)) RegJ.Val.keep (RegJ.Val.this (Or.inl rfl))
  ·have j13:x 13=_:=(hJ1.out 13 (by kernel_rfl)).2 _ rfl;rw [j13]at hK;go_simp;exact hK.out _ _ (keepW 19 d _ hW1 (by decide)) RegJ.Val.keep (RegJ.Val.this (Or.inl rfl))
  ·obtain⟨u0,u1,u2,u3,u4⟩:=id hW1;have c:=u1.cell (i:=4) rfl;have j13:x 13=_:=(hJ1.out 13 (by kernel_rfl)).2 _ rfl;rw [j13]at hK;have j19:x 19=_:=(hJ1.out 19 (by kernel_rfl)).2 _ rfl;rw [j19]at hK;go_simp;exact hK.out _ _ (keepW 20 d _ hW1 (by decide)) RegJ.Val.keep (RegJ.Val.this (Or.inl rfl))
  ·have j13:x 13=_:=(hJ1.out 13 (by kernel_rfl)).2 _ rfl;rw [j13]at hK;have j18:x 18=_:=(hJ1.out 18 (by kernel_rfl)).2 _ rfl;rw [j18]at hK;have j20:x 20=_:=(hJ1.out 20 (by kernel_rfl)).2 _ rfl;rw [j20]at hK;go_simp;exact hK.out _ _ (keepW 21 d _ hW1 (by decide)) RegJ.Val.keep (RegJ.Val.this (Or.inl rfl))
  ·obtain⟨u0,u1,u2,u3,u4⟩:=id hW1;have hdz:Hid _:=(hx1.out 23 (.inr (by kernel_rfl))).1;obtain⟨A1,b1⟩:=u3 hdz.out;obtain⟨c0,c1,c2,c3,c4,c5,c6⟩:=way_cells (A1.L.rows ya (List.mem_of_getElem? hx)).l hab.out hlt;have j13:x 13=_:=(hJ1.out 13 (by kernel_rfl)).2 _ rfl;rw [j13]at hK;have j21:x 21=_:=(hJ1.out 21 (by kernel_rfl)).2 _ rfl;rw [j21]at hK;go_simp;exact hK.out _ _ (keepW 22 d _ hW1 (by decide)) RegJ.Val.keep (RegJ.Val.this (Or.inl rfl))
  ·obtain⟨u0,u1,u2,u3,u4⟩:=id hW1;have hdz:Hid _:=(hx1.out 23 (.inl rfl)).1;obtain⟨A1,b1⟩:=u3 hdz.out;have j13:x 13=_:=(hJ1.out 13 (by kernel_rfl)).2 _ rfl;rw [j13]at hK;have j14:x 14=_:=(hJ1.out 14 (by kernel_rfl)).2 _ rfl;rw [j14]at hK;have j22:x 22=_:=(hJ1.out 22 (by kernel_rfl)).2 _ rfl;rw [j22]at hK;obtain⟨pr,po,vx,rx,back⟩:=A1.L.step hx;have hBw:B≤w1.heap.size:=Nat.le_trans hB b1.size;have hgA:kA≠g:=(own_varS2 A1.L.row u1);have hwA:some kA≠blk ya.aW:=(own_varS3 rx.l u1);have hlb:Hid _:=back;clear back;go_simp;refine(l7PostL (by decide) g B ya.h ya.aT ya.cT ya.aW ya.cW lt w1 vx rx.l hBw (by omega) hls).mono ?_;rintro e wa ⟨aW',cW',rfl,va,oa,ka,la⟩;have L':=hlb.out wa ⟨postH ya.h lt,ya.aT,ya.cT,aW',cW'⟩ va ⟨by rw [show(postH ya.h lt).t=ya.h.t from post_t _ _];exact rx.p.keep ka (own_win (by decide) rx.p vx) (own_two (by decide) rx.p rx.l),oa⟩ ka la;obtain⟨A2,b2⟩:=A1.turn hkB hx L' ka hBw;have hv2:=A2.v;have hu1:Var 69 wa kA [.int .i64 7,.int .i64 (i:Int),.int .i64 ro,.int .i64 pl,.int .i64 (jn:Int),.string tx]:=u1.same (ka.block kA u1.lt hgA hwA);have hWL:WLay T pre post ow wa B k g (W.put i (postH (W.at i) lt)):=(by rw [←HXH.out];exact⟨cH,_,aR,cR,A2⟩);rw [hR];go_simp;exact hK.out _ _ ⟨hv2,hu1,A2.R,fun hd=>absurd hd (by simp),fun _=>⟨hWL,(Fr.ofB b1 hB).trans b2⟩⟩ RegJ.Val.keep (RegJ.Val.this (Or.inl rfl))
  ·have j13:x 13=_:=(hJ1.out 13 (by kernel_rfl)).2 _ rfl;rw [j13]at hK;have j23:x 23=_:=(hJ1.out 23 (by kernel_rfl)).2 _ rfl;rw [j23]at hK;go_simp;exact hK.out _ _ (keepW 24 d _ hW1 (by decide)) RegJ.Val.keep (RegJ.Val.this (Or.inl rfl))
  ·have j24:x 24=_:=(hJ1.out 24 (by kernel_rfl)).2 _ rfl;rw [j24]at hK;go_simp;exact hK.out _ _ (keepW 25 d _ hW1 (by decide)) RegJ.Val.keep (RegJ.Val.this (Or.inl rfl))
 have j25:xR 25=.bool R:=(hJR 25 (by simp)).2 _ rfl
 rw [j25]
 obtain⟨-,-,-,-,u4⟩:=hWR
 obtain⟨Lf,bf⟩:=u4 (hdR 23 (by simp))
 clear hJR hdR keepG keepW j25
 go_wp2_with fail
 go_ret
 exact⟨by rw [hR2.out,hRW.out];rfl,by rw [hR2.out];exact Lf,bf⟩
end Go.Proofs.YtfejobjgbadfjaaGreat.Wor
