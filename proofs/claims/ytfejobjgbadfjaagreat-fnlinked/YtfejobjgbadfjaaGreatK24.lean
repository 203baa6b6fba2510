/- Contracts of this seat's functions, and their mathematics (WorK). -/
import Derived.Test.YtfejobjgbadfjaaGreatK23
import Derived.Test.YtfejobjgbadfjaaGreatK17
set_option linter.unusedVariables false
set_option linter.unusedSimpArgs false
set_option maxRecDepth 10000
set_option maxHeartbeats 8000000
namespace Go.Proofs.YtfejobjgbadfjaaGreat.Wor
open Go.RowKit RowG Hop Roa Pum Lin
abbrev Wd.st (W:Wd):Str.Sm:=⟨W.tx,W.rd,W.en,W.dn,W.sn⟩
abbrev Wd.with (W:Wd)(s:Str.Sm):Wd:=⟨W.hs,W.rs,s.tx,s.rd,s.en,s.dn,s.sn⟩
theorem WAt.stream {T:TypeId}{pre post:List Value}{ow:Nat}{w:World}{B k g cH:Nat}{xs:List Ha}{aR:Option Addr}{cR:Nat}{W:Wd}(h:WAt T pre post ow w B k g cH xs aR cR W)(hkB:NT T):
  Win T (pre++[.slice (some ⟨g,0,none⟩) 3 cH,.slice aR W.rs.length cR]) post (ow+2) w k W.st.c∧ ∀w' (s:Str.Sm),Win T (pre++[.slice (some ⟨g,0,none⟩) 3 cH,.slice aR W.rs.length cR]) post (ow+2) w' k s.c→Draw.Kept k w w'→WAt T pre post ow w' B k g cH xs aR cR (W.with s):=by
 have h1:=Win.sub (a:=[.slice (some ⟨g,0,none⟩) 3 cH,.slice aR W.rs.length cR]) (b:=W.st.c) (c:=[]) (by simpa using h.v)
 refine⟨by simpa using h1,fun w' s v kp=>⟨?_,h.L.keptW h.v hkB kp,h.hs,h.R.kept kp (own_win hkB.r h.R h.v)⟩⟩
 have h2:=Win.up (T:=T) (pre:=pre) (post:=post) (a:=[.slice (some ⟨g,0,none⟩) 3 cH,.slice aR W.rs.length cR]) (b:=s.c) (c:=[]) (o:=ow) (w:=w') (k:=k) (by simpa using v)
 simpa using h2
theorem l16Read {T:TypeId}{pre post:List Value}{ow:Nat}(k B:Nat)(W:Wd)(n:Int)(w:World){g:Nat}(lay:WLay T pre post ow w B k g W)(hB:B≤w.heap.size)(hkB:NT T)(ok:okW W=true):
  Calls Tryz.prog 67 #[.pointer (some ⟨k,ow,none⟩),.int .i64 n] w fun x w'=>x=.returned (.bool (readW W n).2)∧WLay T pre post ow w' B k g (readW W n).1∧KW B k g w w':=by
 obtain⟨cH,xs,aR,cR,A⟩:=lay
 have hmix:=Tak.mix
 obtain⟨okh,oks⟩:=ok_parts.1 ok
 obtain⟨ya,hx,hxh⟩:=A.hop okh (show 2<3 by omega)
 obtain⟨hxo,hxr⟩:=at_ok okh (show 2<3 by omega)
 rw [←hxh]at hxo hxr
 obtain⟨hw30,hgo,hto,hlo⟩:=hop_ok hxo
 have HXH:Hid (ya.h=W.at 2):=hxh
 clear hxh
 obtain⟨s1,s2,s3,s4⟩:=stream_iff.1 oks
 have hin:ya.h.t.bs.size≤400:=by
  have q:=hto
  unfold Tak.Tk.ok Tak.takerB at q
  simp only [Bool.and_eq_true,decide_eq_true_eq]at q
  have q2:=q.1
  unfold Tak.inT at q2
  omega
 have e0:=A.v.cell0 rfl
 by_cases hn:n<0
 ·have hR:Hid (readW W n=(W,false)):=if_pos hn
  go_enter Tryz.func67,Tryz.ntmps67
  go_wp2_with fail
  go_ret
  exact⟨by rw [hR.out];rfl,by rw [hR.out];exact⟨cH,xs,aR,cR,A⟩,KW.refl _ _ _ _⟩
 have c7:=own_cell A.L.row hx (j:=7) rfl
 go_enter Tryz.func67,Tryz.ntmps67
 go_wp2_with fail
 obtain⟨m,hm⟩: ∃m:Nat,min n (ya.h.t.bs.size:Int)=(m:Int):=⟨(min n (ya.h.t.bs.size:Int)).toNat,by omega⟩
 have hmin:Hid (∀w',Calls Tryz.prog 38 #[.int .i64 n,.int .i64 (ya.h.t.bs.size:Int)] w' fun e w''=>e=.returned (.int .i64 (m:Int))∧w'=w''):=fun w'=>by
  have:=Tak.l1Min n (ya.h.t.bs.size:Int) w'
  rw [show(if n<(ya.h.t.bs.size:Int)then n else(ya.h.t.bs.size:Int))=(m:Int) by rw [←hm];split <;>omega]at this
  exact this
 have hm1:m≤ya.h.t.bs.size:=by omega
 have HRW:Hid (readW W n=if (W.tx.size:Int)<W.rd+(m:Int)∨W.tx.extract W.rd.toNat (W.rd+(m:Int)).toNat≠ya.h.t.bs.extract 0 m then(W,false)else
   (if ya.h.t.en&&decide ((ya.h.t.bs.size:Int)=(m:Int))then(tellW {W.put 2 (ya.tk (leftT ya.h.t m)).h with rd:=W.rd+(m:Int)} true,decide (0<(m:Int))||tellB {W.put 2 (ya.tk (leftT ya.h.t m)).h with rd:=W.rd+(m:Int)} true)else({W.put 2 (ya.tk (leftT ya.h.t m)).h with rd:=W.rd+(m:Int)},decide (0<(m:Int))))):=by
  show _=_
  unfold readW
  rw [if_neg (by omega),←HXH.out]
  dsimp only
  rw [hm,show((m:Int)).toNat=m by omega]
 clear hm
 refine(hmin.out _).mono ?_
 rintro e w1 ⟨rfl,rfl⟩
 clear hmin
 have m0:(0:Int)≤(m:Int):=by omega
 have m1:(m:Int)≤(ya.h.t.bs.size:Int):=by omega
 have hbz:(ya.h.t.bs.extract 0 m).size=m:=by rw [Giv.ext_size _ _ _ hm1];omega
 go_wp2_with fail
 obtain⟨rb,hrb⟩: ∃rb,Str.readB W.st (ya.h.t.bs.extract 0 m)=rb:=⟨_,rfl⟩
 have keepW: ∀(j:Nat) (d:Nat→Bool) (w1:World),(fun d w'=>(d 9=false→WAt T pre post ow w' B k g cH xs aR cR W∧Below w.heap.size w w')∧(d 9=true→WAt T pre post ow w' B k g cH xs aR cR (W.with (Str.readS W.st (ya.h.t.bs.extract 0 m)))∧Draw.Kept k w w')) d w1→j≠9→(fun d w'=>(d 9=false→WAt T pre post ow w' B k g cH xs aR cR W∧Below w.heap.size w w')∧(d 9=true→WAt T pre post ow w' B k g cH xs aR cR (W.with (Str.readS W.st (ya.h.t.bs.extract 0 m)))∧Draw.Kept k w w')) (fun q=>q==j||d q) w1:=fun j d w1 hW hj=>by
  have ez:((9:Nat)==j)=false:=beq_eq_false_iff_ne.2 (Ne.symm hj)
  simp only [ez,Bool.false_or]
  exact hW
 refine RegJ.wp_region_J (W:=(fun d w'=>(d 9=false→WAt T pre post ow w' B k g cH xs aR cR W∧Below w.heap.size w w')∧(d 9=true→WAt T pre post ow w' B k g cH xs aR cR (W.with (Str.readS W.st (ya.h.t.bs.extract 0 m)))∧Draw.Kept k w w'))) (RegJ.Val [some (.pointer (some ⟨k,ow,none⟩)),some (.pointer (some ⟨k,ow,none⟩)),some (.pointer (some ⟨k,ow+2,none⟩)),some (.pointer (some ⟨g,32,none⟩)),some (.pointer (some ⟨g,32,none⟩)),some (.pointer (some ⟨g,33,none⟩)),some (.string ya.h.t.bs),some (.int .i64 (m:Int)),some (.string (ya.h.t.bs.extract 0 m)),some (.bool rb),some (.bool (!rb))]) [some 23,some 24,some 25,some 26,some 27,some 28,some 29,some 30,some 31,some 32,some 33] (F:=?_) (is:=[0,1,2,3,4,5,6,7,8,9,10]) hmix (by kernel_rfl) (by kernel_rfl) (by kernel_rfl) (by kernel_rfl) (fun x=>?_) (⟨fun _=>⟨⟨A.v.drew,A.L.drew,A.hs,A.R.drew⟩,(Below.refl _ _).drew⟩,fun hd=>(by cases hd)⟩) ?_ (fun dR xR wR hWR hdR hJR=>?_)
 rotate_left 1
 focus (simp only [RegJ.lay,Act.put,Nat.reduceAdd,Nat.zero_add,Draw.lays];rfl)
 focus
  iterate 11 (refine RegJ.Steps.cons (RegJ.StepAt.mk rfl (fun d x w1 hW1 hJ1 hx1 K hK=>?_)) ?_;simp only [Draw.lays]at hK;rotate_left 1)
  exact RegJ.Steps.nil
  ·go_simp;exact hK.out _ _ (keepW 0 d _ hW1 (by decide)) RegJ.Val.keep (RegJ.Val.this (Or.inl rfl))
  ·have j0:x 0=_:=(hJ1.out 0 (by kernel_rfl)).2 _ rfl;rw [j0]at hK;go_simp;exact hK.out _ _ (keepW 1 d _ hW1 (by decide)) RegJ.Val.keep (RegJ.Val.this (Or.inl rfl))
  ·have j1:x 1=_:=(hJ1.out 1 (by kernel_rfl)).2 _ rfl;rw [j1]at hK;go_simp;exact hK.out _ _ (keepW 2 d _ hW1 (by decide)) RegJ.Val.keep (RegJ.Val.this (Or.inl rfl))
  ·go_simp;exact hK.out _ _ (keepW 3 d _ hW1 (by decide)) RegJ.Val.keep (RegJ.Val.this (Or.inl rfl))
  ·have j3:x 3=_:=(hJ1.out 3 (by kernel_rfl)).2 _ rfl;rw [j3]at hK;go_simp;exact hK.out _ _ (keepW 4 d _ hW1 (by decide)) RegJ.Val.keep (RegJ.Val.this (Or.inl rfl))
  ·have j4:x 4=_:=(hJ1.out 4 (by kernel_rfl)).2 _ rfl;rw [j4]at hK;go_simp;exact hK.out _ _ (keepW 5 d _ hW1 (by decide)) RegJ.Val.keep (RegJ.Val.this (Or.inl rfl))
  ·have A1:=(hW1.1 (hx1.out 9 (.inr (by kernel_rfl))).1).1;have c7:_=_:=own_cell A1.L.row hx (j:=7) rfl;have j5:x 5=_:=(hJ1.out 5 (by kernel_rfl)).2 _ rfl;rw [j5]at hK;go_simp;exact hK.out _ _ (keepW 6 d _ hW1 (by decide)) RegJ.Val.keep (RegJ.Val.this (Or.inl rfl))
  ·go_simp;exact hK.out _ _ (keepW 7 d _ hW1 (by decide)) RegJ.Val.keep (RegJ.Val.this (Or.inl rfl))
  ·have j6:x 6=_:=(hJ1.out 6 (by kernel_rfl)).2 _ rfl;rw [j6]at hK;have j7:x 7=_:=(hJ1.out 7 (by kernel_rfl)).2 _ rfl;rw [j7]at hK;go_simp;exact hK.out _ _ (keepW 8 d _ hW1 (by decide)) RegJ.Val.keep (RegJ.Val.this (Or.inl rfl))
  ·obtain⟨A1,b1⟩:=hW1.1 (hx1.out 9 (.inl rfl)).1;have j2:x 2=_:=(hJ1.out 2 (by kernel_rfl)).2 _ rfl;rw [j2]at hK;have j8:x 8=_:=(hJ1.out 8 (by kernel_rfl)).2 _ rfl;rw [j8]at hK;obtain⟨sv,sback⟩:=A1.stream hkB;have HSB:Hid _:=sback;clear sback;go_simp;refine(Str.l15Read k W.st (ya.h.t.bs.extract 0 m) w1 sv (by show W.tx.size≤_;omega) (by omega) s2).mono ?_;rintro e wa ⟨rfl,v1,k1⟩;rw [hrb];go_simp;exact hK.out _ _ ⟨fun hd=>absurd hd (by simp),fun _=>⟨HSB.out wa _ v1 k1,(Draw.Kept.ofBelow b1 (Nat.le_refl _)).trans k1⟩⟩ RegJ.Val.keep (RegJ.Val.this (Or.inl rfl))
  ·have j9:x 9=_:=(hJ1.out 9 (by kernel_rfl)).2 _ rfl;rw [j9]at hK;go_simp;exact hK.out _ _ (keepW 10 d _ hW1 (by decide)) RegJ.Val.keep (RegJ.Val.this (Or.inl rfl))
 have j10:xR 10=.bool (!rb):=(hJR 10 (by simp)).2 _ rfl
 rw [j10]
 obtain⟨-,u4⟩:=hWR
 clear A
 obtain⟨A,k1⟩:=u4 (hdR 9 (by simp))
 clear hJR hdR keepW j10 u4
 generalize wR=w1 at *
 cases rb
 ·have hS:Str.readS W.st (ya.h.t.bs.extract 0 m)=W.st:=by unfold Str.readS;rw [hrb];rfl
  rw [hS]at A
  have hR:Hid (readW W n=(W,false)):=by
   show _=_
   rw [HRW.out]
   refine if_pos ?_
   simp only [Str.readB,hbz,Bool.not_eq_false',Bool.or_eq_true,decide_eq_true_eq]at hrb
   exact hrb
  go_wp2_with fail
  go_ret
  exact⟨by rw [hR.out];rfl,by rw [hR.out];exact⟨cH,xs,aR,cR,A⟩,KW.ofKept k1 hB⟩
 ·have hS:Str.readS W.st (ya.h.t.bs.extract 0 m)=⟨W.tx,W.rd+(m:Int),W.en,W.dn,W.sn⟩:=by unfold Str.readS;rw [hrb,hbz];rfl
  rw [hS]at A
  have hRW2:Hid (readW W n=(if ya.h.t.en&&decide ((ya.h.t.bs.size:Int)=(m:Int))then(tellW {W.put 2 (ya.tk (leftT ya.h.t m)).h with rd:=W.rd+(m:Int)} true,decide (0<(m:Int))||tellB {W.put 2 (ya.tk (leftT ya.h.t m)).h with rd:=W.rd+(m:Int)} true)else({W.put 2 (ya.tk (leftT ya.h.t m)).h with rd:=W.rd+(m:Int)},decide (0<(m:Int))))):=by
   show _=_
   rw [HRW.out]
   refine if_neg ?_
   simp only [Str.readB,hbz,Bool.not_eq_true',Bool.or_eq_false_iff,decide_eq_false_iff_not]at hrb
   intro q
   rcases q with q|q
   ·exact hrb.1 q
   ·exact hrb.2 q
  clear HRW hS hrb
  have K1:KW B k g w w1:=KW.ofKept k1 hB
  have hB1:B≤w1.heap.size:=Nat.le_trans hB k1.size
  clear k1 c7
  have c7:=own_cell A.L.row hx (j:=7) rfl
  obtain⟨pr,po,vx,rx,back⟩:=A.L.step hx
  have f7:=vx.free 7
  have v7:=vx.set 7 (.string (ya.h.t.bs.extract m ya.h.t.bs.size))
  have kp:Keep g (blk ya.aW) w1 (w1.setCell ⟨g,33,none⟩ (.string (ya.h.t.bs.extract m ya.h.t.bs.size))):=(Keep.refl g (blk ya.aW) w1).setCell (p:=⟨g,33,none⟩) (.inl rfl) _
  have L':=back (w1.setCell ⟨g,33,none⟩ (.string (ya.h.t.bs.extract m ya.h.t.bs.size))) (ya.tk (leftT ya.h.t m)) (by unfold leftT;rw [show((m:Int)).toNat=m by omega];exact v7) ⟨rx.p.setCell (own_win (by decide) rx.p vx) _,rx.l.setCell (own_win (by decide) rx.l vx) _⟩ kp (Locd.refl _ _)
  obtain⟨A2,b2⟩:=A.turn hkB hx L' kp hB1
  have HA2:Hid _:=A2
  have HB2:Hid _:=b2
  clear back vx rx v7 kp L' A2 b2
  have f7':w1.frozen? ⟨g,33,none⟩=false:=f7
  have c7':w1.cell? ⟨g,33,none⟩=some (.string ya.h.t.bs):=c7
  go_upto_region 8 with(fail)
  generalize w1.setCell ⟨g,33,none⟩ (.string (ya.h.t.bs.extract m ya.h.t.bs.size))=w2 at *
  have A2:=HA2.out
  clear HA2 A c7 c7' f7 f7'
  have hxs:(xs.set 2 (ya.tk (leftT ya.h.t m)))[2]? =some (ya.tk (leftT ya.h.t m)):=by rw [List.getElem?_set_self (List.getElem?_eq_some_iff.1 hx).1]
  generalize xs.set 2 (ya.tk (leftT ya.h.t m))=XS at *
  have K2:KW B k g w w2:=K1.trans (KW.ofFr HB2.out)
  have hB2:B≤w2.heap.size:=Nat.le_trans hB1 HB2.out.size
  clear HB2 K1
  obtain⟨AE,hAE⟩: ∃AE,(ya.h.t.en&&decide ((ya.h.t.bs.size:Int)=(m:Int)))=AE:=⟨_,rfl⟩
  have hAE2:((ya.tk (leftT ya.h.t m)).h.t.en&&decide ((ya.tk (leftT ya.h.t m)).h.t.bs.size=0))=AE:=by
   rw [←hAE]
   show(ya.h.t.en&&decide ((leftT ya.h.t m).bs.size=0))=_
   congr 1
   have:(leftT ya.h.t m).bs.size=ya.h.t.bs.size-m:=by
    unfold leftT
    rw [show((m:Int)).toNat=m by omega]
    exact Giv.ext_size _ _ _ (Nat.le_refl _)
   rw [this]
   congr 1
   apply propext
   omega
  rw [hAE]at hRW2
  generalize hW1:({W.put 2 (ya.tk (leftT ya.h.t m)).h with rd:=W.rd+(m:Int)}:Wd)=W1 at *
  replace A2:WAt T pre post ow w2 B k g cH XS aR cR W1:=by rw [←hW1];exact A2
  have htx:W1.tx.size≤2097152:=by rw [←hW1];show W.tx.size≤_;omega
  have hEnd:=fun(_:Unit)=>l14AtEnd B g cH XS aR W1.rs.length cR (ya.tk (leftT ya.h.t m)) w2 A2.L.row hxs
  simp only [hAE2]at hEnd
  have HEN:Hid _:=hEnd
  clear hEnd hAE2 hxs hW1 hAE
  have e0:=A2.v.cell0 rfl
  have e1:=A2.v.cell (i:=1) rfl
  go_wp2_with fail
  refine(HEN.out ()).mono ?_
  rintro e w3 ⟨rfl,b3⟩
  clear HEN e0 e1
  replace A2:=A2.later b3
  have K3:KW B k g w w3:=K2.trans (KW.ofBelow b3 hB2)
  have hB3:B≤w3.heap.size:=Nat.le_trans hB2 b3.size
  clear K2 b3
  cases AE
  ·rw [if_neg (by decide)]at hRW2
   by_cases hm0:(0:Int)<(m:Int)
   ·have hd:decide ((0:Int)<(m:Int))=true:=decide_eq_true hm0
    rw [hd]at hRW2
    go_wp2_with fail
    go_ret
    exact⟨by rw [hRW2.out];rfl,by rw [hRW2.out];exact⟨cH,XS,aR,cR,A2⟩,K3⟩
   ·have hd:decide ((0:Int)<(m:Int))=false:=decide_eq_false hm0
    rw [hd]at hRW2
    go_wp2_with fail
    go_ret
    exact⟨by rw [hRW2.out];rfl,by rw [hRW2.out];exact⟨cH,XS,aR,cR,A2⟩,K3⟩
  ·rw [if_pos rfl]at hRW2
   obtain⟨sv,sback⟩:=A2.stream hkB
   have HSB:Hid _:=sback
   clear sback
   go_wp2_with fail
   refine(Str.l15Tell k W1.st true _ sv htx).mono ?_
   rintro e w4 ⟨rfl,v4,k4⟩
   have A4:=HSB.out w4 _ v4 k4
   have K4:=K3.trans (KW.ofKept k4 hB3)
   have eW:W1.with (Str.tellS W1.st true)=tellW W1 true:=by
    unfold Str.tellS tellW
    rw [show Str.tellB W1.st true=tellB W1 true from rfl]
    split <;>rfl
   rw [eW]at A4
   clear HSB sv v4 k4 A2 eW
   obtain⟨TB,hTB⟩: ∃TB,tellB W1 true=TB:=⟨_,rfl⟩
   rw [show Str.tellB W1.st true=TB from hTB]
   rw [hTB]at hRW2
   have HA4:Hid _:=A4
   clear A4
   by_cases hm0:(0:Int)<(m:Int)
   ·have hd:decide ((0:Int)<(m:Int))=true:=decide_eq_true hm0
    rw [hd,Bool.true_or]at hRW2
    go_wp2_with fail
    go_ret
    exact⟨by rw [hRW2.out];rfl,by rw [hRW2.out];exact⟨cH,XS,aR,cR,HA4.out⟩,K4⟩
   ·have hd:decide ((0:Int)<(m:Int))=false:=decide_eq_false hm0
    rw [hd,Bool.false_or]at hRW2
    go_wp2_with fail
    go_ret
    exact⟨by rw [hRW2.out];rfl,by rw [hRW2.out];exact⟨cH,XS,aR,cR,HA4.out⟩,K4⟩
end Go.Proofs.YtfejobjgbadfjaaGreat.Wor
