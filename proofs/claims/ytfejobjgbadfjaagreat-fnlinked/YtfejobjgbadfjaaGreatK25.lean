/- Contracts of this seat's functions, and their mathematics (WorL WorM). -/
import Derived.Test.YtfejobjgbadfjaaGreatK24
import Derived.Test.YtfejobjgbadfjaaGreatK17
set_option linter.unusedVariables false
set_option linter.unusedSimpArgs false
set_option maxRecDepth 10000
set_option maxHeartbeats 8000000
namespace Go.Proofs.YtfejobjgbadfjaaGreat.Wor
open Go.RowKit RowG Hop Roa Pum Lin
theorem doHop {T:TypeId}{pre post:List Value}{ow:Nat}(hTa:T≠69)(k B:Nat)(W:Wd)(kd hp ro pl n:Int)(hk:3≤kd∧kd≤8)(tx:ByteArray)(htx:tx.size≤2097152)(w:World){g:Nat}(lay:WLay T pre post ow w B k g W)(hB:B≤w.heap.size)(hkB:NT T)(ok:okW W=true):
  Calls Tryz.prog 46 #[.pointer (some ⟨k,ow,none⟩),(⟨kd,hp,ro,pl,n,tx⟩:Ac).v] w fun x w'=>x=.returned (.bool (doW W ⟨kd,hp,ro,pl,n,tx⟩).2)∧WLay T pre post ow w' B k g (doW W ⟨kd,hp,ro,pl,n,tx⟩).1∧KW B k g w w':=by
 have k1: ¬kd=1:=by omega
 have k2: ¬kd=2:=by omega
 have k1b:(kd==1)=false:=beq_eq_false_iff_ne.2 k1
 have k2b:(kd==2)=false:=beq_eq_false_iff_ne.2 k2
 obtain⟨cH,xs,aR,cR,A⟩:=lay
 have hmix:=Tak.mix
 obtain⟨okh,oks⟩:=ok_parts.1 ok
 obtain⟨ya,hx,hxh⟩:=A.hop okh (show 0<3 by omega)
 obtain⟨hxo,hxr⟩:=at_ok okh (show 0<3 by omega)
 rw [←hxh]at hxo hxr
 obtain⟨hw30,hgo,hto,hlo⟩:=hop_ok hxo
 have HXH:Hid (ya.h=W.at 0):=hxh
 clear hxh
 obtain⟨s1,s2,s3,s4⟩:=stream_iff.1 oks
 have bW:=(Below.refl w.heap.size w).alloc (Nat.le_refl _) (.cells #[.int .i64 kd,.int .i64 hp,.int .i64 ro,.int .i64 pl,.int .i64 n,.string tx] 69)
 have v0:Var 69 (w.alloc (.cells #[.int .i64 kd,.int .i64 hp,.int .i64 ro,.int .i64 pl,.int .i64 n,.string tx] 69)) w.heap.size [.int .i64 kd,.int .i64 hp,.int .i64 ro,.int .i64 pl,.int .i64 n,.string tx]:=Var.new w _
 replace A:=A.later bW
 have e0:=A.v.cell0 rfl
 obtain⟨d0,d1,d2,d3,d4,d5⟩:=v0.c6
 have hIn: ∀w',Calls Tryz.prog 57 #[.int .i64 kd,.int .i64 3,.int .i64 8] w' fun x w''=>x=.returned (.bool (decide (3≤kd∧kd≤8)))∧w'=w'':=fun w'=>Tak.l1In _ _ _ w'
 have HIN:Hid _:=hIn
 clear hIn
 go_enter Tryz.func46,Tryz.ntmps46
 go_upto_region 1 with(fail)
 generalize w.alloc (.cells #[.int .i64 kd,.int .i64 hp,.int .i64 ro,.int .i64 pl,.int .i64 n,.string tx] 69)=V at *
 go_wp2_with fail
 refine(HIN.out _).mono ?_
 rintro e w1 ⟨rfl,rfl⟩
 have hkd:decide (3≤kd∧kd≤8)=true:=decide_eq_true hk
 rw [hkd]
 have hR:Hid (doW W ⟨kd,hp,ro,pl,n,tx⟩=hopR W ⟨kd,hp,ro,pl,n,tx⟩):=by
  show _=_
  simp only [doW,hopR]
  rw [if_neg k1,if_neg k2,if_pos hk]
 clear HIN hkd
 go_wp2_with fail
 refine(l16Hop hTa k B W ⟨kd,hp,ro,pl,n,tx⟩ hk _ ⟨cH,xs,aR,cR,A⟩ (Nat.le_trans hB bW.size) hkB ok).mono ?_
 rintro e w2 ⟨rfl,L2,b2⟩
 have bF:Fr B g w w2:=(Fr.ofB bW hB).trans b2
 go_wp2_with fail
 go_ret
 exact⟨by rw [hR.out];rfl,by rw [hR.out];exact L2,KW.ofFr bF⟩
theorem doRead {T:TypeId}{pre post:List Value}{ow:Nat}(hTa:T≠69)(k B:Nat)(W:Wd)(hp ro pl n:Int)(tx:ByteArray)(htx:tx.size≤2097152)(w:World){g:Nat}(lay:WLay T pre post ow w B k g W)(hB:B≤w.heap.size)(hkB:NT T)(ok:okW W=true):
  Calls Tryz.prog 46 #[.pointer (some ⟨k,ow,none⟩),(⟨9,hp,ro,pl,n,tx⟩:Ac).v] w fun x w'=>x=.returned (.bool (doW W ⟨9,hp,ro,pl,n,tx⟩).2)∧WLay T pre post ow w' B k g (doW W ⟨9,hp,ro,pl,n,tx⟩).1∧KW B k g w w':=by
 obtain⟨cH,xs,aR,cR,A⟩:=lay
 have hmix:=Tak.mix
 obtain⟨okh,oks⟩:=ok_parts.1 ok
 obtain⟨ya,hx,hxh⟩:=A.hop okh (show 0<3 by omega)
 obtain⟨hxo,hxr⟩:=at_ok okh (show 0<3 by omega)
 rw [←hxh]at hxo hxr
 obtain⟨hw30,hgo,hto,hlo⟩:=hop_ok hxo
 have HXH:Hid (ya.h=W.at 0):=hxh
 clear hxh
 obtain⟨s1,s2,s3,s4⟩:=stream_iff.1 oks
 have bW:=(Below.refl w.heap.size w).alloc (Nat.le_refl _) (.cells #[.int .i64 9,.int .i64 hp,.int .i64 ro,.int .i64 pl,.int .i64 n,.string tx] 69)
 have v0:Var 69 (w.alloc (.cells #[.int .i64 9,.int .i64 hp,.int .i64 ro,.int .i64 pl,.int .i64 n,.string tx] 69)) w.heap.size [.int .i64 9,.int .i64 hp,.int .i64 ro,.int .i64 pl,.int .i64 n,.string tx]:=Var.new w _
 replace A:=A.later bW
 have e0:=A.v.cell0 rfl
 obtain⟨d0,d1,d2,d3,d4,d5⟩:=v0.c6
 have hIn: ∀w',Calls Tryz.prog 57 #[.int .i64 9,.int .i64 3,.int .i64 8] w' fun x w''=>x=.returned (.bool (decide (3≤9∧9≤8)))∧w'=w'':=fun w'=>Tak.l1In _ _ _ w'
 have HIN:Hid _:=hIn
 clear hIn
 go_enter Tryz.func46,Tryz.ntmps46
 go_upto_region 1 with(fail)
 generalize w.alloc (.cells #[.int .i64 9,.int .i64 hp,.int .i64 ro,.int .i64 pl,.int .i64 n,.string tx] 69)=V at *
 go_wp2_with fail
 refine(HIN.out _).mono ?_
 rintro e w1 ⟨rfl,rfl⟩
 have hR:Hid (doW W ⟨9,hp,ro,pl,n,tx⟩=readW W n):=by
  show _=_
  simp [doW]
 clear HIN
 go_wp2_with fail
 refine(l16Read k B W n _ ⟨cH,xs,aR,cR,A⟩ (Nat.le_trans hB bW.size) hkB ok).mono ?_
 rintro e w2 ⟨rfl,L2,b2⟩
 have bF:KW B k g w w2:=(KW.ofBelow bW hB).trans b2
 go_wp2_with fail
 go_ret
 exact⟨by rw [hR.out];rfl,by rw [hR.out];exact L2,bF⟩
theorem doNone {T:TypeId}{pre post:List Value}{ow:Nat}(hTa:T≠69)(k B:Nat)(W:Wd)(kd hp ro pl n:Int)(hk:kd<1∨11<kd)(tx:ByteArray)(htx:tx.size≤2097152)(w:World){g:Nat}(lay:WLay T pre post ow w B k g W)(hB:B≤w.heap.size)(hkB:NT T)(ok:okW W=true):
  Calls Tryz.prog 46 #[.pointer (some ⟨k,ow,none⟩),(⟨kd,hp,ro,pl,n,tx⟩:Ac).v] w fun x w'=>x=.returned (.bool (doW W ⟨kd,hp,ro,pl,n,tx⟩).2)∧WLay T pre post ow w' B k g (doW W ⟨kd,hp,ro,pl,n,tx⟩).1∧KW B k g w w':=by
 have k1: ¬kd=1:=by omega
 have k1b:(kd==1)=false:=beq_eq_false_iff_ne.2 k1
 have k2: ¬kd=2:=by omega
 have k2b:(kd==2)=false:=beq_eq_false_iff_ne.2 k2
 have k9: ¬kd=9:=by omega
 have k9b:(kd==9)=false:=beq_eq_false_iff_ne.2 k9
 have k10: ¬kd=10:=by omega
 have k10b:(kd==10)=false:=beq_eq_false_iff_ne.2 k10
 have k11: ¬kd=11:=by omega
 have k11b:(kd==11)=false:=beq_eq_false_iff_ne.2 k11
 obtain⟨cH,xs,aR,cR,A⟩:=lay
 have hmix:=Tak.mix
 obtain⟨okh,oks⟩:=ok_parts.1 ok
 obtain⟨ya,hx,hxh⟩:=A.hop okh (show 0<3 by omega)
 obtain⟨hxo,hxr⟩:=at_ok okh (show 0<3 by omega)
 rw [←hxh]at hxo hxr
 obtain⟨hw30,hgo,hto,hlo⟩:=hop_ok hxo
 have HXH:Hid (ya.h=W.at 0):=hxh
 clear hxh
 obtain⟨s1,s2,s3,s4⟩:=stream_iff.1 oks
 have bW:=(Below.refl w.heap.size w).alloc (Nat.le_refl _) (.cells #[.int .i64 kd,.int .i64 hp,.int .i64 ro,.int .i64 pl,.int .i64 n,.string tx] 69)
 have v0:Var 69 (w.alloc (.cells #[.int .i64 kd,.int .i64 hp,.int .i64 ro,.int .i64 pl,.int .i64 n,.string tx] 69)) w.heap.size [.int .i64 kd,.int .i64 hp,.int .i64 ro,.int .i64 pl,.int .i64 n,.string tx]:=Var.new w _
 replace A:=A.later bW
 have e0:=A.v.cell0 rfl
 obtain⟨d0,d1,d2,d3,d4,d5⟩:=v0.c6
 have hIn: ∀w',Calls Tryz.prog 57 #[.int .i64 kd,.int .i64 3,.int .i64 8] w' fun x w''=>x=.returned (.bool (decide (3≤kd∧kd≤8)))∧w'=w'':=fun w'=>Tak.l1In _ _ _ w'
 have HIN:Hid _:=hIn
 clear hIn
 go_enter Tryz.func46,Tryz.ntmps46
 go_upto_region 1 with(fail)
 generalize w.alloc (.cells #[.int .i64 kd,.int .i64 hp,.int .i64 ro,.int .i64 pl,.int .i64 n,.string tx] 69)=V at *
 go_wp2_with fail
 refine(HIN.out _).mono ?_
 rintro e w1 ⟨rfl,rfl⟩
 have hkd:decide (3≤kd∧kd≤8)=false:=decide_eq_false (by omega)
 rw [hkd]
 have hR:Hid (doW W ⟨kd,hp,ro,pl,n,tx⟩=(W,false)):=by
  show _=_
  simp only [doW]
  rw [if_neg k1,if_neg k2,if_neg (by omega),if_neg k9,if_neg k10,if_neg k11]
 clear HIN hkd
 go_wp2_with fail
 go_ret
 exact⟨by rw [hR.out];rfl,by rw [hR.out];exact⟨cH,xs,aR,cR,A⟩,KW.ofBelow bW hB⟩
theorem doLook {T:TypeId}{pre post:List Value}{ow:Nat}(hTa:T≠69)(k B:Nat)(W:Wd)(hp ro pl n:Int)(tx:ByteArray)(htx:tx.size≤2097152)(w:World){g:Nat}(lay:WLay T pre post ow w B k g W)(hB:B≤w.heap.size)(hkB:NT T)(ok:okW W=true):
  Calls Tryz.prog 46 #[.pointer (some ⟨k,ow,none⟩),(⟨11,hp,ro,pl,n,tx⟩:Ac).v] w fun x w'=>x=.returned (.bool (doW W ⟨11,hp,ro,pl,n,tx⟩).2)∧WLay T pre post ow w' B k g (doW W ⟨11,hp,ro,pl,n,tx⟩).1∧KW B k g w w':=by
 obtain⟨cH,xs,aR,cR,A⟩:=lay
 have hmix:=Tak.mix
 obtain⟨okh,oks⟩:=ok_parts.1 ok
 obtain⟨ya,hx,hxh⟩:=A.hop okh (show 0<3 by omega)
 obtain⟨hxo,hxr⟩:=at_ok okh (show 0<3 by omega)
 rw [←hxh]at hxo hxr
 obtain⟨hw30,hgo,hto,hlo⟩:=hop_ok hxo
 have HXH:Hid (ya.h=W.at 0):=hxh
 clear hxh
 obtain⟨s1,s2,s3,s4⟩:=stream_iff.1 oks
 have bW:=(Below.refl w.heap.size w).alloc (Nat.le_refl _) (.cells #[.int .i64 11,.int .i64 hp,.int .i64 ro,.int .i64 pl,.int .i64 n,.string tx] 69)
 have v0:Var 69 (w.alloc (.cells #[.int .i64 11,.int .i64 hp,.int .i64 ro,.int .i64 pl,.int .i64 n,.string tx] 69)) w.heap.size [.int .i64 11,.int .i64 hp,.int .i64 ro,.int .i64 pl,.int .i64 n,.string tx]:=Var.new w _
 replace A:=A.later bW
 have e0:=A.v.cell0 rfl
 obtain⟨d0,d1,d2,d3,d4,d5⟩:=v0.c6
 have hIn: ∀w',Calls Tryz.prog 57 #[.int .i64 11,.int .i64 3,.int .i64 8] w' fun x w''=>x=.returned (.bool (decide (3≤11∧11≤8)))∧w'=w'':=fun w'=>Tak.l1In _ _ _ w'
 have HIN:Hid _:=hIn
 clear hIn
 go_enter Tryz.func46,Tryz.ntmps46
 go_upto_region 1 with(fail)
 generalize w.alloc (.cells #[.int .i64 11,.int .i64 hp,.int .i64 ro,.int .i64 pl,.int .i64 n,.string tx] 69)=V at *
 go_wp2_with fail
 refine(HIN.out _).mono ?_
 rintro e w1 ⟨rfl,rfl⟩
 clear HIN
 have c5:_=_:=own_cell A.L.row hx (j:=5) rfl
 have hR:Hid (doW W ⟨11,hp,ro,pl,n,tx⟩=if ya.h.g.dn then(tellW W false,tellB W false)else(W,false)):=by
  show _=_
  rw [HXH.out]
  simp [doW]
 cases hdn:ya.h.g.dn
 ·rw [hdn]at c5 hR
  go_wp2_with fail
  go_ret
  exact⟨by rw [hR.out];rfl,by rw [hR.out];exact⟨cH,xs,aR,cR,A⟩,KW.ofBelow bW hB⟩
 ·rw [hdn,if_pos rfl]at hR
  rw [hdn]at c5
  obtain⟨sv,sback⟩:=A.stream hkB
  have HSB:Hid _:=sback
  clear sback
  go_wp2_with fail
  refine(Str.l15Tell k W.st false _ sv (by show W.tx.size≤_;omega)).mono ?_
  rintro e w4 ⟨rfl,v4,k4⟩
  have A4:=HSB.out w4 _ v4 k4
  have K4:KW B k g w w4:=(KW.ofBelow bW hB).trans (KW.ofKept k4 (Nat.le_trans hB bW.size))
  have eW:W.with (Str.tellS W.st false)=tellW W false:=by
   unfold Str.tellS tellW
   rw [show Str.tellB W.st false=tellB W false from rfl]
   split <;>rfl
  rw [eW]at A4
  rw [show Str.tellB W.st false=tellB W false from rfl]
  have HA4:Hid _:=A4
  clear A4 HSB sv v4 k4 eW
  go_wp2_with fail
  go_ret
  exact⟨by rw [hR.out];rfl,by rw [hR.out];exact⟨cH,xs,aR,cR,HA4.out⟩,K4⟩
end Go.Proofs.YtfejobjgbadfjaaGreat.Wor
namespace Go.Proofs.YtfejobjgbadfjaaGreat.Wor
open Go.RowKit RowG Hop Roa Pum Lin
theorem var_win_ne {T T':TypeId}{pre post:List Value}{ow:Nat}{w:World}{k k':Nat}{vs vs':List Value}(hT:T≠T')(v:Win T pre post ow w k vs)(u:Var T' w k' vs'):k'≠k:=by
 intro e
 subst e
 have h1:=v.blk
 unfold Var at u
 rw [u]at h1
 injection h1 with h1
 injection h1 with _ h2 _
 exact hT h2.symm
theorem doEnd {T:TypeId}{pre post:List Value}{ow:Nat}(hTa:T≠69)(k B:Nat)(W:Wd)(hp ro pl n:Int)(tx:ByteArray)(htx:tx.size≤2097152)(w:World){g:Nat}(lay:WLay T pre post ow w B k g W)(hB:B≤w.heap.size)(hkB:NT T)(ok:okW W=true):
  Calls Tryz.prog 46 #[.pointer (some ⟨k,ow,none⟩),(⟨2,hp,ro,pl,n,tx⟩:Ac).v] w fun x w'=>x=.returned (.bool (doW W ⟨2,hp,ro,pl,n,tx⟩).2)∧WLay T pre post ow w' B k g (doW W ⟨2,hp,ro,pl,n,tx⟩).1∧KW B k g w w':=by
 obtain⟨cH,xs,aR,cR,A⟩:=lay
 have hmix:=Tak.mix
 obtain⟨okh,oks⟩:=ok_parts.1 ok
 obtain⟨ya,hx,hxh⟩:=A.hop okh (show 0<3 by omega)
 obtain⟨hxo,hxr⟩:=at_ok okh (show 0<3 by omega)
 rw [←hxh]at hxo hxr
 obtain⟨hw30,hgo,hto,hlo⟩:=hop_ok hxo
 have HXH:Hid (ya.h=W.at 0):=hxh
 clear hxh
 obtain⟨s1,s2,s3,s4⟩:=stream_iff.1 oks
 have bW:=(Below.refl w.heap.size w).alloc (Nat.le_refl _) (.cells #[.int .i64 2,.int .i64 hp,.int .i64 ro,.int .i64 pl,.int .i64 n,.string tx] 69)
 have v0:Var 69 (w.alloc (.cells #[.int .i64 2,.int .i64 hp,.int .i64 ro,.int .i64 pl,.int .i64 n,.string tx] 69)) w.heap.size [.int .i64 2,.int .i64 hp,.int .i64 ro,.int .i64 pl,.int .i64 n,.string tx]:=Var.new w _
 replace A:=A.later bW
 have e0:=A.v.cell0 rfl
 obtain⟨d0,d1,d2,d3,d4,d5⟩:=v0.c6
 have hIn: ∀w',Calls Tryz.prog 57 #[.int .i64 2,.int .i64 3,.int .i64 8] w' fun x w''=>x=.returned (.bool (decide (3≤2∧2≤8)))∧w'=w'':=fun w'=>Tak.l1In _ _ _ w'
 have HIN:Hid _:=hIn
 clear hIn
 go_enter Tryz.func46,Tryz.ntmps46
 go_upto_region 1 with(fail)
 generalize w.alloc (.cells #[.int .i64 2,.int .i64 hp,.int .i64 ro,.int .i64 pl,.int .i64 n,.string tx] 69)=V at *
 have c4:V.cell? ⟨g,4,none⟩=some (.bool ya.h.g.en):=own_cell A.L.row hx (j:=4) rfl
 have e4:V.cell? ⟨k,ow+4,none⟩=some (.bool W.en):=A.v.cell (i:=4) rfl
 have hR:Hid (doW W ⟨2,hp,ro,pl,n,tx⟩=if ya.h.g.en||W.en then(W,false)else({W.put 0 (ya.gv {ya.h.g with en:=true}).h with en:=true},true)):=by
  show _=_
  simp only [doW]
  rw [if_neg (by decide),if_pos trivial,←HXH.out]
 cases hen:ya.h.g.en
 case true=>
  rw [hen]at c4 hR
  go_wp2_with fail
  go_ret
  exact⟨by rw [hR.out];rfl,by rw [hR.out];exact⟨cH,xs,aR,cR,A⟩,KW.ofBelow bW hB⟩
 rw [hen]at c4 hR
 cases hwe:W.en
 case true=>
  rw [hwe]at e4 hR
  go_wp2_with fail
  go_ret
  exact⟨by rw [hR.out];rfl,by rw [hR.out];exact⟨cH,xs,aR,cR,A⟩,KW.ofBelow bW hB⟩
 rw [hwe]at e4 hR
 obtain⟨pr,po,vx,rx,back⟩:=A.L.step hx
 have f4:V.frozen? ⟨g,4,none⟩=false:=vx.free 4
 have hBV:B≤V.heap.size:=Nat.le_trans hB bW.size
 have kp:Keep g (blk ya.aW) V (V.setCell ⟨g,4,none⟩ (.bool true)):=(Keep.refl g (blk ya.aW) V).setCell (p:=⟨g,4,none⟩) (.inl rfl) _
 have L':=back (V.setCell ⟨g,4,none⟩ (.bool true)) (ya.gv {ya.h.g with en:=true}) (vx.set 4 (.bool true)) ⟨rx.p.setCell (own_win (by decide) rx.p vx) _,rx.l.setCell (own_win (by decide) rx.l vx) _⟩ kp (Locd.refl _ _)
 obtain⟨A2,b2⟩:=A.turn hkB hx L' kp hBV
 obtain⟨sv,sback⟩:=A2.stream hkB
 have k2:Draw.Kept k (V.setCell ⟨g,4,none⟩ (.bool true)) ((V.setCell ⟨g,4,none⟩ (.bool true)).setCell ⟨k,ow+2+2,none⟩ (.bool true)):=(Draw.Kept.refl k _).setCell (p:=⟨k,ow+2+2,none⟩) (.inl rfl) _
 have A3:=sback _ ⟨W.tx,W.rd,true,W.dn,W.sn⟩ (sv.set 2 (.bool true)) k2
 have K3:KW B k g w ((V.setCell ⟨g,4,none⟩ (.bool true)).setCell ⟨k,ow+2+2,none⟩ (.bool true)):=((KW.ofBelow bW hB).trans (KW.ofFr b2)).trans (KW.ofKept k2 (Nat.le_trans hBV b2.size))
 have e4':(V.setCell ⟨g,4,none⟩ (.bool true)).cell? ⟨k,ow+2+2,none⟩=some (.bool W.en):=sv.cell (i:=2) rfl
 have f4':(V.setCell ⟨g,4,none⟩ (.bool true)).frozen? ⟨k,ow+2+2,none⟩=false:=sv.free 2
 have HA3:Hid _:=A3
 have HK3:Hid _:=K3
 clear A3 K3 A2 b2 sv sback k2 L' kp back vx rx
 go_wp2_with fail
 go_ret
 exact⟨by rw [hR.out];rfl,by rw [hR.out];exact⟨cH,_,aR,cR,HA3.out⟩,HK3.out⟩
theorem doWrite {T:TypeId}{pre post:List Value}{ow:Nat}(hTa:T≠69)(k B:Nat)(W:Wd)(hp ro pl n:Int)(tx:ByteArray)(htx:tx.size≤2097152)(w:World){g:Nat}(lay:WLay T pre post ow w B k g W)(hB:B≤w.heap.size)(hkB:NT T)(ok:okW W=true):
  Calls Tryz.prog 46 #[.pointer (some ⟨k,ow,none⟩),(⟨1,hp,ro,pl,n,tx⟩:Ac).v] w fun x w'=>x=.returned (.bool (doW W ⟨1,hp,ro,pl,n,tx⟩).2)∧WLay T pre post ow w' B k g (doW W ⟨1,hp,ro,pl,n,tx⟩).1∧KW B k g w w':=by
 obtain⟨cH,xs,aR,cR,A⟩:=lay
 have hmix:=Tak.mix
 obtain⟨okh,oks⟩:=ok_parts.1 ok
 obtain⟨ya,hx,hxh⟩:=A.hop okh (show 0<3 by omega)
 obtain⟨hxo,hxr⟩:=at_ok okh (show 0<3 by omega)
 rw [←hxh]at hxo hxr
 obtain⟨hw30,hgo,hto,hlo⟩:=hop_ok hxo
 have HXH:Hid (ya.h=W.at 0):=hxh
 clear hxh
 obtain⟨s1,s2,s3,s4⟩:=stream_iff.1 oks
 have bW:=(Below.refl w.heap.size w).alloc (Nat.le_refl _) (.cells #[.int .i64 1,.int .i64 hp,.int .i64 ro,.int .i64 pl,.int .i64 n,.string tx] 69)
 have v0:Var 69 (w.alloc (.cells #[.int .i64 1,.int .i64 hp,.int .i64 ro,.int .i64 pl,.int .i64 n,.string tx] 69)) w.heap.size [.int .i64 1,.int .i64 hp,.int .i64 ro,.int .i64 pl,.int .i64 n,.string tx]:=Var.new w _
 replace A:=A.later bW
 have e0:=A.v.cell0 rfl
 obtain⟨d0,d1,d2,d3,d4,d5⟩:=v0.c6
 have hIn: ∀w',Calls Tryz.prog 57 #[.int .i64 1,.int .i64 3,.int .i64 8] w' fun x w''=>x=.returned (.bool (decide (3≤1∧1≤8)))∧w'=w'':=fun w'=>Tak.l1In _ _ _ w'
 have HIN:Hid _:=hIn
 clear hIn
 go_enter Tryz.func46,Tryz.ntmps46
 go_upto_region 1 with(fail)
 generalize w.alloc (.cells #[.int .i64 1,.int .i64 hp,.int .i64 ro,.int .i64 pl,.int .i64 n,.string tx] 69)=V at *
 obtain⟨pr,po,vx,rx,back⟩:=A.L.step hx
 have hBV:B≤V.heap.size:=Nat.le_trans hB bW.size
 have vG:=Win.fst (T:=47) (pre:=pr) (post:=po) (b:=ya.h.g.c) (c:=[.int .i64 ya.h.t.nx,.string ya.h.t.bs,.slice ya.aT ya.h.t.l.length ya.cT,.int .i64 ya.h.t.cp,.int .i64 ya.h.t.fi,.bool ya.h.t.en,.slice ya.aW ya.h.ws.length ya.cW]) (o:=0*13) (w:=V) (k:=g) vx
 have hR:Hid (doW W ⟨1,hp,ro,pl,n,tx⟩=if 0<(Giv.writeG ya.h.g tx).2 then(if W.en||decide (2000<(W.tx.size:Int)+(Giv.writeG ya.h.g tx).2)then(W.put 0 (ya.gv (Giv.writeG ya.h.g tx).1).h,false)else({W.put 0 (ya.gv (Giv.writeG ya.h.g tx).1).h with tx:=W.tx++tx.extract 0 (Giv.writeG ya.h.g tx).2.toNat},true))else(W.put 0 (ya.gv (Giv.writeG ya.h.g tx).1).h,false)):=by
  show _=_
  simp only [doW]
  rw [if_pos trivial,←HXH.out]
 obtain⟨N,hN⟩: ∃N,(Giv.writeG ya.h.g tx).2=N:=⟨_,rfl⟩
 have hNb:N≤tx.size∧0≤N:=by
  have:=Giv.fit_in hgo tx
  rw [←hN]
  unfold Giv.writeG
  split <;>simp <;>omega
 rw [hN]at hR
 have HBK:Hid _:=back
 clear back HIN
 go_wp2_with fail
 refine(Giv.l6WriteW (ow:=0*13) g ya.h.g tx V vG hgo htx).mono ?_
 rintro e wb ⟨rfl,v1,k1⟩
 have v1':=Win.unfst v1
 have L':=HBK.out wb (ya.gv (Giv.writeG ya.h.g tx).1) v1' ⟨rx.p.kept k1 (own_win (by decide) rx.p vx),rx.l.kept k1 (own_win (by decide) rx.l vx)⟩ (Keep.ofKept k1) (Locd.refl _ _)
 obtain⟨A2,b2⟩:=A.turn hkB hx L' (Keep.ofKept k1) hBV
 have v2:=v0.same (k1.block _ v0.lt (own_varS2 A.L.row v0))
 rw [hN]
 have K2:KW B k g w wb:=(KW.ofBelow bW hB).trans (KW.ofFr b2)
 have hB2:B≤wb.heap.size:=Nat.le_trans hBV b2.size
 clear HBK v1 v1' L' k1 b2 vG vx rx A e0 d0 d1 d2 d3 d4 d5 v0
 have d5:=v2.cell (i:=5) rfl
 by_cases hN0:0<N
 case neg=>
  have hd:decide (0<N)=false:=decide_eq_false hN0
  rw [if_neg hN0]at hR
  go_wp2_with fail
  have l5:=Draw.Later.cell d5
  refine Draw.wp_region_later hmix (by kernel_rfl) ?_
  repeat (go_big_quiet_step (fail))
  refine wpQuiet_nil ?_
  intro wr hw'
  obtain⟨q9,hq9⟩:=hw'
  have hBq:=q9.h
  rw [←hq9]at hBq
  clear hq9 q9 l5 d5
  replace A2:=A2.later hBq
  replace K2:=K2.trans (KW.ofBelow hBq hB2)
  go_wp2_with fail
  go_ret
  exact⟨by rw [hR.out];rfl,by rw [hR.out];exact⟨cH,_,aR,cR,A2⟩,K2⟩
 have hd:decide (0<N)=true:=decide_eq_true hN0
 rw [if_pos hN0]at hR
 obtain⟨M,rfl⟩: ∃M:Nat,N=(M:Int):=⟨N.toNat,by omega⟩
 have hM1:M≤tx.size:=by omega
 have hMi:(M:Int)≤(tx.size:Int):=by omega
 have hM0:(0:Int)≤(M:Int):=by omega
 have hbz:(tx.extract 0 M).size=M:=by rw [Giv.ext_size _ _ _ hM1];omega
 have hMz: ¬M=0:=by omega
 go_wp2_with fail
 obtain⟨XS,hXS⟩: ∃XS,xs.set 0 (ya.gv (Giv.writeG ya.h.g tx).1)=XS:=⟨_,rfl⟩
 obtain⟨W1,hWo⟩: ∃W1,W.put 0 (ya.gv (Giv.writeG ya.h.g tx).1).h=W1:=⟨_,rfl⟩
 rw [hXS,hWo]at A2
 have hst:W1.st=W.st:=by rw [←hWo];rfl
 obtain⟨gb,hgb⟩: ∃gb,Str.growB W1.st (tx.extract 0 M)=gb:=⟨_,rfl⟩
 obtain⟨kA,hkA⟩: ∃kA,w.heap.size=kA:=⟨_,rfl⟩
 rw [hkA]at v2 d5 ⊢
 have htx1:W1.st.tx.size≤2097152:=by rw [hst];show W.tx.size≤_;omega
 have keepW: ∀(j:Nat) (d:Nat→Bool) (w2:World),(fun d w'=>Var 69 w' kA [.int .i64 1,.int .i64 hp,.int .i64 ro,.int .i64 pl,.int .i64 n,.string tx]∧(d 10=false→WAt T pre post ow w' B k g cH XS aR cR W1∧Below wb.heap.size wb w')∧(d 10=true→WAt T pre post ow w' B k g cH XS aR cR (W1.with (Str.growS W1.st (tx.extract 0 M)))∧Draw.Kept k wb w')) d w2→j≠10→(fun d w'=>Var 69 w' kA [.int .i64 1,.int .i64 hp,.int .i64 ro,.int .i64 pl,.int .i64 n,.string tx]∧(d 10=false→WAt T pre post ow w' B k g cH XS aR cR W1∧Below wb.heap.size wb w')∧(d 10=true→WAt T pre post ow w' B k g cH XS aR cR (W1.with (Str.growS W1.st (tx.extract 0 M)))∧Draw.Kept k wb w')) (fun q=>q==j||d q) w2:=fun j d w2 hW hj=>by
  have ez:((10:Nat)==j)=false:=beq_eq_false_iff_ne.2 (Ne.symm hj)
  simp only [ez,Bool.false_or]
  exact hW
 refine RegJ.wp_region_J (W:=(fun d w'=>Var 69 w' kA [.int .i64 1,.int .i64 hp,.int .i64 ro,.int .i64 pl,.int .i64 n,.string tx]∧(d 10=false→WAt T pre post ow w' B k g cH XS aR cR W1∧Below wb.heap.size wb w')∧(d 10=true→WAt T pre post ow w' B k g cH XS aR cR (W1.with (Str.growS W1.st (tx.extract 0 M)))∧Draw.Kept k wb w'))) (RegJ.Val [some (.int .i64 (M:Int)),some (.bool true),some (.bool true),some (.pointer (some ⟨k,ow,none⟩)),some (.pointer (some ⟨k,ow,none⟩)),some (.pointer (some ⟨k,ow+2,none⟩)),some (.pointer (some ⟨kA,5,none⟩)),some (.string tx),some (.int .i64 (M:Int)),some (.string (tx.extract 0 M)),some (.bool gb),some (.bool gb),some (.bool gb)]) [some 24,some 25,some 26,some 27,some 28,some 29,some 30,some 31,some 32,some 33,some 34,some 35,some 4] (F:=?_) (is:=[0,1,2,3,4,5,6,7,8,9,10,11,12]) hmix (by kernel_rfl) (by kernel_rfl) (by kernel_rfl) (by kernel_rfl) (fun x=>?_) (⟨v2.drew,fun _=>⟨⟨A2.v.drew,A2.L.drew,A2.hs,A2.R.drew⟩,(Below.refl _ _).drew⟩,fun hd=>(by cases hd)⟩) ?_ (fun dR xR wR hWR hdR hJR=>?_)
 rotate_left 1
 focus (simp only [RegJ.lay,Act.put,Nat.reduceAdd,Nat.zero_add,Draw.lays];rfl)
 focus
  iterate 13 (refine RegJ.Steps.cons (RegJ.StepAt.mk rfl (fun d x w1 hW1 hJ1 hx1 K hK=>?_)) ?_;simp only [Draw.lays]at hK;rotate_left 1)
  exact RegJ.Steps.nil
  ·go_simp;exact hK.out _ _ (keepW 0 d _ hW1 (by decide)) RegJ.Val.keep (RegJ.Val.this (Or.inl rfl))
  ·have hMd:0<M:=(by omega);have j0:x 0=_:=(hJ1.out 0 (by kernel_rfl)).2 _ rfl;rw [j0]at hK;go_simp;exact hK.out _ _ (keepW 1 d _ hW1 (by decide)) RegJ.Val.keep (RegJ.Val.this (Or.inl rfl))
  ·have j1:x 1=_:=(hJ1.out 1 (by kernel_rfl)).2 _ rfl;rw [j1]at hK;go_simp;exact hK.out _ _ (keepW 2 d _ hW1 (by decide)) RegJ.Val.keep (RegJ.Val.this (Or.inl rfl))
  ·have j2:x 2=_:=(hJ1.out 2 (by kernel_rfl)).2 _ rfl;rw [j2]at hK;go_simp;exact hK.out _ _ (keepW 3 d _ hW1 (by decide)) RegJ.Val.keep (RegJ.Val.this (Or.inl rfl))
  ·have j2:x 2=_:=(hJ1.out 2 (by kernel_rfl)).2 _ rfl;rw [j2]at hK;have j3:x 3=_:=(hJ1.out 3 (by kernel_rfl)).2 _ rfl;rw [j3]at hK;go_simp;exact hK.out _ _ (keepW 4 d _ hW1 (by decide)) RegJ.Val.keep (RegJ.Val.this (Or.inl rfl))
  ·have j2:x 2=_:=(hJ1.out 2 (by kernel_rfl)).2 _ rfl;rw [j2]at hK;have j4:x 4=_:=(hJ1.out 4 (by kernel_rfl)).2 _ rfl;rw [j4]at hK;go_simp;exact hK.out _ _ (keepW 5 d _ hW1 (by decide)) RegJ.Val.keep (RegJ.Val.this (Or.inl rfl))
  ·have j2:x 2=_:=(hJ1.out 2 (by kernel_rfl)).2 _ rfl;rw [j2]at hK;go_simp;exact hK.out _ _ (keepW 6 d _ hW1 (by decide)) RegJ.Val.keep (RegJ.Val.this (Or.inl rfl))
  ·have c:=hW1.1.cell (i:=5) rfl;have j2:x 2=_:=(hJ1.out 2 (by kernel_rfl)).2 _ rfl;rw [j2]at hK;have j6:x 6=_:=(hJ1.out 6 (by kernel_rfl)).2 _ rfl;rw [j6]at hK;go_simp;exact hK.out _ _ (keepW 7 d _ hW1 (by decide)) RegJ.Val.keep (RegJ.Val.this (Or.inl rfl))
  ·have j2:x 2=_:=(hJ1.out 2 (by kernel_rfl)).2 _ rfl;rw [j2]at hK;go_simp;exact hK.out _ _ (keepW 8 d _ hW1 (by decide)) RegJ.Val.keep (RegJ.Val.this (Or.inl rfl))
  ·have j2:x 2=_:=(hJ1.out 2 (by kernel_rfl)).2 _ rfl;rw [j2]at hK;have j7:x 7=_:=(hJ1.out 7 (by kernel_rfl)).2 _ rfl;rw [j7]at hK;have j8:x 8=_:=(hJ1.out 8 (by kernel_rfl)).2 _ rfl;rw [j8]at hK;go_simp;exact hK.out _ _ (keepW 9 d _ hW1 (by decide)) RegJ.Val.keep (RegJ.Val.this (Or.inl rfl))
  ·obtain⟨A1,b1⟩:=hW1.2.1 (hx1.out 10 (.inl rfl)).1;have hv:=hW1.1;have j2:x 2=_:=(hJ1.out 2 (by kernel_rfl)).2 _ rfl;rw [j2]at hK;have j5:x 5=_:=(hJ1.out 5 (by kernel_rfl)).2 _ rfl;rw [j5]at hK;have j9:x 9=_:=(hJ1.out 9 (by kernel_rfl)).2 _ rfl;rw [j9]at hK;obtain⟨sv,sback⟩:=A1.stream hkB;have HSB:Hid _:=sback;clear sback;have hne:kA≠k:=(var_win_ne hTa A1.v hv);go_simp;refine(Str.l15Grow k W1.st (tx.extract 0 M) _ sv htx1 (by omega)).mono ?_;rintro e wa ⟨rfl,v1,k1⟩;rw [hgb];go_simp;exact hK.out _ _ ⟨hv.kept k1 hne,fun hd=>absurd hd (by simp),fun _=>⟨HSB.out wa _ v1 k1,(Draw.Kept.ofBelow b1 (Nat.le_refl _)).trans k1⟩⟩ RegJ.Val.keep (RegJ.Val.this (Or.inl rfl))
  ·have j2:x 2=_:=(hJ1.out 2 (by kernel_rfl)).2 _ rfl;rw [j2]at hK;have j10:x 10=_:=(hJ1.out 10 (by kernel_rfl)).2 _ rfl;rw [j10]at hK;go_simp;exact hK.out _ _ (keepW 11 d _ hW1 (by decide)) RegJ.Val.keep (RegJ.Val.this (Or.inl rfl))
  ·have j11:x 11=_:=(hJ1.out 11 (by kernel_rfl)).2 _ rfl;rw [j11]at hK;go_simp;exact hK.out _ _ (keepW 12 d _ hW1 (by decide)) RegJ.Val.keep (RegJ.Val.this (Or.inl rfl))
 have j12:xR 12=.bool gb:=(hJR 12 (by simp)).2 _ rfl
 rw [j12]
 obtain⟨-,-,u4⟩:=hWR
 obtain⟨A3,k3⟩:=u4 (hdR 10 (by simp))
 clear hJR hdR keepW j12 u4
 have K3:=K2.trans (KW.ofKept k3 hB2)
 have hF:Hid (doW W ⟨1,hp,ro,pl,n,tx⟩=(W1.with (Str.growS W1.st (tx.extract 0 M)),gb)):=by
  show _=_
  rw [hR.out,hWo]
  have hcond:(W.en||decide (2000<(W.tx.size:Int)+(M:Int)))= !gb:=by
   rw [←hgb,hst]
   simp only [Str.growB,hbz,Bool.not_not]
  rw [hcond,show((M:Int)).toNat=M by omega]
  unfold Str.growS
  rw [hgb]
  cases gb
  ·rfl
  ·rw [hst,←hWo]
   rfl
 clear A2 v2 d5 hR
 go_wp2_with fail
 go_ret
 exact⟨by rw [hF.out];rfl,by rw [hF.out];exact⟨cH,XS,aR,cR,A3⟩,K3⟩
end Go.Proofs.YtfejobjgbadfjaaGreat.Wor
