/- Contracts of this seat's functions, and their mathematics (WorG). -/
import Derived.Test.YtfmcahjdhoabcaaGreatU26
set_option linter.unusedVariables false
set_option linter.unusedSimpArgs false
set_option maxRecDepth 10000
set_option maxHeartbeats 8000000
namespace Go.Proofs.YtfmcahjdhoabcaaGreat.Wor
open Go.RowKit RowG Hop Roa Pum Lin
theorem out_t (h:Hp)(n:Int):(outH h n).1.t=h.t:=by
 unfold outH
 split
 ·split <;>rfl
 ·rfl
theorem hopCome {T:TypeId}{pre post:List Value}{ow:Nat}(hTa:T≠70)(k B:Nat)(W:Wd)(ro pl n:Int)(tx:ByteArray)(i:Nat)(hi:i<3)(w:World){g:Nat}(lay:WLay T pre post ow w B k g W)(hB:B≤w.heap.size)(hkB:NT T)(ok:okW W=true):
  Calls Tryz.prog 83 #[.pointer (some ⟨k,ow,none⟩),(⟨5,(i:Int),ro,pl,n,tx⟩:Ac).v] w fun x w'=>x=.returned (.bool (hopW W ⟨5,(i:Int),ro,pl,n,tx⟩ i).2)∧WLay T pre post ow w' B k g (hopW W ⟨5,(i:Int),ro,pl,n,tx⟩ i).1∧Fr B g w w':=by
 obtain⟨cH,xs,aR,cR,A⟩:=lay
 have hmix:=Tak.mix
 obtain⟨okh,oks⟩:=ok_parts.1 ok
 obtain⟨ya,hx,hxh⟩:=A.hop okh hi
 have hrl:W.rs.length≤2097152:=by have:=(hops_iff.1 okh).2.1;simp only [roadsB,Bool.and_eq_true,decide_eq_true_eq]at this;omega
 obtain⟨hxo,hxr⟩:=at_ok okh hi
 rw [←hxh]at hxo hxr
 obtain⟨hw30,hgo,hto,hlo⟩:=hop_ok hxo
 have HXH:Hid (ya.h=W.at i):=hxh
 clear hxh
 have hIn: ∀w',Calls Tryz.prog 70 #[.int .i64 (i:Int),.int .i64 0,.int .i64 2] w' fun x w''=>x=.returned (.bool true)∧w'=w'':=fun w'=>Tak.l1InEq (decide_eq_true ⟨by omega,by omega⟩) w'
 have bW:=(Below.refl w.heap.size w).alloc (Nat.le_refl _) (.cells #[.int .i64 5,.int .i64 (i:Int),.int .i64 ro,.int .i64 pl,.int .i64 n,.string tx] 70)
 have v0:Var 70 (w.alloc (.cells #[.int .i64 5,.int .i64 (i:Int),.int .i64 ro,.int .i64 pl,.int .i64 n,.string tx] 70)) w.heap.size [.int .i64 5,.int .i64 (i:Int),.int .i64 ro,.int .i64 pl,.int .i64 n,.string tx]:=Var.new w _
 replace A:=A.later bW
 have e0:=A.v.cell0 rfl
 have e1:=A.v.cell (i:=1) rfl
 have d0:=v0.cell (i:=0) rfl
 have d1:=v0.cell (i:=1) rfl
 have d2:=v0.cell (i:=2) rfl
 have d3:=v0.cell (i:=3) rfl
 have d4:=v0.cell (i:=4) rfl
 have i0:(0:Int)≤(i:Int):=by omega
 have i1:(i:Int)<3:=by omega
 have HIN:Hid _:=hIn
 clear hIn
 go_enter Tryz.func83,Tryz.ntmps83
 go_upto_region 1 with(fail)
 generalize w.alloc (.cells #[.int .i64 5,.int .i64 (i:Int),.int .i64 ro,.int .i64 pl,.int .i64 n,.string tx] 70)=V at *
 go_wp2_with fail
 refine(HIN.out _).mono ?_
 rintro e w1 ⟨rfl,rfl⟩
 clear HIN
 go_wp2_with fail
 have le0:=Draw.Later.cell e0
 have l1:=Draw.Later.cell d1
 refine Draw.wp_region_later hmix (by kernel_rfl) ?_
 repeat (go_big_quiet_step (fail))
 refine wpQuiet_nil ?_
 intro wq hw'
 obtain⟨q9,hq9⟩:=hw'
 have hBq:=q9.h
 rw [←hq9]at hBq
 clear hq9 q9 le0 l1 e0 e1 d0 d1 d2 d3 d4
 replace bW:=bW.trans (hBq.mono bW.size)
 replace A:=A.later hBq
 replace v0:=v0.later hBq
 clear hBq
 have e0:=A.v.cell0 rfl
 have e1:=A.v.cell (i:=1) rfl
 have d0:=v0.cell (i:=0) rfl
 have d1:=v0.cell (i:=1) rfl
 have d2:=v0.cell (i:=2) rfl
 have d3:=v0.cell (i:=3) rfl
 have d4:=v0.cell (i:=4) rfl
 have HS:Hid (w.heap.size<wq.heap.size):=v0.lt
 go_wp2_with fail
 obtain⟨kA,hkA⟩: ∃kA,w.heap.size=kA:=⟨_,rfl⟩
 rw [hkA]at v0 d0 d1 d2 d3 d4 HS ⊢
 have cW:=own_cell A.L.row hx (j:=12) rfl
 have l1:=Draw.Later.cell d1
 have l4:=Draw.Later.cell d4
 have le0:=Draw.Later.cell e0
 have le1:=Draw.Later.cell e1
 have lW:=Draw.Later.cell cW
 clear e0 e1 d0 d1 d2 d3 d4 cW
 by_cases hn0:n<0
 ·have hn0d:decide (n<0)=true:=decide_eq_true hn0
  have hR:Hid (hopW W ⟨5,(i:Int),ro,pl,n,tx⟩ i=(W,false)):=by show _=_;simp [hopW,show ¬0≤n by omega]
  refine Draw.wp_region_later hmix (by kernel_rfl) ?_
  repeat (go_big_quiet_step (fail))
  refine wpQuiet_nil ?_
  intro wr hw'
  obtain⟨q9,hq9⟩:=hw'
  have hBq:=q9.h
  rw [←hq9]at hBq
  clear hq9 q9
  replace bW:=bW.trans (hBq.mono bW.size)
  replace A:=A.later hBq
  replace v0:=v0.later hBq
  clear hBq
  clear l1 l4 le0 le1 lW
  go_wp2_with fail
  go_ret
  exact⟨by rw [hR.out];rfl,by rw [hR.out];exact⟨cH,xs,aR,cR,A⟩,Fr.ofB bW hB⟩
 have hn0d:decide (n<0)=false:=decide_eq_false hn0
 by_cases hn1:(ya.h.ws.length:Int)≤n
 ·have hn1d:decide ((ya.h.ws.length:Int)≤n)=true:=decide_eq_true hn1
  have hR:Hid (hopW W ⟨5,(i:Int),ro,pl,n,tx⟩ i=(W,false)):=by show _=_;simp [hopW,show 0≤n by omega,←HXH.out,List.getElem?_eq_none (show ya.h.ws.length≤n.toNat by omega)]
  refine Draw.wp_region_later hmix (by kernel_rfl) ?_
  repeat (go_big_quiet_step (fail))
  refine wpQuiet_nil ?_
  intro wr hw'
  obtain⟨q9,hq9⟩:=hw'
  have hBq:=q9.h
  rw [←hq9]at hBq
  clear hq9 q9
  replace bW:=bW.trans (hBq.mono bW.size)
  replace A:=A.later hBq
  replace v0:=v0.later hBq
  clear hBq
  clear l1 l4 le0 le1 lW
  go_wp2_with fail
  go_ret
  exact⟨by rw [hR.out];rfl,by rw [hR.out];exact⟨cH,xs,aR,cR,A⟩,Fr.ofB bW hB⟩
 have hn1d:decide ((ya.h.ws.length:Int)≤n)=false:=decide_eq_false hn1
 obtain⟨j,rfl⟩: ∃j:Nat,n=(j:Int):=⟨n.toNat,by omega⟩
 have hj:j<ya.h.ws.length:=by omega
 obtain⟨lt,hlt⟩: ∃lt,ya.h.ws[j]? =some lt:=⟨_,List.getElem?_eq_getElem hj⟩
 have j0:(0:Int)≤(j:Int):=by omega
 have j1:(j:Int)<(ya.h.ws.length:Int):=by omega
 have j2:decide (ya.h.ws.length≤j)=false:=decide_eq_false (by omega)
 have j3: ¬ya.h.ws.length≤j:=by omega
 have Rx:=A.L.rows ya (List.mem_of_getElem? hx)
 obtain⟨b,off,hab,hL⟩: ∃b off,ya.aW=some ⟨b,off,none⟩∧ ∀q u,(letE.vals ya.h.ws)[q]? =some u→wq.cell? ⟨b,off+q,none⟩=some u:=by
  rcases Rx.l.lies with e|⟨b,off,e,h⟩
  ·rw [e]at hj;simp at hj
  ·exact⟨b,off,e,h⟩
 have cR1:wq.cell? ⟨b,off+j*7+1,none⟩=some (.int .i64 lt.rd):=El.Lies.cell hL hlt (j:=1) rfl
 have lR1:=Draw.Later.cell cR1
 rw [hab]at lW
 cases ho:openB W.rs (i:Int) lt.rd
 ·have hR:Hid (hopW W ⟨5,(i:Int),ro,pl,(j:Int),tx⟩ i=(W,false)):=by show _=_;simp [hopW,←HXH.out,hlt,ho]
  have HO:Hid (∀p:Draw.Later wq,Calls Tryz.prog 102 #[.agg #[.slice (some ⟨g,0,none⟩) 3 cH,.slice aR W.rs.length cR],.int .i64 (i:Int),.int .i64 lt.rd] p.v fun x w'=>x=.returned (.bool false)∧Below p.v.heap.size p.v w'):=fun p=>by
   have:=l16Open (some ⟨g,0,none⟩) 3 cH aR cR W.rs (i:Int) lt.rd p.v (A.R.later p.h).lies hrl
   rw [ho]at this
   exact this
  clear Rx cR1 hL
  refine Draw.wp_region_later hmix (by kernel_rfl) ?_
  repeat (go_big_quiet_step ((go_at_call 102;exact Draw.later_of (HO.out _))))
  refine wpQuiet_nil ?_
  intro wr hw'
  obtain⟨q9,hq9⟩:=hw'
  have hBq:=q9.h
  rw [←hq9]at hBq
  clear hq9 q9
  replace bW:=bW.trans (hBq.mono bW.size)
  replace A:=A.later hBq
  replace v0:=v0.later hBq
  clear hBq
  clear l1 l4 le0 le1 lW lR1 HO
  go_wp2_with fail
  go_ret
  exact⟨by rw [hR.out];rfl,by rw [hR.out];exact⟨cH,xs,aR,cR,A⟩,Fr.ofB bW hB⟩
 ·have hR:Hid (hopW W ⟨5,(i:Int),ro,pl,(j:Int),tx⟩ i=(W.put i (comeH ya.h (j:Int)).1,(comeH ya.h (j:Int)).2)):=by show _=_;simp [hopW,←HXH.out,hlt,ho]
  have HO:Hid (∀p:Draw.Later wq,Calls Tryz.prog 102 #[.agg #[.slice (some ⟨g,0,none⟩) 3 cH,.slice aR W.rs.length cR],.int .i64 (i:Int),.int .i64 lt.rd] p.v fun x w'=>x=.returned (.bool true)∧Below p.v.heap.size p.v w'):=fun p=>by
   have:=l16Open (some ⟨g,0,none⟩) 3 cH aR cR W.rs (i:Int) lt.rd p.v (A.R.later p.h).lies hrl
   rw [ho]at this
   exact this
  clear Rx cR1 hL
  refine Draw.wp_region_later hmix (by kernel_rfl) ?_
  repeat (go_big_quiet_step ((go_at_call 102;exact Draw.later_of (HO.out _))))
  refine wpQuiet_nil ?_
  intro wr hw'
  obtain⟨q9,hq9⟩:=hw'
  have hBq:=q9.h
  rw [←hq9]at hBq
  clear hq9 q9
  replace bW:=bW.trans (hBq.mono bW.size)
  replace A:=A.later hBq
  replace v0:=v0.later hBq
  clear hBq
  clear l1 l4 le0 le1 lW lR1 HO
  have d4:=v0.cell (i:=4) rfl
  obtain⟨pr,po,vx,rx,back⟩:=A.L.step hx
  have hBw:B≤wr.heap.size:=Nat.le_trans hB bW.size
  have HBK:Hid _:=back
  clear back
  go_wp2_with fail
  refine(comeL (by decide) (by decide) g B ya.h ya.aT ya.cT ya.aW ya.cW (j:Int) wr vx rx.p rx.l hBw hxo).mono ?_
  rintro e wa ⟨rfl,⟨aT',cT',aW',cW',va,pa,oa,la⟩,ka⟩
  have L':=HBK.out wa ⟨(comeH ya.h (j:Int)).1,aT',cT',aW',cW'⟩ va ⟨pa,oa⟩ (Keep.ofKept ka) la
  obtain⟨A2,b2⟩:=A.turn hkB hx L' (Keep.ofKept ka) hBw
  clear HBK va pa oa la ka L'
  go_wp2_with fail
  go_ret
  exact⟨by rw [hR.out];rfl,by rw [hR.out];exact⟨cH,_,aR,cR,A2⟩,(Fr.ofB bW hB).trans b2⟩
theorem hopLose {T:TypeId}{pre post:List Value}{ow:Nat}(hTa:T≠70)(k B:Nat)(W:Wd)(ro pl n:Int)(tx:ByteArray)(i:Nat)(hi:i<3)(w:World){g:Nat}(lay:WLay T pre post ow w B k g W)(hB:B≤w.heap.size)(hkB:NT T)(ok:okW W=true):
  Calls Tryz.prog 83 #[.pointer (some ⟨k,ow,none⟩),(⟨6,(i:Int),ro,pl,n,tx⟩:Ac).v] w fun x w'=>x=.returned (.bool (hopW W ⟨6,(i:Int),ro,pl,n,tx⟩ i).2)∧WLay T pre post ow w' B k g (hopW W ⟨6,(i:Int),ro,pl,n,tx⟩ i).1∧Fr B g w w':=by
 obtain⟨cH,xs,aR,cR,A⟩:=lay
 have hmix:=Tak.mix
 obtain⟨okh,oks⟩:=ok_parts.1 ok
 obtain⟨ya,hx,hxh⟩:=A.hop okh hi
 have hrl:W.rs.length≤2097152:=by have:=(hops_iff.1 okh).2.1;simp only [roadsB,Bool.and_eq_true,decide_eq_true_eq]at this;omega
 obtain⟨hxo,hxr⟩:=at_ok okh hi
 rw [←hxh]at hxo hxr
 obtain⟨hw30,hgo,hto,hlo⟩:=hop_ok hxo
 have HXH:Hid (ya.h=W.at i):=hxh
 clear hxh
 have hIn: ∀w',Calls Tryz.prog 70 #[.int .i64 (i:Int),.int .i64 0,.int .i64 2] w' fun x w''=>x=.returned (.bool true)∧w'=w'':=fun w'=>Tak.l1InEq (decide_eq_true ⟨by omega,by omega⟩) w'
 have bW:=(Below.refl w.heap.size w).alloc (Nat.le_refl _) (.cells #[.int .i64 6,.int .i64 (i:Int),.int .i64 ro,.int .i64 pl,.int .i64 n,.string tx] 70)
 have v0:Var 70 (w.alloc (.cells #[.int .i64 6,.int .i64 (i:Int),.int .i64 ro,.int .i64 pl,.int .i64 n,.string tx] 70)) w.heap.size [.int .i64 6,.int .i64 (i:Int),.int .i64 ro,.int .i64 pl,.int .i64 n,.string tx]:=Var.new w _
 replace A:=A.later bW
 have e0:=A.v.cell0 rfl
 have e1:=A.v.cell (i:=1) rfl
 have d0:=v0.cell (i:=0) rfl
 have d1:=v0.cell (i:=1) rfl
 have d2:=v0.cell (i:=2) rfl
 have d3:=v0.cell (i:=3) rfl
 have d4:=v0.cell (i:=4) rfl
 have i0:(0:Int)≤(i:Int):=by omega
 have i1:(i:Int)<3:=by omega
 have HIN:Hid _:=hIn
 clear hIn
 go_enter Tryz.func83,Tryz.ntmps83
 go_upto_region 1 with(fail)
 generalize w.alloc (.cells #[.int .i64 6,.int .i64 (i:Int),.int .i64 ro,.int .i64 pl,.int .i64 n,.string tx] 70)=V at *
 go_wp2_with fail
 refine(HIN.out _).mono ?_
 rintro e w1 ⟨rfl,rfl⟩
 clear HIN
 go_wp2_with fail
 have le0:=Draw.Later.cell e0
 have l1:=Draw.Later.cell d1
 refine Draw.wp_region_later hmix (by kernel_rfl) ?_
 repeat (go_big_quiet_step (fail))
 refine wpQuiet_nil ?_
 intro wq hw'
 obtain⟨q9,hq9⟩:=hw'
 have hBq:=q9.h
 rw [←hq9]at hBq
 clear hq9 q9 le0 l1 e0 e1 d0 d1 d2 d3 d4
 replace bW:=bW.trans (hBq.mono bW.size)
 replace A:=A.later hBq
 replace v0:=v0.later hBq
 clear hBq
 have e0:=A.v.cell0 rfl
 have e1:=A.v.cell (i:=1) rfl
 have d0:=v0.cell (i:=0) rfl
 have d1:=v0.cell (i:=1) rfl
 have d2:=v0.cell (i:=2) rfl
 have d3:=v0.cell (i:=3) rfl
 have d4:=v0.cell (i:=4) rfl
 have HS:Hid (w.heap.size<wq.heap.size):=v0.lt
 go_wp2_with fail
 obtain⟨kA,hkA⟩: ∃kA,w.heap.size=kA:=⟨_,rfl⟩
 rw [hkA]at v0 d0 d1 d2 d3 d4 HS ⊢
 obtain⟨pr,po,vx,rx,back⟩:=A.L.step hx
 have hBw:B≤wq.heap.size:=Nat.le_trans hB bW.size
 have HBK:Hid _:=back
 clear back e0 e1 d0 d1 d2 d3 d4
 have hR:Hid (hopW W ⟨6,(i:Int),ro,pl,n,tx⟩ i=(W.put i (outH ya.h n).1,(outH ya.h n).2.2)):=by show _=_;simp [hopW,←HXH.out]
 refine(l7OutL (by decide) g B ya.h ya.aT ya.cT ya.aW ya.cW n wq vx rx.l hBw (by omega)).mono ?_
 rintro e wa ⟨aW',cW',rfl,va,oa,ka,la⟩
 have L':=HBK.out wa ⟨(outH ya.h n).1,ya.aT,ya.cT,aW',cW'⟩ va ⟨by rw [show(outH ya.h n).1.t=ya.h.t from out_t _ _];exact rx.p.kept ka (own_win (by decide) rx.p vx),oa⟩ (Keep.ofKept ka) la
 obtain⟨A2,b2⟩:=A.turn hkB hx L' (Keep.ofKept ka) hBw
 clear HBK va oa la ka L' vx rx
 have HA2:Hid _:=A2
 have HB2:Hid _:=(Fr.ofB bW hB).trans b2
 clear A2 b2
 go_wp2_with fail
 go_ret
 have bA: ∀o:Obj,Below wa.heap.size wa (wa.alloc o):=fun o=>(Below.refl _ _).alloc (Nat.le_refl _) o
 exact⟨by rw [hR.out];rfl,by rw [hR.out];exact⟨cH,_,aR,cR,HA2.out.later (bA _)⟩,HB2.out.trans (Fr.ofB (bA _) (Nat.le_trans hB HB2.out.size))⟩
end Go.Proofs.YtfmcahjdhoabcaaGreat.Wor
