/- Contracts of this seat's functions, and their mathematics (PumA RegV PumB PumM RowW). -/
import Derived.Test.YtfejobjgbadfjaaGreatK16
import Derived.Test.YtfejobjgbadfjaaGreatK3
import Derived.Test.YtfejobjgbadfjaaGreatK13
import Derived.Test.YtfejobjgbadfjaaGreatK8
set_option linter.unusedVariables false
set_option linter.unusedSimpArgs false
set_option maxRecDepth 10000
set_option maxHeartbeats 4000000
namespace Go.Proofs.YtfejobjgbadfjaaGreat.Pum
open Go.RowKit RowG Tak Giv
def canP (t:Tk)(g:Gv):Int:=if g.en then 0 else fitN g t.bs
def moveN (t:Tk)(g:Gv)(n:Int):Int:=min n (canP t g)
def leftT (t:Tk)(k:Int):Tk:={t with bs:=t.bs.extract k.toNat t.bs.size}
def moreG (t:Tk)(g:Gv)(k:Int):Gv:=⟨g.ba,g.bs++t.bs.extract 0 k.toNat,g.cp,g.lm,g.en||(t.en&&decide ((t.bs.size:Int)=k)),g.dn⟩
theorem can_in {t:Tk}{g:Gv}(hg:g.ok=true):0≤canP t g∧canP t g≤t.bs.size:=by
 unfold canP
 split
 ·omega
 ·have:=fit_in hg t.bs
  omega
theorem move_in {t:Tk}{g:Gv}{n:Int}(hg:g.ok=true)(hn:0≤n):0≤moveN t g n∧moveN t g n≤t.bs.size∧moveN t g n≤n:=by
 have:=can_in (t:=t) hg
 unfold moveN
 omega
theorem l12Can (t:Tk)(a:Option Addr)(c:Nat)(g:Gv)(w:World)(hok:g.ok=true)(hs:t.bs.size≤2097152):
  Calls Tryz.prog 107 #[.agg #[.int .i64 t.nx,.string t.bs,.slice a t.l.length c,.int .i64 t.cp,.int .i64 t.fi,.bool t.en],g.v] w fun x w'=>x=.returned (.int .i64 (canP t g))∧Below w.heap.size w w':=by
 have hmix:=Tak.mix
 obtain⟨i1,i2,i3,i4,i5,i6,i7⟩:=ok_iff.1 hok
 obtain⟨f1,f2,f3,f4⟩:=fit_in hok t.bs
 have hE:=fun w'=>l6End g w' ⟨⟨by omega,by omega⟩,by omega⟩
 have hM1: ∀w',Calls Tryz.prog 38 #[.int .i64 (g.cp-g.bs.size),.int .i64 (1000000000-(g.ba+g.bs.size))] w' fun e w''=>e=.returned (.int .i64 (min (g.cp-g.bs.size) (1000000000-(g.ba+g.bs.size))))∧w'=w'':=fun w'=>by
  have:=Tak.l1Min (g.cp-g.bs.size) (1000000000-(g.ba+g.bs.size)) w'
  rw [show(if g.cp-g.bs.size<1000000000-(g.ba+g.bs.size)then g.cp-g.bs.size else 1000000000-(g.ba+g.bs.size))=min (g.cp-g.bs.size) (1000000000-(g.ba+g.bs.size)) by split <;>omega]at this
  exact this
 have hM2: ∀w',Calls Tryz.prog 38 #[.int .i64 (t.bs.size:Int),.int .i64 (min (g.cp-g.bs.size) (1000000000-(g.ba+g.bs.size)))] w' fun e w''=>e=.returned (.int .i64 (fitN g t.bs))∧w'=w'':=fun w'=>by
  have:=Tak.l1Min (t.bs.size:Int) (min (g.cp-g.bs.size) (1000000000-(g.ba+g.bs.size))) w'
  rw [show(if (t.bs.size:Int)<min (g.cp-g.bs.size) (1000000000-(g.ba+g.bs.size))then(t.bs.size:Int)else min (g.cp-g.bs.size) (1000000000-(g.ba+g.bs.size)))=fitN g t.bs by unfold fitN;split <;>omega]at this
  exact this
 have hW:Hid _:=(show canP t g=if g.en then 0 else fitN g t.bs from rfl)
 obtain⟨n,hn⟩: ∃n,fitN g t.bs=n:=⟨_,rfl⟩
 obtain⟨m,hm⟩: ∃m,min (g.cp-g.bs.size) (1000000000-(g.ba+g.bs.size))=m:=⟨_,rfl⟩
 rw [hn]at hM2 f1 f2 f3 f4 hW
 rw [hm]at hM1 hM2
 clear hn hm hok i7
 obtain⟨i8,i9⟩:=i1
 obtain⟨j1,j2⟩:=i2
 generalize canP t g=R at *
 obtain⟨ba,bs,cp,lm,en,dn⟩:=g
 obtain⟨nx,tb,tl,tcp,fi,ten⟩:=t
 dsimp only [Gv.v]at *
 have bW:=((Below.refl w.heap.size w).alloc (Nat.le_refl _) (.cells #[.int .i64 nx,.string tb,.slice a tl.length c,.int .i64 tcp,.int .i64 fi,.bool ten] 44)).alloc (by simp) (.cells #[.int .i64 ba,.string bs,.int .i64 cp,.int .i64 lm,.bool en,.bool dn] 41)
 have v0:Var 44 (w.alloc (.cells #[.int .i64 nx,.string tb,.slice a tl.length c,.int .i64 tcp,.int .i64 fi,.bool ten] 44)) w.heap.size [.int .i64 nx,.string tb,.slice a tl.length c,.int .i64 tcp,.int .i64 fi,.bool ten]:=Var.new w _
 replace v0:=v0.alloc (.cells #[.int .i64 ba,.string bs,.int .i64 cp,.int .i64 lm,.bool en,.bool dn] 41)
 have v1:Var 41 ((w.alloc (.cells #[.int .i64 nx,.string tb,.slice a tl.length c,.int .i64 tcp,.int .i64 fi,.bool ten] 44)).alloc (.cells #[.int .i64 ba,.string bs,.int .i64 cp,.int .i64 lm,.bool en,.bool dn] 41)) (w.heap.size+1) [.int .i64 ba,.string bs,.int .i64 cp,.int .i64 lm,.bool en,.bool dn]:=by
  have:=Var.new (T:=41) (w.alloc (.cells #[.int .i64 nx,.string tb,.slice a tl.length c,.int .i64 tcp,.int .i64 fi,.bool ten] 44)) [.int .i64 ba,.string bs,.int .i64 cp,.int .i64 lm,.bool en,.bool dn]
  simpa using this
 have HE:Hid _:=hE
 have H1:Hid _:=hM1
 have H2:Hid _:=hM2
 clear hE hM1 hM2
 cases en
 case true=>
  go_enter Tryz.func107,Tryz.ntmps107
  go_wp2_with fail
  go_ret
  exact⟨by rw [hW.out];rfl,bW⟩
 go_enter Tryz.func107,Tryz.ntmps107
 go_wp2_with fail
 generalize (w.alloc (.cells #[.int .i64 nx,.string tb,.slice a tl.length c,.int .i64 tcp,.int .i64 fi,.bool ten] 44)).alloc (.cells #[.int .i64 ba,.string bs,.int .i64 cp,.int .i64 lm,.bool false,.bool dn] 41)=W at *
 have d0:=Draw.Later.cell (v0.cell (i:=1) rfl)
 have e0:=Draw.Later.cell (v1.cell (i:=0) rfl)
 have e1:=Draw.Later.cell (v1.cell (i:=1) rfl)
 have e2:=Draw.Later.cell (v1.cell (i:=2) rfl)
 have e3:=Draw.Later.cell (v1.cell (i:=3) rfl)
 have e4:=Draw.Later.cell (v1.cell (i:=4) rfl)
 have e5:=Draw.Later.cell (v1.cell (i:=5) rfl)
 refine Draw.wp_region_later hmix (by kernel_rfl) ?_
 repeat (go_big_quiet_step (first|(go_at_call 36;exact Draw.later_of (HE.out _))|(go_at_call 38;first|(with_reducible exact Draw.later_same (H1.out _))|(with_reducible exact Draw.later_same (H2.out _)))))
 refine wpQuiet_nil ?_
 intro wq hw'
 obtain⟨q9,hq9⟩:=hw'
 have hBq:=q9.h
 rw [←hq9]at hBq
 have B2:=bW.trans (hBq.mono bW.size)
 clear hq9 q9 d0 e0 e1 e2 e3 e4 e5 hBq bW v0 v1
 go_wp2_with fail
 go_ret
 exact⟨by rw [hW.out];rfl,B2⟩
abbrev tc (t:Tk)(a:Option Addr)(c:Nat):List Value:=[.int .i64 t.nx,.string t.bs,.slice a t.l.length c,.int .i64 t.cp,.int .i64 t.fi,.bool t.en]
structure Kept2 (k j:Nat)(w w':World):Prop where
 os:w'.os=w.os
 tape:w'.tape=w.tape
 output:w'.output=w.output
 size:w.heap.size≤w'.heap.size
 block: ∀i,i<w.heap.size→i≠k→i≠j→w'.heap[i]? =w.heap[i]?
theorem Kept2.trans {k j:Nat}{a b d:World}(h:Kept2 k j a b)(q:Kept2 k j b d):Kept2 k j a d:=
 ⟨q.os.trans h.os,q.tape.trans h.tape,q.output.trans h.output,Nat.le_trans h.size q.size,fun i hi h1 h2=>(q.block i (Nat.lt_of_lt_of_le hi h.size) h1 h2).trans (h.block i hi h1 h2)⟩
theorem Kept2.fst {k j:Nat}{w w':World}(h:Draw.Kept k w w'):Kept2 k j w w':=⟨h.os,h.tape,h.output,h.size,fun i hi h1 _=>h.block i hi h1⟩
theorem Kept2.snd {k j:Nat}{w w':World}(h:Draw.Kept j w w'):Kept2 k j w w':=⟨h.os,h.tape,h.output,h.size,fun i hi _ h2=>h.block i hi h2⟩
theorem Kept2.one {k:Nat}{w w':World}(h:Kept2 k k w w'):Draw.Kept k w w':=⟨h.os,h.tape,h.output,h.size,fun i hi h1=>h.block i hi h1 h1⟩
theorem Kept2.below {k j B:Nat}{w w':World}(h:Kept2 k j w w')(h1:B≤k)(h2:B≤j)(h3:B≤w.heap.size):Below B w w':=⟨h.os,h.tape,h.output,h.size,fun i hi=>h.block i (by omega) (by omega) (by omega)⟩
theorem Kept2.own {α:Type}{E:El α}{T:TypeId}{w w':World}{B k j:Nat}{a:Option Addr}{c:Nat}{l:List α}(h:E.Own T w B a c l)(q:Kept2 k j w w')(h1: ∀x,a=some x→x.block≠k)(h2: ∀x,a=some x→x.block≠j):E.Own T w' B a c l:=
 h.same fun x hx=>q.block x.block (h.lt x hx).2 (h1 x hx) (h2 x hx)
structure Duo (kt ot kg og:Nat)(R:World→List Value→List Value→Prop):Prop where
 t: ∀ {w tv gv},R w tv gv→ ∃T pre post,Win T pre post ot w kt tv∧ ∀w' tv',tv'.length=tv.length→Win T pre post ot w' kt tv'→Draw.Kept kt w w'→R w' tv' gv
 g: ∀ {w tv gv},R w tv gv→ ∃T pre post,Win T pre post og w kg gv∧ ∀w' gv',gv'.length=gv.length→Win T pre post og w' kg gv'→Draw.Kept kg w w'→R w' tv gv'
theorem Duo.later {kt ot kg og:Nat}{R:World→List Value→List Value→Prop}(d:Duo kt ot kg og R){w w':World}{tv gv:List Value}(h:R w tv gv)(b:Below w.heap.size w w'):R w' tv gv:=by
 obtain⟨T,pre,post,v,q⟩:=d.t h
 exact q w' tv rfl (v.later b) (Draw.Kept.ofBelow b (Nat.le_refl _))
theorem duo_one {T:TypeId}{a b c:List Value}{k ot og n:Nat}(ha:a.length=ot)(hb:ot+n+b.length=og):Duo k ot k og (fun w tv gv=>tv.length=n∧Var T w k (a++tv++(b++gv++c))) where
 t h:=⟨T,a,_,Win.of ha h.2,fun w' tv' e v _=>⟨e.trans h.1,v.var⟩⟩
 g {w tv gv} h:=⟨T,a++tv++b,c,Win.of (by simp only [List.length_append];omega) (by have:=h.2;simpa [List.append_assoc]using this),fun w' gv' e v _=>⟨h.1,by have:=v.var;simpa [List.append_assoc]using this⟩⟩
theorem more_eq {t:Tk}{g:Gv}{n:Int}(hg:g.ok=true)(hn:0≤n):
  (⟨(writeG g (t.bs.extract 0 (moveN t g n).toNat)).1.ba,(writeG g (t.bs.extract 0 (moveN t g n).toNat)).1.bs,(writeG g (t.bs.extract 0 (moveN t g n).toNat)).1.cp,(writeG g (t.bs.extract 0 (moveN t g n).toNat)).1.lm,g.en||(t.en&&decide ((t.bs.size:Int)=moveN t g n)),(writeG g (t.bs.extract 0 (moveN t g n).toNat)).1.dn⟩:Gv)=moreG t g (moveN t g n):=by
 obtain⟨m0,m1,m2⟩:=move_in (t:=t) (n:=n) hg hn
 have hsz:(t.bs.extract 0 (moveN t g n).toNat).size=(moveN t g n).toNat:=by rw [Giv.ext_size _ _ _ (by omega)];omega
 unfold moreG writeG
 cases he:g.en
 ·have hfit:fitN g (t.bs.extract 0 (moveN t g n).toNat)=moveN t g n:=by
   have h1:moveN t g n≤canP t g:=by unfold moveN;omega
   have h2:canP t g=fitN g t.bs:=by unfold canP;rw [he];rfl
   rw [h2]at h1
   unfold fitN at h1 ⊢
   rw [hsz]
   omega
  simp only [Bool.false_eq_true,if_false]
  rw [hfit]
  congr 2
  apply ByteArray.ext
  simp [ByteArray.data_extract]
 ·have h0:moveN t g n=0:=by
   have h2:canP t g=0:=by unfold canP;rw [he];rfl
   unfold moveN at m0 ⊢
   rw [h2]at m0 ⊢
   omega
  simp only [if_true,h0]
  congr 1
  ·apply ByteArray.ext
   simp [ByteArray.data_extract]
theorem l12Pump {kt ot kg og:Nat}{R:World→List Value→List Value→Prop}(duo:Duo kt ot kg og R)(t:Tk)(a:Option Addr)(c:Nat)(g:Gv)(n:Int)(w:World)(hR:R w (tc t a c) g.c)(hok:g.ok=true)(hs:t.bs.size≤2097152)(hn:0≤n):
  Calls Tryz.prog 92 #[.pointer (some ⟨kt,ot,none⟩),.pointer (some ⟨kg,og,none⟩),.int .i64 n] w fun x w'=>x=.returned (.int .i64 (moveN t g n))∧R w' (tc (leftT t (moveN t g n)) a c) (moreG t g (moveN t g n)).c∧Kept2 kt kg w w':=by
 have hmix:=Tak.mix
 obtain⟨m0,m1,m2⟩:=move_in (t:=t) (n:=n) hok hn
 have hC:=fun w'=>l12Can t a c g w' hok hs
 have hM: ∀w',Calls Tryz.prog 38 #[.int .i64 n,.int .i64 (canP t g)] w' fun e w''=>e=.returned (.int .i64 (moveN t g n))∧w'=w'':=fun w'=>by
  have:=Tak.l1Min n (canP t g) w'
  rw [show(if n<canP t g then n else canP t g)=moveN t g n by unfold moveN;split <;>omega]at this
  exact this
 have hX:=more_eq (t:=t) hok hn
 obtain⟨T,pre,post,vt,_⟩:=duo.t hR
 obtain⟨T',pre',post',vg,_⟩:=duo.g hR
 have e0:=vt.cell0 rfl
 have e1:=vt.cell (i:=1) rfl
 have e2:=vt.cell (i:=2) rfl
 have e3:=vt.cell (i:=3) rfl
 have e4:=vt.cell (i:=4) rfl
 have e5:=vt.cell (i:=5) rfl
 have f0:=vg.cell0 rfl
 have f1:=vg.cell (i:=1) rfl
 have f2:=vg.cell (i:=2) rfl
 have f3:=vg.cell (i:=3) rfl
 have f4:=vg.cell (i:=4) rfl
 have f5:=vg.cell (i:=5) rfl
 go_enter Tryz.func92,Tryz.ntmps92
 go_wp2_with fail
 have HC:Hid _:=hC
 have HM:Hid _:=hM
 have HX:Hid _:=hX
 clear hC hM hX
 have d0:=Draw.Later.cell e0
 have d1:=Draw.Later.cell e1
 have d2:=Draw.Later.cell e2
 have d3:=Draw.Later.cell e3
 have d4:=Draw.Later.cell e4
 have d5:=Draw.Later.cell e5
 have g0:=Draw.Later.cell f0
 have g1:=Draw.Later.cell f1
 have g2:=Draw.Later.cell f2
 have g3:=Draw.Later.cell f3
 have g4:=Draw.Later.cell f4
 have g5:=Draw.Later.cell f5
 clear e0 e1 e2 e3 e4 e5 f0 f1 f2 f3 f4 f5
 refine Draw.wp_region_later hmix (by kernel_rfl) ?_
 repeat (go_big_quiet_step (first|(go_at_call 107;exact Draw.later_of (HC.out _))|(go_at_call 38;exact Draw.later_same (HM.out _))))
 refine wpQuiet_nil ?_
 intro wq hw'
 obtain⟨q9,hq9⟩:=hw'
 have hBq:=q9.h
 rw [←hq9]at hBq
 clear hq9 q9 d0 d1 d2 d3 d4 d5 g0 g1 g2 g3 g4 g5 HC HM vt vg
 have hR1:=duo.later hR hBq
 have K1:Kept2 kt kg w wq:=.fst (Draw.Kept.ofBelow hBq (Nat.le_refl _))
 clear hR hBq
 obtain⟨k,HK⟩: ∃k,Hid (moveN t g n=k):=⟨_,rfl⟩
 rw [HK.out]at m0 m1 m2 HX ⊢
 obtain⟨j,rfl⟩: ∃j:Nat,k=(j:Int):=⟨k.toNat,by omega⟩
 have j1:j≤t.bs.size:=by omega
 rw [show((j:Int)).toNat=j by omega]at HX
 obtain⟨T,pre,post,vt,qt0⟩:=duo.t hR1
 have e1:=vt.cell (i:=1) rfl
 obtain⟨T',pre',post',vg,qg⟩:=duo.g hR1
 have hsz:(t.bs.extract 0 j).size≤2097152:=by rw [Giv.ext_size _ _ _ j1];omega
 go_wp2_with fail
 refine(l6WriteW kg g (t.bs.extract 0 j) _ vg hok hsz).mono ?_
 rintro x w2 ⟨rfl,v2,k2⟩
 have hR2:=qg w2 (writeG g (t.bs.extract 0 j)).1.c rfl v2 k2
 have K2:=K1.trans (.snd k2)
 clear hR1 K1 vt e1 vg qg v2 k2 hsz qt0 T pre post T' pre' post'
 obtain⟨g',HG⟩: ∃g',Hid ((writeG g (t.bs.extract 0 j)).1=g'):=⟨_,rfl⟩
 rw [HG.out]at hR2 HX
 obtain⟨T,pre,post,vt,qt⟩:=duo.t hR2
 have e1:=vt.cell (i:=1) rfl
 have e1f:=vt.free 1
 have hR3:R (w2.setCell ⟨kt,ot+1,none⟩ (.string (t.bs.extract j t.bs.size))) (tc (leftT t j) a c) g'.c:=qt _ _ rfl (vt.set 1 _) ((Draw.Kept.refl kt w2).setCell (p:=⟨kt,ot+1,none⟩) (.inl rfl) _)
 have K3:=K2.trans (.fst ((Draw.Kept.refl kt w2).setCell (p:=⟨kt,ot+1,none⟩) (.inl rfl) (.string (t.bs.extract j t.bs.size))))
 obtain⟨T3,pre3,post3,vt3,qt3⟩:=duo.t hR3
 have x1:=vt3.cell (i:=1) rfl
 have x5:=vt3.cell (i:=5) rfl
 obtain⟨T4,pre4,post4,vg4,qg4⟩:=duo.g hR3
 have y4:=vg4.cell (i:=4) rfl
 have y4f:=vg4.free 4
 have hen:g'.en=g.en:=by
  have:=congrArg Gv.en HG.out
  rw [←this]
  unfold writeG
  split <;>rfl
 have hls:(t.bs.extract j t.bs.size).size=t.bs.size-j:=Giv.ext_size _ _ _ (Nat.le_refl _)
 have HE:Hid ((t.bs.extract j t.bs.size).toList.isEmpty=decide ((t.bs.size:Int)=(j:Int))):=by
  show _=_
  rw [isEmpty_eq,hls]
  congr 1
  apply propext
  omega
 clear hR2 qt K2 vt3 qt3
 dsimp only [leftT]at *
 have hjn:((j:Int)).toNat=j:=by omega
 have HL:Hid (leftT t j={t with bs:=t.bs.extract j t.bs.size}):=by show _=_;unfold leftT;rw [hjn]
 rw [hjn]at x1 qg4 hR3
 clear hjn
 go_upto_region 4 with(fail)
 generalize w2.setCell ⟨kt,ot+1,none⟩ (.string (t.bs.extract j t.bs.size))=W at *
 have HR:Hid _:=hR3
 have HQ:Hid _:=qg4
 clear hR3 vt e1 e1f qg4 HG
 generalize t.bs.extract j t.bs.size=s at *
 cases ht:t.en
 ·rw [ht]at x5
  have hg2:g'=moreG t g j:=by
   rw [←HX.out,ht,Bool.false_and,Bool.or_false,←hen]
  go_wp2_with fail
  go_ret
  exact⟨by rw [HK.out];rfl,by rw [HK.out,←hg2,HL.out];exact HR.out,K3⟩
 ·rw [ht]at x5
  cases he:s.toList.isEmpty
  ·have hg2:g'=moreG t g j:=by
    rw [←HX.out,ht,Bool.true_and,←HE.out,he,Bool.or_false,←hen]
   go_wp2_with fail
   go_ret
   exact⟨by rw [HK.out];rfl,by rw [HK.out,←hg2,HL.out];exact HR.out,K3⟩
  ·have hg2:(⟨g'.ba,g'.bs,g'.cp,g'.lm,true,g'.dn⟩:Gv)=moreG t g j:=by
    rw [←HX.out,ht,Bool.true_and,←HE.out,he,Bool.or_true]
   have hR5:R (W.setCell ⟨kg,og+4,none⟩ (.bool true)) _ (⟨g'.ba,g'.bs,g'.cp,g'.lm,true,g'.dn⟩:Gv).c:=HQ.out _ _ rfl (vg4.set 4 _) ((Draw.Kept.refl kg W).setCell (p:=⟨kg,og+4,none⟩) (.inl rfl) _)
   have K5:=K3.trans (.snd ((Draw.Kept.refl kg W).setCell (p:=⟨kg,og+4,none⟩) (.inl rfl) (.bool true)))
   have HR5:Hid _:=hR5
   have HK5:Hid _:=K5
   clear hR5 K5
   go_wp2_with fail
   go_ret
   exact⟨by rw [HK.out];rfl,by rw [HK.out,←hg2,HL.out];exact HR5.out,HK5.out⟩
end Go.Proofs.YtfejobjgbadfjaaGreat.Pum
namespace Go.Proofs.YtfejobjgbadfjaaGreat.RegJ
open Go.RowKit
def Val (vs:List (Option Value))(d:Nat→Bool)(j:Nat)(v:Value)(_:World):Prop:=d j=true∧ ∀u,vs[j]? =some (some u)→v=u
theorem Val.keep {vs:List (Option Value)}{d:Nat→Bool}{x:Nat→Value}{w w':World}{i:Nat}: ∀j,j≠i→Val vs d j (x j) w→Val vs (fun j=>j==i||d j) j (x j) w':=
 fun j _ h=>⟨by simp [h.1],h.2⟩
theorem Val.this {vs:List (Option Value)}{d:Nat→Bool}{w:World}{i:Nat}{v:Value}(h:vs[i]? =some (some v)∨vs[i]? =some none):Val vs (fun j=>j==i||d j) i v w:=
 ⟨by simp,fun u hu=>by
  rcases h with h|h
  ·rw [h]at hu;cases hu;rfl
  ·rw [h]at hu;cases hu⟩
end Go.Proofs.YtfejobjgbadfjaaGreat.RegJ
namespace Go.Proofs.YtfejobjgbadfjaaGreat.Pum
open Go.RowKit RowG Tak Giv
end Go.Proofs.YtfejobjgbadfjaaGreat.Pum
namespace Go.Proofs.YtfejobjgbadfjaaGreat.Pum
open Go.RowKit RowG Tak Giv
theorem left_ok {t:Tk}{k:Int}(h:t.ok=true)(h0:0≤k)(h1:k≤t.bs.size):(leftT t k).ok=true:=by
 have:=away_ok (n:=k) h
 rw [away_in h h0 h1]at this
 exact this
theorem en_ok {g:Gv}(hg:g.ok=true)(e:Bool):Gv.ok ⟨g.ba,g.bs,g.cp,g.lm,g.en||e,g.dn⟩=true:=by
 obtain⟨i1,i2,i3,i4,i5,i6,i7⟩:=Giv.ok_iff.1 hg
 refine Giv.ok_iff.2 ⟨i1,i2,i3,i4,i5,i6,fun h=>⟨?_,(i7 h).2⟩⟩
 show(g.en||e)=true
 rw [(i7 h).1]
 rfl
theorem write_en (g:Gv)(s:ByteArray):(writeG g s).1.en=g.en:=by
 unfold writeG
 split <;>rfl
theorem more_ok {t:Tk}{g:Gv}{n:Int}(hg:g.ok=true)(hn:0≤n):(moreG t g (moveN t g n)).ok=true:=by
 rw [←more_eq (t:=t) hg hn]
 have:=en_ok (write_ok hg (t.bs.extract 0 (moveN t g n).toNat)) (t.en&&decide ((t.bs.size:Int)=moveN t g n))
 rw [write_en]at this
 exact this
end Go.Proofs.YtfejobjgbadfjaaGreat.Pum
namespace Go.Proofs.YtfejobjgbadfjaaGreat.RowG
open Go.RowKit
theorem El.vals_split {α:Type}(E:El α){l:List α}{i:Nat}{x:α}(hx:l[i]? =some x):E.vals l=E.vals (l.take i)++E.enc x++E.vals (l.drop (i+1)):=by
 have hi:=(List.getElem?_eq_some_iff.1 hx).1
 have hl:l=l.take i++x::l.drop (i+1):=by
  have h1:=List.take_append_drop i l
  have h2:l.drop i=x::l.drop (i+1):=by
   rw [List.drop_eq_getElem_cons hi]
   have:=(List.getElem?_eq_some_iff.1 hx).2
   rw [this]
  rw [h2]at h1
  exact h1.symm
 conv=>lhs;rw [hl]
 simp [El.vals]
theorem El.vals_setTo {α:Type}(E:El α){l:List α}{i:Nat}(hi:i<l.length)(y:α):E.vals (l.set i y)=E.vals (l.take i)++E.enc y++E.vals (l.drop (i+1)):=by
 have:=El.vals_split E (l:=l.set i y) (i:=i) (x:=y) (by rw [List.getElem?_set_self (by simpa using hi)])
 rw [this,List.take_set_of_le (by omega),List.drop_set_of_lt (by omega)]
theorem El.Own.win {α:Type}{E:El α}{T:TypeId}{w:World}{B g c:Nat}{l:List α}(h:E.Own T w B (some ⟨g,0,Option.none⟩) c l){i:Nat}{x:α}(hx:l[i]? =some x):
  ∃pre post,Win T pre post (i*E.size) w g (E.enc x)∧ ∀w' y,Win T pre post (i*E.size) w' g (E.enc y)→E.Own T w' B (some ⟨g,0,Option.none⟩) c (l.set i y):=by
 have hi:=(List.getElem?_eq_some_iff.1 hx).1
 obtain⟨h1,h2⟩:=h
 rcases h2 with⟨e,_⟩|⟨g',cap,cur,e,hB,hg,hc,hm,hs,ht⟩
 ·simp at e
 injection e with e1 e2 e3
 injection e1 with e1
 injection e1 with e1
 subst e1 e3
 have hp:(E.vals (l.take i)).length=i*E.size:=by rw [E.vals_len,List.length_take,Nat.min_eq_left (by omega)]
 have hcur:cur.toList=E.vals l++cur.toList.drop (l.length*E.size):=by
  conv=>lhs;rw [←List.take_append_drop (l.length*E.size) cur.toList,ht]
 refine⟨E.vals (l.take i),E.vals (l.drop (i+1))++cur.toList.drop (l.length*E.size),⟨hp,?_⟩,?_⟩
 ·have:cur=(E.vals (l.take i)++E.enc x++(E.vals (l.drop (i+1))++cur.toList.drop (l.length*E.size))).toArray:=by
   apply Array.ext'
   rw [List.toList_toArray,←List.append_assoc,←El.vals_split E hx]
   exact hcur
  rw [hg,←this]
 ·intro w' y v
  have hb:=v.blk
  have hv:=E.vals_setTo hi y
  refine⟨by rw [E.vals_len],.inr ⟨g,c,_,by rw [List.length_set],hB,hb,by rw [List.length_set];exact hc,hm,?_,?_⟩⟩
  ·have hx':(E.enc x).length=(E.enc y).length:=by rw [E.len,E.len]
   have h3:=congrArg List.length hcur
   rw [El.vals_split E hx]at h3
   simp only [List.length_append,Array.length_toList]at h3
   simp only [List.size_toArray,List.length_append]
   omega
  ·rw [List.length_set,List.toList_toArray,←List.append_assoc,←hv,List.take_left' (by rw [E.vals_len,List.length_set])]
end Go.Proofs.YtfejobjgbadfjaaGreat.RowG
