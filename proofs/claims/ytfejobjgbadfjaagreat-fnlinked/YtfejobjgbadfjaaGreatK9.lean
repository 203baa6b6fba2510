/- Contracts of this seat's functions, and their mathematics (HopE). -/
import Derived.Test.YtfejobjgbadfjaaGreatK8
set_option linter.unusedVariables false
set_option linter.unusedSimpArgs false
set_option maxRecDepth 10000
set_option maxHeartbeats 8000000
namespace Go.Proofs.YtfejobjgbadfjaaGreat.Hop
open Go.RowKit RowG
def sendL (o:(Int×ByteArray)×Bool×Bool)(road:Int):Lt:=⟨false,road,o.1.1,o.1.2,o.2.1,0,false⟩
def sendH (h:Hp)(road p n:Int):Hp×Bool:=if (Giv.offerG h.g p n).2.2 then(postH h (sendL (Giv.offerG h.g p n) road),postB h (sendL (Giv.offerG h.g p n) road))else(h,false)
def tellL (t:Tak.Tk)(road:Int)(done:Bool):Lt:=⟨true,road,t.nx,⟨#[]⟩,false,(if 1000000000<Tak.limT t.nx t.bs t.cp then 1000000000 else Tak.limT t.nx t.bs t.cp),done&&t.en⟩
def tellH (h:Hp)(road:Int)(done:Bool):Hp×Bool:=(postH h (tellL h.t road done),postB h (tellL h.t road done))
theorem offer_size {g:Giv.Gv}(h:g.ok=true)(p n:Int):(Giv.offerG g p n).1.2.size≤400:=by
 have hb:=(Giv.ok_iff.1 h)
 have h1:(g.bs.size:Int)≤400:=by omega
 unfold Giv.offerG
 split
 ·exact Nat.zero_le _
 ·split
  ·exact Nat.zero_le _
  ·dsimp only
   rw [ByteArray.size_extract]
   omega
theorem l7SendL {T:TypeId}{pre post:List Value}{ow:Nat}(hT:T≠75)(k B:Nat)(h:Hp)(aT:Option Addr)(cT:Nat)(aW:Option Addr)(cW:Nat)(road p n:Int)(w:World)
  (hv:Win T pre post ow w k (h.c aT cT aW cW)) (ho:letE.Own 75 w B aW cW h.ws) (hB:B≤w.heap.size) (hl:h.ws.length≤524288) (hg:h.g.ok=true):
  Calls Tryz.prog 86 #[.pointer (some ⟨k,ow,none⟩),.int .i64 road,.int .i64 p,.int .i64 n] w fun e w'=> ∃aW' cW',e=.returned (.bool (sendH h road p n).2)∧Win T pre post ow w' k ((sendH h road p n).1.c aT cT aW' cW')∧letE.Own 75 w' B aW' cW' (sendH h road p n).1.ws∧Keep k (blk aW) w w'∧Locd w.heap.size aW aW':=by
 have hO:=fun w'=>Giv.l6Offer h.g p n w' hg
 have hsz:=offer_size hg p n
 have HP:=fun w' v' o' b'=>l7PostL (pre:=pre) (post:=post) (ow:=ow) hT k B h aT cT aW cW (sendL (Giv.offerG h.g p n) road) w' v' o' b' hl (by show _≤_;simp only [sendL];omega)
 unfold sendH
 unfold sendL at HP ⊢
 generalize Giv.offerG h.g p n=R at *
 obtain⟨⟨xa,xb⟩,xe,is⟩:=R
 dsimp only [Giv.Gv.v,Giv.offV]at hO HP hsz ⊢
 have HPO:Hid _:=HP
 clear HP hsz
 have e0:=hv.cell0 rfl
 have e1:=hv.cell (i:=1) rfl
 have e2:=hv.cell (i:=2) rfl
 have e3:=hv.cell (i:=3) rfl
 have e4:=hv.cell (i:=4) rfl
 have e5:=hv.cell (i:=5) rfl
 have e6:=hv.cell (i:=6) rfl
 have e7:=hv.cell (i:=7) rfl
 have e8:=hv.cell (i:=8) rfl
 have e9:=hv.cell (i:=9) rfl
 have e10:=hv.cell (i:=10) rfl
 have e11:=hv.cell (i:=11) rfl
 have e12:=hv.cell (i:=12) rfl
 go_enter Tryz.func86,Tryz.ntmps86
 go_wp2_with fail
 refine(hO _).mono ?_
 rintro e w1 ⟨rfl,b1⟩
 clear hO e0 e1 e2 e3 e4 e5 e6 e7 e8 e9 e10 e11 e12
 have v9:Var 123 (w1.alloc (.cells #[.int .i64 xa,.string xb] 123)) w1.heap.size [.int .i64 xa,.string xb]:=Var.new w1 _
 have B1:Below w.heap.size w (w1.alloc (.cells #[.int .i64 xa,.string xb] 123)):=b1.alloc b1.size _
 go_upto_region 2 with(fail)
 generalize w1.alloc (.cells #[.int .i64 xa,.string xb] 123)=W at *
 generalize w1.heap.size=k9 at *
 have v0:=hv.later B1
 have o0:=ho.later B1
 have hBW:B≤W.heap.size:=Nat.le_trans hB B1.size
 have d0:=v9.cell (i:=0) rfl
 have d1:=v9.cell (i:=1) rfl
 cases is
 case false=>
  go_wp2_with fail
  go_ret
  first|exact⟨rfl,aW,cW,v0,o0,Keep.ofBelow B1,Locd.refl _ _⟩|exact⟨aW,cW,rfl,v0,o0,Keep.ofBelow B1,Locd.refl _ _⟩
 go_wp2_with fail
 refine(HPO.out _ v0 o0 hBW).mono ?_
 rintro e w2 ⟨aW',cW',rfl,v2,o2,k2,l2⟩
 clear HPO
 go_wp2_with fail
 go_ret
 first|exact⟨rfl,aW',cW',v2,o2,(Keep.ofBelow B1).trans k2 (fun i hi=>.inr hi),l2.le B1.size⟩|exact⟨aW',cW',rfl,v2,o2,(Keep.ofBelow B1).trans k2 (fun i hi=>.inr hi),l2.le B1.size⟩
theorem l7TellL {T:TypeId}{pre post:List Value}{ow:Nat}(hT:T≠75)(hT2:T≠44)(k B:Nat)(h:Hp)(aT:Option Addr)(cT:Nat)(aW:Option Addr)(cW:Nat)(road:Int)(done:Bool)(w:World)
  (hv:Win T pre post ow w k (h.c aT cT aW cW)) (ho:letE.Own 75 w B aW cW h.ws) (hB:B≤w.heap.size) (hl:h.ws.length≤524288) (hn:0≤h.t.nx∧h.t.nx≤1152921504606846976) (hb:h.t.bs.size≤1152921504606846976) (hc:0≤h.t.cp∧h.t.cp≤1152921504606846976):
  Calls Tryz.prog 87 #[.pointer (some ⟨k,ow,none⟩),.int .i64 road,.bool done] w fun e w'=> ∃aW' cW',e=.returned (.bool (tellH h road done).2)∧Win T pre post ow w' k ((tellH h road done).1.c aT cT aW' cW')∧letE.Own 75 w' B aW' cW' (tellH h road done).1.ws∧Keep k (blk aW) w w'∧Locd w.heap.size aW aW':=by
 have hmix:=mix
 have HLM:Hid _:=fun w'=>Tak.l5Limit h.t.nx h.t.bs aT h.t.l.length cT h.t.cp h.t.fi h.t.en w' hn hb hc
 have HP:=fun w' v' o' b'=>l7PostL (pre:=pre) (post:=post) (ow:=ow) hT k B h aT cT aW cW (tellL h.t road done) w' v' o' b' hl (by show _≤_;simp only [tellL];exact Nat.zero_le _)
 unfold tellH
 dsimp only
 have HX:Hid (tellL h.t road done=⟨true,road,h.t.nx,⟨#[]⟩,false,(if 1000000000<Tak.limT h.t.nx h.t.bs h.t.cp then 1000000000 else Tak.limT h.t.nx h.t.bs h.t.cp),done&&h.t.en⟩):=rfl
 generalize tellL h.t road done=X at *
 have e0:=hv.cell0 rfl
 have e1:=hv.cell (i:=1) rfl
 have e2:=hv.cell (i:=2) rfl
 have e3:=hv.cell (i:=3) rfl
 have e4:=hv.cell (i:=4) rfl
 have e5:=hv.cell (i:=5) rfl
 have e6:=hv.cell (i:=6) rfl
 have e7:=hv.cell (i:=7) rfl
 have e8:=hv.cell (i:=8) rfl
 have e9:=hv.cell (i:=9) rfl
 have e10:=hv.cell (i:=10) rfl
 have e11:=hv.cell (i:=11) rfl
 have e12:=hv.cell (i:=12) rfl
 go_enter Tryz.func87,Tryz.ntmps87
 obtain⟨W,hW⟩: ∃z,Hid (z=w.alloc (.cells #[.int .i64 h.t.nx,.string h.t.bs,.slice aT h.t.l.length cT,.int .i64 h.t.cp,.int .i64 h.t.fi,.bool h.t.en] 44)):=⟨_,rfl⟩
 have v9:Var 44 W w.heap.size [.int .i64 h.t.nx,.string h.t.bs,.slice aT h.t.l.length cT,.int .i64 h.t.cp,.int .i64 h.t.fi,.bool h.t.en]:=by rw [hW.out];exact Var.new w _
 have B1:Below w.heap.size w W:=by rw [hW.out];exact(Below.refl _ _).alloc (Nat.le_refl _) _
 go_upto_region 2 with(fail)
 rw [←hW.out]
 clear hW
 have hk9: ∀w',Win T pre post ow w' k (h.c aT cT aW cW)→Var 44 w' w.heap.size [.int .i64 h.t.nx,.string h.t.bs,.slice aT h.t.l.length cT,.int .i64 h.t.cp,.int .i64 h.t.fi,.bool h.t.en]→w.heap.size≠k:=fun w' a b e=>by
  have h1:=a.blk
  have h2:w'.heap[w.heap.size]? =_:=b
  rw [e,h1]at h2
  injection h2 with h2
  injection h2 with _ h3 _
  exact hT2 h3
 have hws:w.heap.size=w.heap.size:=rfl
 obtain⟨k9,hk9e⟩: ∃k9,w.heap.size=k9:=⟨_,rfl⟩
 rw [hk9e]at v9 hk9 ⊢
 have v0:=hv.later B1
 have o0:=ho.later B1
 have hBW:B≤W.heap.size:=Nat.le_trans hB B1.size
 clear hws e0 e1 e2 e3 e4 e5 e6 e7 e8 e9 e10 e11 e12
 cases done
 focus
  have hXv:X.v=(.agg #[.bool true,.int .i64 road,.int .i64 h.t.nx,.string ⟨#[]⟩,.bool false,.int .i64 (if 1000000000<Tak.limT h.t.nx h.t.bs h.t.cp then 1000000000 else Tak.limT h.t.nx h.t.bs h.t.cp),.bool false]):=by rw [HX.out];rfl
  rw [hXv]at HP
  have HPO:Hid _:=HP
  clear HP hXv HX
  have keepW: ∀(i:Nat) (d:Nat→Bool) (w1:World),(fun d w'=>Var 44 w' k9 [.int .i64 h.t.nx,.string h.t.bs,.slice aT h.t.l.length cT,.int .i64 h.t.cp,.int .i64 h.t.fi,.bool h.t.en]∧(d 13=false→Win T pre post ow w' k (h.c aT cT aW cW)∧letE.Own 75 w' B aW cW h.ws∧Below w.heap.size w w'∧B≤w'.heap.size)∧(d 13=true→ ∃aW' cW',Win T pre post ow w' k ((postH h X).c aT cT aW' cW')∧letE.Own 75 w' B aW' cW' (postH h X).ws∧Keep k (blk aW) w w'∧Locd w.heap.size aW aW')) d w1→i≠13→(fun d w'=>Var 44 w' k9 [.int .i64 h.t.nx,.string h.t.bs,.slice aT h.t.l.length cT,.int .i64 h.t.cp,.int .i64 h.t.fi,.bool h.t.en]∧(d 13=false→Win T pre post ow w' k (h.c aT cT aW cW)∧letE.Own 75 w' B aW cW h.ws∧Below w.heap.size w w'∧B≤w'.heap.size)∧(d 13=true→ ∃aW' cW',Win T pre post ow w' k ((postH h X).c aT cT aW' cW')∧letE.Own 75 w' B aW' cW' (postH h X).ws∧Keep k (blk aW) w w'∧Locd w.heap.size aW aW')) (fun j=>j==i||d j) w1:=fun i d w1 hW hi=>⟨hW.1,fun hd=>hW.2.1 (by simpa using hd:(13:Nat)≠i∧d 13=false).2,fun hd=>hW.2.2 (by rcases(by simpa using hd:(13:Nat)=i∨d 13=true)with q|q;exact absurd q.symm hi;exact q)⟩
  refine RegJ.wp_region_J (W:=fun d w'=>Var 44 w' k9 [.int .i64 h.t.nx,.string h.t.bs,.slice aT h.t.l.length cT,.int .i64 h.t.cp,.int .i64 h.t.fi,.bool h.t.en]∧(d 13=false→Win T pre post ow w' k (h.c aT cT aW cW)∧letE.Own 75 w' B aW cW h.ws∧Below w.heap.size w w'∧B≤w'.heap.size)∧(d 13=true→ ∃aW' cW',Win T pre post ow w' k ((postH h X).c aT cT aW' cW')∧letE.Own 75 w' B aW' cW' (postH h X).ws∧Keep k (blk aW) w w'∧Locd w.heap.size aW aW')) (RegJ.Tell (0) [.eq (.pointer (some ⟨k,ow,none⟩)),.eq (.int .i64 road),.eq (.pointer (some ⟨k9,0,none⟩)),.eq (.int .i64 h.t.nx),.eq (.agg #[.int .i64 h.t.nx,.string h.t.bs,.slice aT h.t.l.length cT,.int .i64 h.t.cp,.int .i64 h.t.fi,.bool h.t.en]),.eq (.int .i64 (Tak.limT h.t.nx h.t.bs h.t.cp)),.eq (.int .i64 (if 1000000000<Tak.limT h.t.nx h.t.bs h.t.cp then 1000000000 else Tak.limT h.t.nx h.t.bs h.t.cp)),.eq (.bool false),.eq (.bool false),.any,.any,.eq (.bool false),.eq (.agg #[.bool true,.int .i64 road,.int .i64 h.t.nx,.string ⟨#[]⟩,.bool false,.int .i64 (if 1000000000<Tak.limT h.t.nx h.t.bs h.t.cp then 1000000000 else Tak.limT h.t.nx h.t.bs h.t.cp),.bool false]),.eq (.bool (postB h X)),.eq (.bool (postB h X))]) [some 12,some 13,some 14,some 15,some 16,some 17,some 18,some 19,some 20,some 21,some 22,some 23,some 24,some 25,some 6] (F:=?_) (is:=[0,1,2,3,4,5,6,7,8,9,10,11,12,13,14]) hmix (by kernel_rfl) (by kernel_rfl) (by kernel_rfl) (by kernel_rfl) (fun x=>?_) (⟨v9.drew,fun _=>⟨v0.drew,o0.drew,B1.drew,hBW⟩,fun hd=>(by cases hd)⟩) ?_ (fun d x wR hWR hdR hJR=>?_)
  rotate_left 1
  focus (simp only [RegJ.lay,Act.put,Nat.reduceAdd,Nat.zero_add,Draw.lays];rfl)
  focus
   iterate 15 (refine RegJ.Steps.cons (RegJ.StepAt.mk rfl (fun d x w1 hW1 hJ1 hx1 K hK=>?_)) ?_;simp only [Draw.lays]at hK;rotate_left 1)
   exact RegJ.Steps.nil
   ·go_simp;exact hK.out _ _ (keepW _ _ _ hW1 (by decide)) RegJ.Tell.same rfl
   ·go_simp;exact hK.out _ _ (keepW _ _ _ hW1 (by decide)) RegJ.Tell.same rfl
   ·go_simp;exact hK.out _ _ (keepW _ _ _ hW1 (by decide)) RegJ.Tell.same rfl
   ·have j2:x 2=_:=(hJ1.out 2 (by kernel_rfl));rw [j2]at hK;obtain⟨v1,-⟩:=id hW1;have e0:=v1.cell (i:=0) rfl;have e1:=v1.cell (i:=1) rfl;have e2:=v1.cell (i:=2) rfl;have e3:=v1.cell (i:=3) rfl;have e4:=v1.cell (i:=4) rfl;have e5:=v1.cell (i:=5) rfl;go_simp;exact hK.out _ _ (keepW _ _ _ hW1 (by decide)) RegJ.Tell.same rfl
   ·obtain⟨v1,-⟩:=id hW1;have e0:=v1.cell (i:=0) rfl;have e1:=v1.cell (i:=1) rfl;have e2:=v1.cell (i:=2) rfl;have e3:=v1.cell (i:=3) rfl;have e4:=v1.cell (i:=4) rfl;have e5:=v1.cell (i:=5) rfl;go_simp;exact hK.out _ _ (keepW _ _ _ hW1 (by decide)) RegJ.Tell.same rfl
   ·obtain⟨v1,p1,q1⟩:=id hW1;have j4:x 4=_:=(hJ1.out 4 (by kernel_rfl));rw [j4]at hK;go_simp;refine(HLM.out _).mono ?_;rintro e wa ⟨rfl,ba⟩;go_simp;exact hK.out _ _ ⟨v1.later ba,fun hd=>(by obtain⟨x1,x2,x3,x4⟩:=p1 (hx1.out 13 (.inr (by kernel_rfl))).1;exact⟨x1.later ba,x2.later ba,x3.trans (ba.mono x3.size),Nat.le_trans x4 ba.size⟩),fun hd=>absurd hd (by simp [(hx1.out 13 (.inr (by kernel_rfl))).1])⟩ (RegJ.Tell.pure (by kernel_rfl)) rfl
   ·obtain⟨v1,p1,q1⟩:=id hW1;have j5:x 5=_:=(hJ1.out 5 (by kernel_rfl));rw [j5]at hK;go_simp;refine(Tak.l1Min _ _ _).mono ?_;rintro e wa ⟨rfl,rfl⟩;go_simp;exact hK.out _ _ (keepW _ _ _ hW1 (by decide)) RegJ.Tell.same rfl
   ·go_simp;exact hK.out _ _ (keepW _ _ _ hW1 (by decide)) RegJ.Tell.same rfl
   ·have j7:x 7=_:=(hJ1.out 7 (by kernel_rfl));rw [j7]at hK;go_simp;exact hK.out _ _ (keepW _ _ _ hW1 (by decide)) RegJ.Tell.same rfl
   ·have j8:x 8=_:=(hJ1.out 8 (by kernel_rfl));rw [j8]at hK;go_simp;exact hK.out _ _ (keepW _ _ _ hW1 (by decide)) RegJ.Tell.same trivial
   ·have j8:x 8=_:=(hJ1.out 8 (by kernel_rfl));rw [j8]at hK;go_simp;exact hK.out _ _ (keepW _ _ _ hW1 (by decide)) RegJ.Tell.same trivial
   ·have j8:x 8=_:=(hJ1.out 8 (by kernel_rfl));rw [j8]at hK;go_simp;exact hK.out _ _ (keepW _ _ _ hW1 (by decide)) RegJ.Tell.same rfl
   ·have j1:x 1=_:=(hJ1.out 1 (by kernel_rfl));rw [j1]at hK;have j3:x 3=_:=(hJ1.out 3 (by kernel_rfl));rw [j3]at hK;have j6:x 6=_:=(hJ1.out 6 (by kernel_rfl));rw [j6]at hK;have j11:x 11=_:=(hJ1.out 11 (by kernel_rfl));rw [j11]at hK;go_simp;exact hK.out _ _ (keepW _ _ _ hW1 (by decide)) RegJ.Tell.same rfl
   ·obtain⟨v1,p1,q1⟩:=id hW1;have j0:x 0=_:=(hJ1.out 0 (by kernel_rfl));rw [j0]at hK;have j12:x 12=_:=(hJ1.out 12 (by kernel_rfl));rw [j12]at hK;obtain⟨x1,x2,x3,x4⟩:=p1 (hx1.out 13 (.inl rfl)).1;have hkr:=own_win (by decide) x2 v1.win;go_simp;refine(HPO.out _ x1 x2 x4).mono ?_;rintro e wa ⟨aW',cW',rfl,va,oa,ka,la⟩;go_simp;exact hK.out _ _ ⟨v1.same (ka.block _ v1.lt (hk9 _ x1 v1) (fun e=>by cases aW with|none=>simp [blk]at e|some y=>(simp [blk]at e;exact hkr y rfl e.symm))),fun hd=>absurd hd (by simp),fun _=>⟨aW',cW',va,oa,(Keep.ofBelow x3).trans ka (fun i hi=>.inr hi),la.le (by have:=x3.size;omega)⟩⟩ (RegJ.Tell.pure (by kernel_rfl)) rfl
   ·have j13:x 13=_:=(hJ1.out 13 (by kernel_rfl));rw [j13]at hK;go_simp;exact hK.out _ _ (keepW _ _ _ hW1 (by decide)) RegJ.Tell.same rfl
  have j14:x 14=_:=hJR 14 (by simp)
  rw [j14]
  obtain⟨-,-,q⟩:=hWR
  obtain⟨aW',cW',v2,o2,k2,l2⟩:=q (hdR 13 (by simp))
  clear hJR hdR
  go_wp2_with fail
  go_ret
  first|exact⟨rfl,aW',cW',v2,o2,k2,(by first|exact l2|(rw [←hk9e];exact l2))⟩|exact⟨aW',cW',rfl,v2,o2,k2,(by first|exact l2|(rw [←hk9e];exact l2))⟩
 focus
  have hXv:X.v=(.agg #[.bool true,.int .i64 road,.int .i64 h.t.nx,.string ⟨#[]⟩,.bool false,.int .i64 (if 1000000000<Tak.limT h.t.nx h.t.bs h.t.cp then 1000000000 else Tak.limT h.t.nx h.t.bs h.t.cp),.bool h.t.en]):=by rw [HX.out];rfl
  rw [hXv]at HP
  have HPO:Hid _:=HP
  clear HP hXv HX
  have keepW: ∀(i:Nat) (d:Nat→Bool) (w1:World),(fun d w'=>Var 44 w' k9 [.int .i64 h.t.nx,.string h.t.bs,.slice aT h.t.l.length cT,.int .i64 h.t.cp,.int .i64 h.t.fi,.bool h.t.en]∧(d 13=false→Win T pre post ow w' k (h.c aT cT aW cW)∧letE.Own 75 w' B aW cW h.ws∧Below w.heap.size w w'∧B≤w'.heap.size)∧(d 13=true→ ∃aW' cW',Win T pre post ow w' k ((postH h X).c aT cT aW' cW')∧letE.Own 75 w' B aW' cW' (postH h X).ws∧Keep k (blk aW) w w'∧Locd w.heap.size aW aW')) d w1→i≠13→(fun d w'=>Var 44 w' k9 [.int .i64 h.t.nx,.string h.t.bs,.slice aT h.t.l.length cT,.int .i64 h.t.cp,.int .i64 h.t.fi,.bool h.t.en]∧(d 13=false→Win T pre post ow w' k (h.c aT cT aW cW)∧letE.Own 75 w' B aW cW h.ws∧Below w.heap.size w w'∧B≤w'.heap.size)∧(d 13=true→ ∃aW' cW',Win T pre post ow w' k ((postH h X).c aT cT aW' cW')∧letE.Own 75 w' B aW' cW' (postH h X).ws∧Keep k (blk aW) w w'∧Locd w.heap.size aW aW')) (fun j=>j==i||d j) w1:=fun i d w1 hW hi=>⟨hW.1,fun hd=>hW.2.1 (by simpa using hd:(13:Nat)≠i∧d 13=false).2,fun hd=>hW.2.2 (by rcases(by simpa using hd:(13:Nat)=i∨d 13=true)with q|q;exact absurd q.symm hi;exact q)⟩
  refine RegJ.wp_region_J (W:=fun d w'=>Var 44 w' k9 [.int .i64 h.t.nx,.string h.t.bs,.slice aT h.t.l.length cT,.int .i64 h.t.cp,.int .i64 h.t.fi,.bool h.t.en]∧(d 13=false→Win T pre post ow w' k (h.c aT cT aW cW)∧letE.Own 75 w' B aW cW h.ws∧Below w.heap.size w w'∧B≤w'.heap.size)∧(d 13=true→ ∃aW' cW',Win T pre post ow w' k ((postH h X).c aT cT aW' cW')∧letE.Own 75 w' B aW' cW' (postH h X).ws∧Keep k (blk aW) w w'∧Locd w.heap.size aW aW')) (RegJ.Tell (0) [.eq (.pointer (some ⟨k,ow,none⟩)),.eq (.int .i64 road),.eq (.pointer (some ⟨k9,0,none⟩)),.eq (.int .i64 h.t.nx),.eq (.agg #[.int .i64 h.t.nx,.string h.t.bs,.slice aT h.t.l.length cT,.int .i64 h.t.cp,.int .i64 h.t.fi,.bool h.t.en]),.eq (.int .i64 (Tak.limT h.t.nx h.t.bs h.t.cp)),.eq (.int .i64 (if 1000000000<Tak.limT h.t.nx h.t.bs h.t.cp then 1000000000 else Tak.limT h.t.nx h.t.bs h.t.cp)),.eq (.bool true),.eq (.bool true),.eq (.pointer (some ⟨k9,5,none⟩)),.eq (.bool h.t.en),.eq (.bool h.t.en),.eq (.agg #[.bool true,.int .i64 road,.int .i64 h.t.nx,.string ⟨#[]⟩,.bool false,.int .i64 (if 1000000000<Tak.limT h.t.nx h.t.bs h.t.cp then 1000000000 else Tak.limT h.t.nx h.t.bs h.t.cp),.bool h.t.en]),.eq (.bool (postB h X)),.eq (.bool (postB h X))]) [some 12,some 13,some 14,some 15,some 16,some 17,some 18,some 19,some 20,some 21,some 22,some 23,some 24,some 25,some 6] (F:=?_) (is:=[0,1,2,3,4,5,6,7,8,9,10,11,12,13,14]) hmix (by kernel_rfl) (by kernel_rfl) (by kernel_rfl) (by kernel_rfl) (fun x=>?_) (⟨v9.drew,fun _=>⟨v0.drew,o0.drew,B1.drew,hBW⟩,fun hd=>(by cases hd)⟩) ?_ (fun d x wR hWR hdR hJR=>?_)
  rotate_left 1
  focus (simp only [RegJ.lay,Act.put,Nat.reduceAdd,Nat.zero_add,Draw.lays];rfl)
  focus
   iterate 15 (refine RegJ.Steps.cons (RegJ.StepAt.mk rfl (fun d x w1 hW1 hJ1 hx1 K hK=>?_)) ?_;simp only [Draw.lays]at hK;rotate_left 1)
   exact RegJ.Steps.nil
   ·go_simp;exact hK.out _ _ (keepW _ _ _ hW1 (by decide)) RegJ.Tell.same rfl
   ·go_simp;exact hK.out _ _ (keepW _ _ _ hW1 (by decide)) RegJ.Tell.same rfl
   ·go_simp;exact hK.out _ _ (keepW _ _ _ hW1 (by decide)) RegJ.Tell.same rfl
   ·have j2:x 2=_:=(hJ1.out 2 (by kernel_rfl));rw [j2]at hK;obtain⟨v1,-⟩:=id hW1;have e0:=v1.cell (i:=0) rfl;have e1:=v1.cell (i:=1) rfl;have e2:=v1.cell (i:=2) rfl;have e3:=v1.cell (i:=3) rfl;have e4:=v1.cell (i:=4) rfl;have e5:=v1.cell (i:=5) rfl;go_simp;exact hK.out _ _ (keepW _ _ _ hW1 (by decide)) RegJ.Tell.same rfl
   ·obtain⟨v1,-⟩:=id hW1;have e0:=v1.cell (i:=0) rfl;have e1:=v1.cell (i:=1) rfl;have e2:=v1.cell (i:=2) rfl;have e3:=v1.cell (i:=3) rfl;have e4:=v1.cell (i:=4) rfl;have e5:=v1.cell (i:=5) rfl;go_simp;exact hK.out _ _ (keepW _ _ _ hW1 (by decide)) RegJ.Tell.same rfl
   ·obtain⟨v1,p1,q1⟩:=id hW1;have j4:x 4=_:=(hJ1.out 4 (by kernel_rfl));rw [j4]at hK;go_simp;refine(HLM.out _).mono ?_;rintro e wa ⟨rfl,ba⟩;go_simp;exact hK.out _ _ ⟨v1.later ba,fun hd=>(by obtain⟨x1,x2,x3,x4⟩:=p1 (hx1.out 13 (.inr (by kernel_rfl))).1;exact⟨x1.later ba,x2.later ba,x3.trans (ba.mono x3.size),Nat.le_trans x4 ba.size⟩),fun hd=>absurd hd (by simp [(hx1.out 13 (.inr (by kernel_rfl))).1])⟩ (RegJ.Tell.pure (by kernel_rfl)) rfl
   ·obtain⟨v1,p1,q1⟩:=id hW1;have j5:x 5=_:=(hJ1.out 5 (by kernel_rfl));rw [j5]at hK;go_simp;refine(Tak.l1Min _ _ _).mono ?_;rintro e wa ⟨rfl,rfl⟩;go_simp;exact hK.out _ _ (keepW _ _ _ hW1 (by decide)) RegJ.Tell.same rfl
   ·go_simp;exact hK.out _ _ (keepW _ _ _ hW1 (by decide)) RegJ.Tell.same rfl
   ·have j7:x 7=_:=(hJ1.out 7 (by kernel_rfl));rw [j7]at hK;go_simp;exact hK.out _ _ (keepW _ _ _ hW1 (by decide)) RegJ.Tell.same rfl
   ·have j8:x 8=_:=(hJ1.out 8 (by kernel_rfl));rw [j8]at hK;go_simp;exact hK.out _ _ (keepW _ _ _ hW1 (by decide)) RegJ.Tell.same rfl
   ·have j8:x 8=_:=(hJ1.out 8 (by kernel_rfl));rw [j8]at hK;have j9:x 9=_:=(hJ1.out 9 (by kernel_rfl));rw [j9]at hK;obtain⟨v1,-⟩:=id hW1;have e0:=v1.cell (i:=0) rfl;have e1:=v1.cell (i:=1) rfl;have e2:=v1.cell (i:=2) rfl;have e3:=v1.cell (i:=3) rfl;have e4:=v1.cell (i:=4) rfl;have e5:=v1.cell (i:=5) rfl;go_simp;exact hK.out _ _ (keepW _ _ _ hW1 (by decide)) RegJ.Tell.same rfl
   ·have j8:x 8=_:=(hJ1.out 8 (by kernel_rfl));rw [j8]at hK;have j10:x 10=_:=(hJ1.out 10 (by kernel_rfl));rw [j10]at hK;go_simp;exact hK.out _ _ (keepW _ _ _ hW1 (by decide)) RegJ.Tell.same rfl
   ·have j1:x 1=_:=(hJ1.out 1 (by kernel_rfl));rw [j1]at hK;have j3:x 3=_:=(hJ1.out 3 (by kernel_rfl));rw [j3]at hK;have j6:x 6=_:=(hJ1.out 6 (by kernel_rfl));rw [j6]at hK;have j11:x 11=_:=(hJ1.out 11 (by kernel_rfl));rw [j11]at hK;go_simp;exact hK.out _ _ (keepW _ _ _ hW1 (by decide)) RegJ.Tell.same rfl
   ·obtain⟨v1,p1,q1⟩:=id hW1;have j0:x 0=_:=(hJ1.out 0 (by kernel_rfl));rw [j0]at hK;have j12:x 12=_:=(hJ1.out 12 (by kernel_rfl));rw [j12]at hK;obtain⟨x1,x2,x3,x4⟩:=p1 (hx1.out 13 (.inl rfl)).1;have hkr:=own_win (by decide) x2 v1.win;go_simp;refine(HPO.out _ x1 x2 x4).mono ?_;rintro e wa ⟨aW',cW',rfl,va,oa,ka,la⟩;go_simp;exact hK.out _ _ ⟨v1.same (ka.block _ v1.lt (hk9 _ x1 v1) (fun e=>by cases aW with|none=>simp [blk]at e|some y=>(simp [blk]at e;exact hkr y rfl e.symm))),fun hd=>absurd hd (by simp),fun _=>⟨aW',cW',va,oa,(Keep.ofBelow x3).trans ka (fun i hi=>.inr hi),la.le (by have:=x3.size;omega)⟩⟩ (RegJ.Tell.pure (by kernel_rfl)) rfl
   ·have j13:x 13=_:=(hJ1.out 13 (by kernel_rfl));rw [j13]at hK;go_simp;exact hK.out _ _ (keepW _ _ _ hW1 (by decide)) RegJ.Tell.same rfl
  have j14:x 14=_:=hJR 14 (by simp)
  rw [j14]
  obtain⟨-,-,q⟩:=hWR
  obtain⟨aW',cW',v2,o2,k2,l2⟩:=q (hdR 13 (by simp))
  clear hJR hdR
  go_wp2_with fail
  go_ret
  first|exact⟨rfl,aW',cW',v2,o2,k2,(by first|exact l2|(rw [←hk9e];exact l2))⟩|exact⟨aW',cW',rfl,v2,o2,k2,(by first|exact l2|(rw [←hk9e];exact l2))⟩
theorem l7Send {T:TypeId}{pre post:List Value}{ow:Nat}(hT:T≠75)(k B:Nat)(h:Hp)(aT:Option Addr)(cT:Nat)(aW:Option Addr)(cW:Nat)(road p n:Int)(w:World)
  (hv:Win T pre post ow w k (h.c aT cT aW cW)) (ho:letE.Own 75 w B aW cW h.ws) (hB:B≤w.heap.size) (hl:h.ws.length≤524288) (hg:h.g.ok=true):
  Calls Tryz.prog 86 #[.pointer (some ⟨k,ow,none⟩),.int .i64 road,.int .i64 p,.int .i64 n] w fun e w'=> ∃aW' cW',e=.returned (.bool (sendH h road p n).2)∧Win T pre post ow w' k ((sendH h road p n).1.c aT cT aW' cW')∧letE.Own 75 w' B aW' cW' (sendH h road p n).1.ws∧Keep k (blk aW) w w':=
 (l7SendL hT k B h aT cT aW cW road p n w hv ho hB hl hg).mono fun e w' ⟨a,c,h1,h2,h3,h4,_⟩=>⟨a,c,h1,h2,h3,h4⟩
theorem l7Tell {T:TypeId}{pre post:List Value}{ow:Nat}(hT:T≠75)(hT2:T≠44)(k B:Nat)(h:Hp)(aT:Option Addr)(cT:Nat)(aW:Option Addr)(cW:Nat)(road:Int)(done:Bool)(w:World)
  (hv:Win T pre post ow w k (h.c aT cT aW cW)) (ho:letE.Own 75 w B aW cW h.ws) (hB:B≤w.heap.size) (hl:h.ws.length≤524288) (hn:0≤h.t.nx∧h.t.nx≤1152921504606846976) (hb:h.t.bs.size≤1152921504606846976) (hc:0≤h.t.cp∧h.t.cp≤1152921504606846976):
  Calls Tryz.prog 87 #[.pointer (some ⟨k,ow,none⟩),.int .i64 road,.bool done] w fun e w'=> ∃aW' cW',e=.returned (.bool (tellH h road done).2)∧Win T pre post ow w' k ((tellH h road done).1.c aT cT aW' cW')∧letE.Own 75 w' B aW' cW' (tellH h road done).1.ws∧Keep k (blk aW) w w':=
 (l7TellL hT hT2 k B h aT cT aW cW road done w hv ho hB hl hn hb hc).mono fun e w' ⟨a,c,h1,h2,h3,h4,_⟩=>⟨a,c,h1,h2,h3,h4⟩
end Go.Proofs.YtfejobjgbadfjaaGreat.Hop
