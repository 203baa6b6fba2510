/- Contracts of this seat's functions, and their mathematics (TakG). -/
import Derived.Test.YtfejobjgbadfjaaGreatK5
import Derived.Deep.Cut
import Derived.BigRegion
set_option linter.unusedVariables false
set_option linter.unusedSimpArgs false
set_option maxRecDepth 10000
set_option maxHeartbeats 4000000
namespace Go.Proofs.YtfejobjgbadfjaaGreat.Tak
open Go.RowKit RowG
def lastEnd (nx:Int)(l:List Pt):Int:=match l.getLast? with
 | none=>nx
 | some p=>endP p
def takeBad (t:Tk)(p:Int)(bz:ByteArray)(e:Bool):Prop:=
 Num.plB p=false∨Num.plB (p+bz.size)=false∨40<bz.size∨(0≤t.fi∧t.fi<p+bz.size)∨(e=true∧(p+bz.size<lastEnd t.nx t.l∨(0≤t.fi∧t.fi≠p+bz.size)))
instance (t:Tk) (p:Int) (bz:ByteArray) (e:Bool):Decidable (takeBad t p bz e):=by unfold takeBad;exact inferInstance
def freshB (nx lim stop:Int)(l:List Pt)(k:Int):Bool:=decide (k<stop)&&(decide (nx≤k)&&(decide (k<lim)&& !thereB l k))
def stepK (nx lim p:Int)(bz:ByteArray)(st:List Pt×Int×Bool)(k:Int):List Pt×Int×Bool:=
 if freshB nx lim (p+bz.size) st.1 k=true then(if st.2.1<0 then(st.1,k,st.2.2)else st)
 else(if 0≤st.2.1 then(putP st.1 (st.2.1,bz.extract (st.2.1-p).toNat (k-p).toNat),-1,true)else st)
def foldK (nx lim p:Int)(bz:ByteArray)(l:List Pt)(n:Nat):List Pt×Int×Bool:=(List.range n).foldl (fun st (i:Nat)=>stepK nx lim p bz st (p+i)) (l,-1,false)
theorem foldK_succ (nx lim p:Int)(bz:ByteArray)(l:List Pt)(n:Nat):foldK nx lim p bz l (n+1)=stepK nx lim p bz (foldK nx lim p bz l n) (p+n):=by
 unfold foldK
 rw [List.range_succ,List.foldl_append]
 rfl
theorem tot_append (l r:List Pt):tot (l++r)=tot l+tot r:=by
 induction l with
 | nil=>simp [tot]
 | cons x l ih=>simp [tot,ih];omega
theorem tot_putP (l:List Pt)(q:Pt):tot (putP l q)=tot l+q.2.size:=by
 unfold putP
 have h:=tot_append (l.take (cnt (ahead q) l)) (l.drop (cnt (ahead q) l))
 rw [List.take_append_drop]at h
 rw [tot_append,tot_append,h]
 simp [tot]
 omega
theorem Bd_putP {l:List Pt}{q:Pt}(h:Bd l)(hq: -1152921504606846976≤q.1∧q.1≤4611686018427387904∧q.2.size≤2097152):Bd (putP l q):=by
 intro x hx
 unfold putP at hx
 simp at hx
 rcases hx with hx|hx|hx
 ·exact h x (List.mem_of_mem_take hx)
 ·subst hx;exact hq
 ·exact h x (List.mem_of_mem_drop hx)
theorem ext_le (b:ByteArray)(i j:Nat):(b.extract i j).size≤b.size:=by
 rw [ByteArray.size_extract]
 omega
def takeT (t:Tk)(p:Int)(bz:ByteArray)(e:Bool):Tk×Bool:=
 if takeBad t p bz e then(t,false)else
  let st:=foldK t.nx (limT t.nx t.bs t.cp) p bz t.l (bz.size+1)
  let j:=joinT t.nx t.bs st.1
  let fi:=if e=true∧t.fi<0 then p+bz.size else t.fi
  (⟨j.1,j.2.1,j.2.2,t.cp,fi,decide (fi=j.1)⟩,st.2.2||(e&&decide (t.fi<0)))
theorem l5TakeW {T:TypeId}{pre post:List Value}{ow:Nat}(k B:Nat)(nx:Int)(bs:ByteArray)(a:Option Addr)(c:Nat)(cp fi:Int)(en:Bool)(l:List Pt)(p:Int)(bz:ByteArray)(e:Bool)(w:World)
  (hv:Win T pre post ow w k [.int .i64 nx,.string bs,.slice a l.length c,.int .i64 cp,.int .i64 fi,.bool en]) (ho:partE.Own 123 w B a c l) (hB:B≤w.heap.size) (hka: ∀x,a=some x→x.block≠k) (hl:l.length≤524288) (hp:Bd l) (ht:bs.size+tot l≤1099511627) (hn:0≤nx∧nx≤1099511627776) (hc:0≤cp∧cp≤1099511627776) (hp0: -1099511627776≤p∧p≤1099511627776) (hz:bz.size≤1048576):
  Calls Tryz.prog 106 #[.pointer (some ⟨k,ow,none⟩),.int .i64 p,.string bz,.bool e] w fun x w'=> ∃a' c',x=.returned (.bool (takeT ⟨nx,bs,l,cp,fi,en⟩ p bz e).2)∧Win T pre post ow w' k [.int .i64 (takeT ⟨nx,bs,l,cp,fi,en⟩ p bz e).1.nx,.string (takeT ⟨nx,bs,l,cp,fi,en⟩ p bz e).1.bs,.slice a' (takeT ⟨nx,bs,l,cp,fi,en⟩ p bz e).1.l.length c',.int .i64 (takeT ⟨nx,bs,l,cp,fi,en⟩ p bz e).1.cp,.int .i64 (takeT ⟨nx,bs,l,cp,fi,en⟩ p bz e).1.fi,.bool (takeT ⟨nx,bs,l,cp,fi,en⟩ p bz e).1.en]∧partE.Own 123 w' B a' c' (takeT ⟨nx,bs,l,cp,fi,en⟩ p bz e).1.l∧Draw.Kept k w w'∧ ∀x,a'=some x→x.block≠k:=by
 have hmix:=mix
 obtain⟨hp1,hp2⟩:=hp0
 obtain⟨hn1,hn2⟩:=hn
 obtain⟨hc1,hc2⟩:=hc
 have HK0:Hid (∀x,a=some x→x.block≠k):=hka
 clear hka
 have c4:=hv.cell (i:=4) rfl
 have BAD:Hid (takeBad ⟨nx,bs,l,cp,fi,en⟩ p bz e→takeT ⟨nx,bs,l,cp,fi,en⟩ p bz e=(⟨nx,bs,l,cp,fi,en⟩,false)):=fun q=>by simp only [takeT];rw [if_pos q]
 go_enter Tryz.func106,Tryz.ntmps106
 go_upto_region 2 with(fail)
 go_cut [47]from 16 (fun v wr=>wr=w∧v=.bool (decide (Num.plB p=false∨Num.plB (p+bz.size)=false∨40<bz.size∨(0≤fi∧fi<p+bz.size))))
 case first=>
  go_wp2_with fail
  refine(Num.l1Place p _).mono ?_
  rintro x wx ⟨rfl,rfl⟩
  cases h1:Num.plB p
  case false=>
   have HB1:Hid (Num.plB p=false∨Num.plB (p+bz.size)=false∨40<bz.size∨(0≤fi∧fi<p+bz.size)):=.inl h1
   clear h1
   go_wp2_with fail
   go_meet
   exact⟨rfl,by rw [decide_eq_true HB1.out]⟩
  go_wp2_with fail
  refine(Num.l1Place (p+bz.size) _).mono ?_
  rintro x wx ⟨rfl,rfl⟩
  cases h2:Num.plB (p+bz.size)
  case false=>
   have HB1:Hid (Num.plB p=false∨Num.plB (p+bz.size)=false∨40<bz.size∨(0≤fi∧fi<p+bz.size)):=.inr (.inl h2)
   clear h1 h2
   go_wp2_with fail
   go_meet
   exact⟨rfl,by rw [decide_eq_true HB1.out]⟩
  by_cases h3:40<bz.size
  case pos=>
   have HB1:Hid (Num.plB p=false∨Num.plB (p+bz.size)=false∨40<bz.size∨(0≤fi∧fi<p+bz.size)):=.inr (.inr (.inl h3))
   have h3':(40:Int)<(bz.size:Int):=by omega
   clear h1 h2
   go_wp2_with fail
   go_meet
   exact⟨rfl,by rw [decide_eq_true HB1.out]⟩
  have h3': ¬(40:Int)<(bz.size:Int):=by omega
  by_cases h4:0≤fi
  ·by_cases h5:fi<p+bz.size
   ·have HB1:Hid (Num.plB p=false∨Num.plB (p+bz.size)=false∨40<bz.size∨(0≤fi∧fi<p+bz.size)):=.inr (.inr (.inr ⟨h4,h5⟩))
    clear h1 h2
    go_wp2_with fail
    go_meet
    exact⟨rfl,by rw [decide_eq_true HB1.out]⟩
   ·have HB1:Hid (¬(Num.plB p=false∨Num.plB (p+bz.size)=false∨40<bz.size∨(0≤fi∧fi<p+bz.size))):=fun q=>by
     rcases q with q|q|q|q
     ·rw [h1]at q;cases q
     ·rw [h2]at q;cases q
     ·exact h3 q
     ·exact h5 q.2
    clear h1 h2
    go_wp2_with fail
    go_meet
    refine⟨rfl,?_⟩
    rw [decide_eq_false HB1.out]
    first|done|(simp;omega)
  ·have HB1:Hid (¬(Num.plB p=false∨Num.plB (p+bz.size)=false∨40<bz.size∨(0≤fi∧fi<p+bz.size))):=fun q=>by
    rcases q with q|q|q|q
    ·rw [h1]at q;cases q
    ·rw [h2]at q;cases q
    ·exact h3 q
    ·exact h4 q.1
   have h4b:decide (0≤fi)=false:=decide_eq_false h4
   clear h1 h2
   go_wp2_with fail
   go_meet
   refine⟨rfl,?_⟩
   rw [decide_eq_false HB1.out]
   first|done|(simp;omega)
 case rest=>
  obtain⟨hwc,rfl⟩:=hcut
  rw [hwc]
  clear hwc
  by_cases hb1:(Num.plB p=false∨Num.plB (p+bz.size)=false∨40<bz.size∨(0≤fi∧fi<p+bz.size))
  ·have HG:Hid _:=BAD.out (by rcases hb1 with q|q|q|q;exact .inl q;exact .inr (.inl q);exact .inr (.inr (.inl q));exact .inr (.inr (.inr (.inl q))))
   rw [decide_eq_true hb1]
   clear BAD hb1
   go_wp2_with fail
   go_ret
   exact⟨a,c,by rw [HG.out];rfl,by rw [HG.out];exact hv,by rw [HG.out];exact ho,Draw.Kept.refl _ _,HK0.out⟩
  rw [decide_eq_false hb1]
  have HB1:Hid (¬(Num.plB p=false∨Num.plB (p+bz.size)=false∨40<bz.size∨(0≤fi∧fi<p+bz.size))):=hb1
  have hz40:bz.size≤40:=Nat.le_of_not_lt fun q=>hb1 (.inr (.inr (.inl q)))
  clear hb1
  have hle:l=[]∨ ∃x,l[l.length-1]? =some x:=by
   by_cases q:l=[]
   ·exact .inl q
   ·exact .inr ⟨l[l.length-1]'(by have:=List.length_pos_iff.2 q;omega),List.getElem?_eq_getElem _⟩
  go_upto_if 48 with(fail)
  go_cut []from 10 (fun wr=>Win T pre post ow wr k [.int .i64 nx,.string bs,.slice a l.length c,.int .i64 cp,.int .i64 fi,.bool en]∧partE.Own 123 wr B a c l∧Draw.Kept k w wr∧Hid (¬(e=true∧(p+bz.size<lastEnd nx l∨(0≤fi∧fi≠p+bz.size)))))
  case first=>
   cases e
   ·have HG2:Hid (¬(false=true∧(p+bz.size<lastEnd nx l∨(0≤fi∧fi≠p+bz.size)))):=fun q=>absurd q.1 (by decide)
    clear BAD
    go_wp2_with fail
    go_meet
    exact⟨hv,ho,Draw.Kept.refl _ _,HG2⟩
   ·rcases hle with hle|hle
    ·have c0:=hv.cell0 rfl
     have c2:w.cell? ⟨k,ow+2,none⟩=some (.slice a 0 c):=by have:=hv.cell (i:=2) rfl;rw [hle]at this;exact this
     have HLE:Hid (lastEnd nx l=nx):=by show _=_;rw [hle];rfl
     clear hle
     have vz:=hv
     have oz:=ho
     have Kz:=Draw.Kept.refl k w
     by_cases h5:p+bz.size<nx
     ·have HG:Hid _:=BAD.out (.inr (.inr (.inr (.inr ⟨rfl,(.inl (by rw [HLE.out];exact h5))⟩))))
      clear BAD
      go_wp2_with fail
      go_ret
      first|exact⟨by rw [HG.out];rfl,a,c,by rw [HG.out];exact vz,by rw [HG.out];exact oz,Kz,HK0.out⟩|exact⟨a,c,by rw [HG.out];rfl,by rw [HG.out];exact vz,by rw [HG.out];exact oz,Kz,HK0.out⟩
     ·by_cases h6:0≤fi
      ·by_cases h7:fi=p+bz.size
       ·have HG2:Hid (¬(true=true∧(p+bz.size<lastEnd nx l∨(0≤fi∧fi≠p+bz.size)))):=fun q=>by
         rcases q.2 with q|q
         ·rw [HLE.out]at q;exact h5 q
         ·exact q.2 h7
        have h7b:(fi !=p+bz.size)=false:=by simp [h7]
        have H7:Hid _:=h7
        clear h7 BAD
        go_wp2_with fail
        go_meet
        exact⟨vz,oz,Kz,HG2⟩
       ·have h7b:(fi==p+bz.size)=false:=by simp [h7]
        have h7c:(fi !=p+bz.size)=true:=by simp [h7]
        have HG:Hid _:=BAD.out (.inr (.inr (.inr (.inr ⟨rfl,(.inr ⟨h6,h7⟩)⟩))))
        clear BAD
        go_wp2_with fail
        go_ret
        first|exact⟨by rw [HG.out];rfl,a,c,by rw [HG.out];exact vz,by rw [HG.out];exact oz,Kz,HK0.out⟩|exact⟨a,c,by rw [HG.out];rfl,by rw [HG.out];exact vz,by rw [HG.out];exact oz,Kz,HK0.out⟩
      ·have HG2:Hid (¬(true=true∧(p+bz.size<lastEnd nx l∨(0≤fi∧fi≠p+bz.size)))):=fun q=>by
        rcases q.2 with q|q
        ·rw [HLE.out]at q;exact h5 q
        ·exact h6 q.1
       have h6b:decide (0≤fi)=false:=decide_eq_false h6
       clear BAD
       go_wp2_with fail
       go_meet
       exact⟨vz,oz,Kz,HG2⟩
    ·obtain⟨⟨la,lb⟩,hla⟩:=hle
     have hll:l.length-1<l.length:=(List.getElem?_eq_some_iff.1 hla).1
     obtain⟨q0,qa,qb⟩:=hp _ (List.mem_of_getElem? hla)
     replace q0: -1152921504606846976≤la:=q0
     replace qa:la≤4611686018427387904:=qa
     replace qb:lb.size≤2097152:=qb
     have HLE:Hid (lastEnd nx l=endP (la,lb)):=by
      show _=_
      have:l.getLast? =some (la,lb):=by rw [List.getLast?_eq_getElem?];exact hla
      rw [lastEnd,this]
     have c0:=hv.cell0 rfl
     have c2:=hv.cell (i:=2) rfl
     have hZ: ∀q:World,Calls Tryz.prog 81 #[.agg #[.int .i64 la,.string lb]] q fun x w'=>x=.returned (.int .i64 (endP (la,lb)))∧Below q.heap.size q w':=fun q=>l5End la lb q qa (by omega) (by omega)
     generalize endP (la,lb)=Z at *
     obtain⟨m,hm⟩: ∃m,l.length=m+1:=⟨l.length-1,by omega⟩
     rcases ho.lies with hL|⟨b,off,ha,hL⟩
     ·simp [hL]at hll
     have e0:w.cell? ⟨b,off+m*2,none⟩=some (.int .i64 la):=El.Lies.cell hL (i:=m) (by rw [←hla];congr 1;omega) (j:=0) rfl
     have e1:w.cell? ⟨b,off+m*2+1,none⟩=some (.string lb):=El.Lies.cell hL (i:=m) (by rw [←hla];congr 1;omega) (j:=1) rfl
     have HM:Hid (l.length=m+1):=hm
     have HA:Hid (a=some ⟨b,off,none⟩):=ha
     rw [hm,ha]at c2
     have i0:(0:Int)<(m:Int)+1:=by omega
     have i1:(0:Int)≤(m:Int):=by omega
     have i2:(m:Int)<(m:Int)+1:=by omega
     have i3:(m:Int)≤524288:=by omega
     clear hL hla hll ha hm
     go_wp2_with fail
     refine(hZ _).mono ?_
     rintro x wz ⟨rfl,bz1⟩
     have vz:=hv.later bz1
     have oz:=ho.later bz1
     have Kz:Draw.Kept k w wz:=Draw.Kept.ofBelow bz1 (Nat.le_refl _)
     have c4:=vz.cell (i:=4) rfl
     clear hZ bz1 e0 e1 c0 c2 hv ho
     by_cases h5:p+bz.size<Z
     ·have HG:Hid _:=BAD.out (.inr (.inr (.inr (.inr ⟨rfl,(.inl (by rw [HLE.out];exact h5))⟩))))
      clear BAD
      go_wp2_with fail
      go_ret
      first|exact⟨by rw [HG.out];rfl,a,c,by rw [HG.out];exact vz,by rw [HG.out];exact oz,Kz,HK0.out⟩|exact⟨a,c,by rw [HG.out];rfl,by rw [HG.out];exact vz,by rw [HG.out];exact oz,Kz,HK0.out⟩
     ·by_cases h6:0≤fi
      ·by_cases h7:fi=p+bz.size
       ·have HG2:Hid (¬(true=true∧(p+bz.size<lastEnd nx l∨(0≤fi∧fi≠p+bz.size)))):=fun q=>by
         rcases q.2 with q|q
         ·rw [HLE.out]at q;exact h5 q
         ·exact q.2 h7
        have h7b:(fi !=p+bz.size)=false:=by simp [h7]
        have H7:Hid _:=h7
        clear h7 BAD
        go_wp2_with fail
        go_meet
        exact⟨vz,oz,Kz,HG2⟩
       ·have h7b:(fi==p+bz.size)=false:=by simp [h7]
        have h7c:(fi !=p+bz.size)=true:=by simp [h7]
        have HG:Hid _:=BAD.out (.inr (.inr (.inr (.inr ⟨rfl,(.inr ⟨h6,h7⟩)⟩))))
        clear BAD
        go_wp2_with fail
        go_ret
        first|exact⟨by rw [HG.out];rfl,a,c,by rw [HG.out];exact vz,by rw [HG.out];exact oz,Kz,HK0.out⟩|exact⟨a,c,by rw [HG.out];rfl,by rw [HG.out];exact vz,by rw [HG.out];exact oz,Kz,HK0.out⟩
      ·have HG2:Hid (¬(true=true∧(p+bz.size<lastEnd nx l∨(0≤fi∧fi≠p+bz.size)))):=fun q=>by
        rcases q.2 with q|q
        ·rw [HLE.out]at q;exact h5 q
        ·exact h6 q.1
       have h6b:decide (0≤fi)=false:=decide_eq_false h6
       clear BAD
       go_wp2_with fail
       go_meet
       exact⟨vz,oz,Kz,HG2⟩
  case rest=>
   obtain⟨vz,oz,Kz,HG2⟩:=hcut
   have HGD:Hid (¬takeBad ⟨nx,bs,l,cp,fi,en⟩ p bz e):=fun q=>by
    rcases q with q|q|q|q|q
    ·exact HB1.out (.inl q)
    ·exact HB1.out (.inr (.inl q))
    ·exact HB1.out (.inr (.inr (.inl q)))
    ·exact HB1.out (.inr (.inr (.inr q)))
    ·exact HG2.out q
   clear BAD HB1 HG2 hle hv ho c4
   go_wp2_with fail
   have HLim:Hid (∃lim,limT nx bs cp=lim):=⟨_,rfl⟩
   obtain⟨lim,hlim⟩:=HLim.out
   have HLM:Hid (limT nx bs cp=lim):=hlim
   clear HLim hlim
   go_loopw [12,13,14] (fun ch fv kv wr=> ∃(i:Nat) (L:List Pt) (aa:Option Addr) (cc:Nat) (fr:Int) (b:Bool),i≤bz.size+1∧kv=.int .i64 (p+i)∧fv=.int .i64 fr∧ch=.bool b∧Hid (foldK nx lim p bz l i=(L,fr,b))∧Hid (fr= -1∨(p≤fr∧fr<p+i))∧L.length≤l.length+i∧Hid (Bd L)∧tot L≤tot l+i*bz.size∧Win T pre post ow wr k [.int .i64 nx,.string bs,.slice aa L.length cc,.int .i64 cp,.int .i64 fi,.bool en]∧partE.Own 123 wr B aa cc L∧Draw.Kept k w wr∧Hid (∀x,aa=some x→x.block≠k)) (fun _ _ kv _=>(p+bz.size+1-intOf kv).toNat)
   case atStart=>exact⟨0,l,a,c,-1,false,Nat.zero_le _,by go_num,rfl,rfl,rfl,.inl rfl,Nat.le_refl _,hp,by omega,vz,oz,Kz,HK0⟩
   case round=>
    clear vz oz Kz
    obtain⟨i,L,aa,cc,fr,b,hi,rfl,rfl,rfl,HFO,HFR,hLl,HBD,htL,vN,oN,KN,HKA⟩:=hrel
    have hkr:k<wr.heap.size:=vN.lt
    by_cases hin:i≤bz.size
    ·have i1:p+(i:Int)≤p+(bz.size:Int):=by omega
     have HS:Hid (foldK nx lim p bz l (i+1)=stepK nx lim p bz (L,fr,b) (p+i)):=by show _=_;rw [foldK_succ,HFO.out]
     clear HFO
     have c0:=vN.cell0 rfl
     have c1:=vN.cell (i:=1) rfl
     have c2:=vN.cell (i:=2) rfl
     have c3:=vN.cell (i:=3) rfl
     have c4:=vN.cell (i:=4) rfl
     have c5:=vN.cell (i:=5) rfl
     have hLi: ∀q:World,Calls Tryz.prog 82 #[.agg #[.int .i64 nx,.string bs,.slice aa L.length cc,.int .i64 cp,.int .i64 fi,.bool en]] q fun x w'=>x=.returned (.int .i64 lim)∧Below q.heap.size q w':=fun q=>by rw [←HLM.out];exact l5Limit nx bs _ _ _ cp fi en q (by omega) (by omega) (by omega)
     by_cases f1:p+(i:Int)<p+(bz.size:Int)
     case neg=>
      have HNF:Hid (freshB nx lim (p+bz.size) L (p+i)=false):=by show _=_;rw [freshB,decide_eq_false f1];rfl
      have f1b:decide (p+(i:Int)<p+(bz.size:Int))=false:=decide_eq_false f1
      clear hLi
      by_cases hfr:0≤fr
      ·have HQ:Hid (foldK nx lim p bz l (i+1)=(putP L (fr,bz.extract (fr-p).toNat (p+(i:Int)-p).toNat),-1,true)):=by
        show _=_
        rw [HS.out,stepK,if_neg (by rw [HNF.out];exact Bool.false_ne_true),if_pos hfr]
       have hfr2:p≤fr∧fr<p+i:=by rcases HFR.out with q|q;omega;exact q
       obtain⟨hfa,hfb⟩:=hfr2
       have g1:(0:Int)≤fr-p:=by omega
       have g2:fr-p≤(i:Int):=by omega
       have g3:(i:Int)≤(bz.size:Int):=by omega
       have g4: ¬fr<0:=by omega
       have hpz:(bz.extract (fr-p).toNat (p+(i:Int)-p).toNat).size≤bz.size:=ext_le _ _ _
       clear HS
       go_wp2_with fail
       refine(l5PutW k nx bs aa cc cp fi en L fr _ _ vN oN.lies HKA.out (by omega) oN.cap oN.none_cap).mono ?_
       rintro x w5 ⟨a5,c5,rfl,v5,o5,K5⟩
       go_wp2_with fail
       go_roundw
       case rel=>exact⟨i+1,putP L (fr,bz.extract (fr-p).toNat (p+(i:Int)-p).toNat),a5,c5,-1,true,by omega,by go_num,rfl,rfl,HQ,.inl rfl,by rw [putP_len];omega,Bd_putP HBD.out ⟨by show -1152921504606846976≤fr;omega,by show fr≤4611686018427387904;omega,by show(bz.extract (fr-p).toNat (p+(i:Int)-p).toNat).size≤2097152;omega⟩,by rw [tot_putP,Nat.succ_mul];show tot L+(bz.extract (fr-p).toNat (p+(i:Int)-p).toNat).size≤_;omega,v5,o5.mono (Nat.le_trans hB KN.size),KN.trans K5,fun x q=>by have:=(o5.lt x q).1;have:=vN.lt;omega⟩
       case measure=>simp [intOf];omega
      ·have HQ:Hid (foldK nx lim p bz l (i+1)=(L,fr,b)):=by
        show _=_
        rw [HS.out,stepK,if_neg (by rw [HNF.out];exact Bool.false_ne_true),if_neg hfr]
       have g4:fr<0:=by omega
       have g5:decide (0≤fr)=false:=decide_eq_false hfr
       clear HS
       go_wp2_with fail
       go_roundw
       case rel=>exact⟨i+1,L,aa,cc,fr,b,by omega,by go_num,rfl,rfl,HQ,by rcases HFR.out with q|q;exact .inl q;exact .inr ⟨q.1,by omega⟩,by omega,HBD,by rw [Nat.succ_mul];omega,vN,oN,KN,HKA⟩
       case measure=>simp [intOf];omega
     by_cases f2:nx≤p+(i:Int)
     case neg=>
      have HNF:Hid (freshB nx lim (p+bz.size) L (p+i)=false):=by show _=_;rw [freshB,decide_eq_false f2,Bool.false_and,Bool.and_false]
      have f2b:decide (nx≤p+(i:Int))=false:=decide_eq_false f2
      clear hLi
      by_cases hfr:0≤fr
      ·have HQ:Hid (foldK nx lim p bz l (i+1)=(putP L (fr,bz.extract (fr-p).toNat (p+(i:Int)-p).toNat),-1,true)):=by
        show _=_
        rw [HS.out,stepK,if_neg (by rw [HNF.out];exact Bool.false_ne_true),if_pos hfr]
       have hfr2:p≤fr∧fr<p+i:=by rcases HFR.out with q|q;omega;exact q
       obtain⟨hfa,hfb⟩:=hfr2
       have g1:(0:Int)≤fr-p:=by omega
       have g2:fr-p≤(i:Int):=by omega
       have g3:(i:Int)≤(bz.size:Int):=by omega
       have g4: ¬fr<0:=by omega
       have hpz:(bz.extract (fr-p).toNat (p+(i:Int)-p).toNat).size≤bz.size:=ext_le _ _ _
       clear HS
       go_wp2_with fail
       refine(l5PutW k nx bs aa cc cp fi en L fr _ _ vN oN.lies HKA.out (by omega) oN.cap oN.none_cap).mono ?_
       rintro x w5 ⟨a5,c5,rfl,v5,o5,K5⟩
       go_wp2_with fail
       go_roundw
       case rel=>exact⟨i+1,putP L (fr,bz.extract (fr-p).toNat (p+(i:Int)-p).toNat),a5,c5,-1,true,by omega,by go_num,rfl,rfl,HQ,.inl rfl,by rw [putP_len];omega,Bd_putP HBD.out ⟨by show -1152921504606846976≤fr;omega,by show fr≤4611686018427387904;omega,by show(bz.extract (fr-p).toNat (p+(i:Int)-p).toNat).size≤2097152;omega⟩,by rw [tot_putP,Nat.succ_mul];show tot L+(bz.extract (fr-p).toNat (p+(i:Int)-p).toNat).size≤_;omega,v5,o5.mono (Nat.le_trans hB KN.size),KN.trans K5,fun x q=>by have:=(o5.lt x q).1;have:=vN.lt;omega⟩
       case measure=>simp [intOf];omega
      ·have HQ:Hid (foldK nx lim p bz l (i+1)=(L,fr,b)):=by
        show _=_
        rw [HS.out,stepK,if_neg (by rw [HNF.out];exact Bool.false_ne_true),if_neg hfr]
       have g4:fr<0:=by omega
       have g5:decide (0≤fr)=false:=decide_eq_false hfr
       clear HS
       go_wp2_with fail
       go_roundw
       case rel=>exact⟨i+1,L,aa,cc,fr,b,by omega,by go_num,rfl,rfl,HQ,by rcases HFR.out with q|q;exact .inl q;exact .inr ⟨q.1,by omega⟩,by omega,HBD,by rw [Nat.succ_mul];omega,vN,oN,KN,HKA⟩
       case measure=>simp [intOf];omega
     go_wp2_with fail
     refine(hLi _).mono ?_
     rintro x w4 ⟨rfl,b4⟩
     have vN:=vN.later b4
     have oN:=oN.later b4
     have KN:=KN.trans (Draw.Kept.ofBelow b4 (Nat.le_refl _))
     clear b4 hLi c0 c1 c2 c3 c4 c5
     by_cases f3:p+(i:Int)<lim
     case neg=>
      have HNF:Hid (freshB nx lim (p+bz.size) L (p+i)=false):=by show _=_;rw [freshB,decide_eq_false f3,Bool.false_and,Bool.and_false,Bool.and_false]
      have f3b:decide (p+(i:Int)<lim)=false:=decide_eq_false f3
      by_cases hfr:0≤fr
      ·have HQ:Hid (foldK nx lim p bz l (i+1)=(putP L (fr,bz.extract (fr-p).toNat (p+(i:Int)-p).toNat),-1,true)):=by
        show _=_
        rw [HS.out,stepK,if_neg (by rw [HNF.out];exact Bool.false_ne_true),if_pos hfr]
       have hfr2:p≤fr∧fr<p+i:=by rcases HFR.out with q|q;omega;exact q
       obtain⟨hfa,hfb⟩:=hfr2
       have g1:(0:Int)≤fr-p:=by omega
       have g2:fr-p≤(i:Int):=by omega
       have g3:(i:Int)≤(bz.size:Int):=by omega
       have g4: ¬fr<0:=by omega
       have hpz:(bz.extract (fr-p).toNat (p+(i:Int)-p).toNat).size≤bz.size:=ext_le _ _ _
       clear HS
       go_wp2_with fail
       refine(l5PutW k nx bs aa cc cp fi en L fr _ _ vN oN.lies HKA.out (by omega) oN.cap oN.none_cap).mono ?_
       rintro x w5 ⟨a5,c5,rfl,v5,o5,K5⟩
       go_wp2_with fail
       go_roundw
       case rel=>exact⟨i+1,putP L (fr,bz.extract (fr-p).toNat (p+(i:Int)-p).toNat),a5,c5,-1,true,by omega,by go_num,rfl,rfl,HQ,.inl rfl,by rw [putP_len];omega,Bd_putP HBD.out ⟨by show -1152921504606846976≤fr;omega,by show fr≤4611686018427387904;omega,by show(bz.extract (fr-p).toNat (p+(i:Int)-p).toNat).size≤2097152;omega⟩,by rw [tot_putP,Nat.succ_mul];show tot L+(bz.extract (fr-p).toNat (p+(i:Int)-p).toNat).size≤_;omega,v5,o5.mono (Nat.le_trans hB KN.size),KN.trans K5,fun x q=>by have:=(o5.lt x q).1;have:=vN.lt;omega⟩
       case measure=>simp [intOf];omega
      ·have HQ:Hid (foldK nx lim p bz l (i+1)=(L,fr,b)):=by
        show _=_
        rw [HS.out,stepK,if_neg (by rw [HNF.out];exact Bool.false_ne_true),if_neg hfr]
       have g4:fr<0:=by omega
       have g5:decide (0≤fr)=false:=decide_eq_false hfr
       clear HS
       go_wp2_with fail
       go_roundw
       case rel=>exact⟨i+1,L,aa,cc,fr,b,by omega,by go_num,rfl,rfl,HQ,by rcases HFR.out with q|q;exact .inl q;exact .inr ⟨q.1,by omega⟩,by omega,HBD,by rw [Nat.succ_mul];omega,vN,oN,KN,HKA⟩
       case measure=>simp [intOf];omega
     have c0:=vN.cell0 rfl
     have c1:=vN.cell (i:=1) rfl
     have c2:=vN.cell (i:=2) rfl
     have c3:=vN.cell (i:=3) rfl
     have c4:=vN.cell (i:=4) rfl
     have c5:=vN.cell (i:=5) rfl
     go_wp2_with fail
     refine(l5There nx bs aa _ cc cp fi en L (p+i) _ rfl oN.lies (by omega) HBD.out).mono ?_
     rintro x w5 ⟨rfl,b5⟩
     have vN:=vN.later b5
     have oN:=oN.later b5
     have KN:=KN.trans (Draw.Kept.ofBelow b5 (Nat.le_refl _))
     clear b5 c0 c1 c2 c3 c4 c5
     cases hth:thereB L (p+i)
     case true=>
      have HNF:Hid (freshB nx lim (p+bz.size) L (p+i)=false):=by show _=_;rw [freshB,hth];simp
      clear hth
      by_cases hfr:0≤fr
      ·have HQ:Hid (foldK nx lim p bz l (i+1)=(putP L (fr,bz.extract (fr-p).toNat (p+(i:Int)-p).toNat),-1,true)):=by
        show _=_
        rw [HS.out,stepK,if_neg (by rw [HNF.out];exact Bool.false_ne_true),if_pos hfr]
       have hfr2:p≤fr∧fr<p+i:=by rcases HFR.out with q|q;omega;exact q
       obtain⟨hfa,hfb⟩:=hfr2
       have g1:(0:Int)≤fr-p:=by omega
       have g2:fr-p≤(i:Int):=by omega
       have g3:(i:Int)≤(bz.size:Int):=by omega
       have g4: ¬fr<0:=by omega
       have hpz:(bz.extract (fr-p).toNat (p+(i:Int)-p).toNat).size≤bz.size:=ext_le _ _ _
       clear HS
       go_wp2_with fail
       refine(l5PutW k nx bs aa cc cp fi en L fr _ _ vN oN.lies HKA.out (by omega) oN.cap oN.none_cap).mono ?_
       rintro x w5 ⟨a5,c5,rfl,v5,o5,K5⟩
       go_wp2_with fail
       go_roundw
       case rel=>exact⟨i+1,putP L (fr,bz.extract (fr-p).toNat (p+(i:Int)-p).toNat),a5,c5,-1,true,by omega,by go_num,rfl,rfl,HQ,.inl rfl,by rw [putP_len];omega,Bd_putP HBD.out ⟨by show -1152921504606846976≤fr;omega,by show fr≤4611686018427387904;omega,by show(bz.extract (fr-p).toNat (p+(i:Int)-p).toNat).size≤2097152;omega⟩,by rw [tot_putP,Nat.succ_mul];show tot L+(bz.extract (fr-p).toNat (p+(i:Int)-p).toNat).size≤_;omega,v5,o5.mono (Nat.le_trans hB KN.size),KN.trans K5,fun x q=>by have:=(o5.lt x q).1;have:=vN.lt;omega⟩
       case measure=>simp [intOf];omega
      ·have HQ:Hid (foldK nx lim p bz l (i+1)=(L,fr,b)):=by
        show _=_
        rw [HS.out,stepK,if_neg (by rw [HNF.out];exact Bool.false_ne_true),if_neg hfr]
       have g4:fr<0:=by omega
       have g5:decide (0≤fr)=false:=decide_eq_false hfr
       clear HS
       go_wp2_with fail
       go_roundw
       case rel=>exact⟨i+1,L,aa,cc,fr,b,by omega,by go_num,rfl,rfl,HQ,by rcases HFR.out with q|q;exact .inl q;exact .inr ⟨q.1,by omega⟩,by omega,HBD,by rw [Nat.succ_mul];omega,vN,oN,KN,HKA⟩
       case measure=>simp [intOf];omega
     have HNF:Hid (freshB nx lim (p+bz.size) L (p+i)=true):=by show _=_;rw [freshB,hth,decide_eq_true f1,decide_eq_true f2,decide_eq_true f3];rfl
     clear hth
     by_cases hfr:fr<0
     ·have HQ:Hid (foldK nx lim p bz l (i+1)=(L,p+i,b)):=by
       show _=_
       rw [HS.out,stepK,if_pos HNF.out,if_pos hfr]
      clear HS
      go_wp2_with fail
      go_roundw
      case rel=>exact⟨i+1,L,aa,cc,p+i,b,by omega,by go_num,rfl,rfl,HQ,.inr ⟨by omega,by omega⟩,by omega,HBD,by rw [Nat.succ_mul];omega,vN,oN,KN,HKA⟩
      case measure=>simp [intOf];omega
     ·have HQ:Hid (foldK nx lim p bz l (i+1)=(L,fr,b)):=by
       show _=_
       rw [HS.out,stepK,if_pos HNF.out,if_neg hfr]
      have g5:decide (fr<0)=false:=decide_eq_false hfr
      clear HS
      go_wp2_with fail
      go_roundw
      case rel=>exact⟨i+1,L,aa,cc,fr,b,by omega,by go_num,rfl,rfl,HQ,by rcases HFR.out with q|q;exact .inl q;exact .inr ⟨q.1,by omega⟩,by omega,HBD,by rw [Nat.succ_mul];omega,vN,oN,KN,HKA⟩
      case measure=>simp [intOf];omega
    ·cases e
     ·have hie:i=bz.size+1:=by omega
      have HTK:Hid (takeT ⟨nx,bs,l,cp,fi,en⟩ p bz false=(⟨(joinT nx bs L).1,(joinT nx bs L).2.1,(joinT nx bs L).2.2,cp,fi,decide (fi=(joinT nx bs L).1)⟩,b)):=by
       show _=_
       rw [hie]at HFO
       simp only [takeT]
       rw [if_neg HGD.out,HLM.out,HFO.out]
       simp
      have i1: ¬p+(i:Int)≤p+(bz.size:Int):=by omega
      clear HFO HGD HFR
      go_wp2_with fail
      refine(l5JoinW k B nx bs aa cc cp fi en L _ vN oN (Nat.le_trans hB KN.size) HKA.out (by omega) HBD.out (by
       have:i*bz.size≤41*1048576:=Nat.mul_le_mul (by omega) hz
       omega)).mono ?_
      rintro x w6 ⟨a6,c6,rfl,v6,o6,K6,hk6⟩
      have K6:=KN.trans K6
      have HK6:Hid (∀x,a6=some x→x.block≠k):=hk6
      clear hk6
      generalize joinT nx bs L=J at *
      obtain⟨jn,jb,jl⟩:=J
      simp only at HTK v6 o6
      clear vN oN KN
      have c4:=v6.cell (i:=4) rfl
      have c0:=v6.cell0 rfl
      have c5:=v6.cell (i:=5) rfl
      have f5:=v6.free 5
      have f4:=v6.free 4
      by_cases hfe:fi=jn
      ·have hfb:(fi==jn)=true:=by simp [hfe]
       have HTL:Hid (takeT ⟨nx,bs,l,cp,fi,en⟩ p bz false=(⟨jn,jb,jl,cp,fi,true⟩,b)):=by show _=_;rw [HTK.out,decide_eq_true hfe]
       have HFE:Hid _:=hfe
       clear HTK hfe
       go_wp2_with fail
       have v7:=v6
       have o7:=o6
       have K7:=K6
       go_region
       have v8:=(v7.set 5 (.bool true)).drew
       have o8:=(o7.setCell (p:=⟨k,ow+5,none⟩) (fun x q=>HK6.out x q) (.bool true)).drew
       have K8:=(K7.setCell (p:=⟨k,ow+5,none⟩) (.inl rfl) (.bool true)).drew
       go_wp2_with fail
       go_ret
       exact⟨a6,c6,by rw [HTL.out];rfl,by rw [HTL.out];exact v8,by rw [HTL.out];exact o8,K8,HK6.out⟩
      ·have hfb:(fi==jn)=false:=by simp [hfe]
       have HTL:Hid (takeT ⟨nx,bs,l,cp,fi,en⟩ p bz false=(⟨jn,jb,jl,cp,fi,false⟩,b)):=by show _=_;rw [HTK.out,decide_eq_false hfe]
       have HFE:Hid _:=hfe
       clear HTK hfe
       go_wp2_with fail
       have v7:=v6
       have o7:=o6
       have K7:=K6
       go_region
       have v8:=(v7.set 5 (.bool false)).drew
       have o8:=(o7.setCell (p:=⟨k,ow+5,none⟩) (fun x q=>HK6.out x q) (.bool false)).drew
       have K8:=(K7.setCell (p:=⟨k,ow+5,none⟩) (.inl rfl) (.bool false)).drew
       go_wp2_with fail
       go_ret
       exact⟨a6,c6,by rw [HTL.out];rfl,by rw [HTL.out];exact v8,by rw [HTL.out];exact o8,K8,HK6.out⟩
     ·by_cases hfi:fi<0
      ·have hie:i=bz.size+1:=by omega
       have HTK:Hid (takeT ⟨nx,bs,l,cp,fi,en⟩ p bz true=(⟨(joinT nx bs L).1,(joinT nx bs L).2.1,(joinT nx bs L).2.2,cp,(p+(bz.size:Int)),decide ((p+(bz.size:Int))=(joinT nx bs L).1)⟩,true)):=by
        show _=_
        rw [hie]at HFO
        simp only [takeT]
        rw [if_neg HGD.out,HLM.out,HFO.out]
        simp [hfi]
       have i1: ¬p+(i:Int)≤p+(bz.size:Int):=by omega
       clear HFO HGD HFR
       go_wp2_with fail
       refine(l5JoinW k B nx bs aa cc cp fi en L _ vN oN (Nat.le_trans hB KN.size) HKA.out (by omega) HBD.out (by
        have:i*bz.size≤41*1048576:=Nat.mul_le_mul (by omega) hz
        omega)).mono ?_
       rintro x w6 ⟨a6,c6,rfl,v6,o6,K6,hk6⟩
       have K6:=KN.trans K6
       have HK6:Hid (∀x,a6=some x→x.block≠k):=hk6
       clear hk6
       generalize joinT nx bs L=J at *
       obtain⟨jn,jb,jl⟩:=J
       simp only at HTK v6 o6
       clear vN oN KN
       have c4:=v6.cell (i:=4) rfl
       have c0:=v6.cell0 rfl
       have c5:=v6.cell (i:=5) rfl
       have f5:=v6.free 5
       have f4:=v6.free 4
       by_cases hfe:(p+(bz.size:Int))=jn
       ·have hfb:((p+(bz.size:Int))==jn)=true:=by simp [hfe]
        have HTL:Hid (takeT ⟨nx,bs,l,cp,fi,en⟩ p bz true=(⟨jn,jb,jl,cp,(p+(bz.size:Int)),true⟩,true)):=by show _=_;rw [HTK.out,decide_eq_true hfe]
        have HFE:Hid _:=hfe
        clear HTK hfe
        go_wp2_with fail
        have v7:=v6.set 4 (.int .i64 (p+(bz.size:Int)))
        have o7:=o6.setCell (p:=⟨k,ow+4,none⟩) (fun x q=>HK6.out x q) (.int .i64 (p+(bz.size:Int)))
        have K7:=K6.setCell (p:=⟨k,ow+4,none⟩) (.inl rfl) (.int .i64 (p+(bz.size:Int)))
        simp only [List.set_cons_succ,List.set_cons_zero]at v7
        clear c4 c0 c5 f5 f4 v6 o6 K6
        generalize w6.setCell ⟨k,ow+4,none⟩ (.int .i64 (p+(bz.size:Int)))=w7 at *
        have c4:=v7.cell (i:=4) rfl
        have c0:=v7.cell0 rfl
        have c5:=v7.cell (i:=5) rfl
        have f5:=v7.free 5
        go_region
        have v8:=(v7.set 5 (.bool true)).drew
        have o8:=(o7.setCell (p:=⟨k,ow+5,none⟩) (fun x q=>HK6.out x q) (.bool true)).drew
        have K8:=(K7.setCell (p:=⟨k,ow+5,none⟩) (.inl rfl) (.bool true)).drew
        go_wp2_with fail
        go_ret
        exact⟨a6,c6,by rw [HTL.out];rfl,by rw [HTL.out];exact v8,by rw [HTL.out];exact o8,K8,HK6.out⟩
       ·have hfb:((p+(bz.size:Int))==jn)=false:=by simp [hfe]
        have HTL:Hid (takeT ⟨nx,bs,l,cp,fi,en⟩ p bz true=(⟨jn,jb,jl,cp,(p+(bz.size:Int)),false⟩,true)):=by show _=_;rw [HTK.out,decide_eq_false hfe]
        have HFE:Hid _:=hfe
        clear HTK hfe
        go_wp2_with fail
        have v7:=v6.set 4 (.int .i64 (p+(bz.size:Int)))
        have o7:=o6.setCell (p:=⟨k,ow+4,none⟩) (fun x q=>HK6.out x q) (.int .i64 (p+(bz.size:Int)))
        have K7:=K6.setCell (p:=⟨k,ow+4,none⟩) (.inl rfl) (.int .i64 (p+(bz.size:Int)))
        simp only [List.set_cons_succ,List.set_cons_zero]at v7
        clear c4 c0 c5 f5 f4 v6 o6 K6
        generalize w6.setCell ⟨k,ow+4,none⟩ (.int .i64 (p+(bz.size:Int)))=w7 at *
        have c4:=v7.cell (i:=4) rfl
        have c0:=v7.cell0 rfl
        have c5:=v7.cell (i:=5) rfl
        have f5:=v7.free 5
        go_region
        have v8:=(v7.set 5 (.bool false)).drew
        have o8:=(o7.setCell (p:=⟨k,ow+5,none⟩) (fun x q=>HK6.out x q) (.bool false)).drew
        have K8:=(K7.setCell (p:=⟨k,ow+5,none⟩) (.inl rfl) (.bool false)).drew
        go_wp2_with fail
        go_ret
        exact⟨a6,c6,by rw [HTL.out];rfl,by rw [HTL.out];exact v8,by rw [HTL.out];exact o8,K8,HK6.out⟩
      ·have hie:i=bz.size+1:=by omega
       have HTK:Hid (takeT ⟨nx,bs,l,cp,fi,en⟩ p bz true=(⟨(joinT nx bs L).1,(joinT nx bs L).2.1,(joinT nx bs L).2.2,cp,fi,decide (fi=(joinT nx bs L).1)⟩,b)):=by
        show _=_
        rw [hie]at HFO
        simp only [takeT]
        rw [if_neg HGD.out,HLM.out,HFO.out]
        simp [show ¬fi<0 by omega]
       have i1: ¬p+(i:Int)≤p+(bz.size:Int):=by omega
       clear HFO HGD HFR
       go_wp2_with fail
       refine(l5JoinW k B nx bs aa cc cp fi en L _ vN oN (Nat.le_trans hB KN.size) HKA.out (by omega) HBD.out (by
        have:i*bz.size≤41*1048576:=Nat.mul_le_mul (by omega) hz
        omega)).mono ?_
       rintro x w6 ⟨a6,c6,rfl,v6,o6,K6,hk6⟩
       have K6:=KN.trans K6
       have HK6:Hid (∀x,a6=some x→x.block≠k):=hk6
       clear hk6
       generalize joinT nx bs L=J at *
       obtain⟨jn,jb,jl⟩:=J
       simp only at HTK v6 o6
       clear vN oN KN
       have c4:=v6.cell (i:=4) rfl
       have c0:=v6.cell0 rfl
       have c5:=v6.cell (i:=5) rfl
       have f5:=v6.free 5
       have f4:=v6.free 4
       by_cases hfe:fi=jn
       ·have hfb:(fi==jn)=true:=by simp [hfe]
        have HTL:Hid (takeT ⟨nx,bs,l,cp,fi,en⟩ p bz true=(⟨jn,jb,jl,cp,fi,true⟩,b)):=by show _=_;rw [HTK.out,decide_eq_true hfe]
        have HFE:Hid _:=hfe
        clear HTK hfe
        go_wp2_with fail
        have v7:=v6
        have o7:=o6
        have K7:=K6
        go_region
        have v8:=(v7.set 5 (.bool true)).drew
        have o8:=(o7.setCell (p:=⟨k,ow+5,none⟩) (fun x q=>HK6.out x q) (.bool true)).drew
        have K8:=(K7.setCell (p:=⟨k,ow+5,none⟩) (.inl rfl) (.bool true)).drew
        go_wp2_with fail
        go_ret
        exact⟨a6,c6,by rw [HTL.out];rfl,by rw [HTL.out];exact v8,by rw [HTL.out];exact o8,K8,HK6.out⟩
       ·have hfb:(fi==jn)=false:=by simp [hfe]
        have HTL:Hid (takeT ⟨nx,bs,l,cp,fi,en⟩ p bz true=(⟨jn,jb,jl,cp,fi,false⟩,b)):=by show _=_;rw [HTK.out,decide_eq_false hfe]
        have HFE:Hid _:=hfe
        clear HTK hfe
        go_wp2_with fail
        have v7:=v6
        have o7:=o6
        have K7:=K6
        go_region
        have v8:=(v7.set 5 (.bool false)).drew
        have o8:=(o7.setCell (p:=⟨k,ow+5,none⟩) (fun x q=>HK6.out x q) (.bool false)).drew
        have K8:=(K7.setCell (p:=⟨k,ow+5,none⟩) (.inl rfl) (.bool false)).drew
        go_wp2_with fail
        go_ret
        exact⟨a6,c6,by rw [HTL.out];rfl,by rw [HTL.out];exact v8,by rw [HTL.out];exact o8,K8,HK6.out⟩
theorem l5Take (k B:Nat)(nx:Int)(bs:ByteArray)(a:Option Addr)(c:Nat)(cp fi:Int)(en:Bool)(l:List Pt)(p:Int)(bz:ByteArray)(e:Bool)(w:World)
  (hv:Var 44 w k [.int .i64 nx,.string bs,.slice a l.length c,.int .i64 cp,.int .i64 fi,.bool en]) (ho:partE.Own 123 w B a c l) (hB:B≤w.heap.size) (hka: ∀x,a=some x→x.block≠k) (hl:l.length≤524288) (hp:Bd l) (ht:bs.size+tot l≤1099511627) (hn:0≤nx∧nx≤1099511627776) (hc:0≤cp∧cp≤1099511627776) (hp0: -1099511627776≤p∧p≤1099511627776) (hz:bz.size≤1048576):
  Calls Tryz.prog 106 #[.pointer (some ⟨k,0,none⟩),.int .i64 p,.string bz,.bool e] w fun x w'=> ∃a' c',x=.returned (.bool (takeT ⟨nx,bs,l,cp,fi,en⟩ p bz e).2)∧Var 44 w' k [.int .i64 (takeT ⟨nx,bs,l,cp,fi,en⟩ p bz e).1.nx,.string (takeT ⟨nx,bs,l,cp,fi,en⟩ p bz e).1.bs,.slice a' (takeT ⟨nx,bs,l,cp,fi,en⟩ p bz e).1.l.length c',.int .i64 (takeT ⟨nx,bs,l,cp,fi,en⟩ p bz e).1.cp,.int .i64 (takeT ⟨nx,bs,l,cp,fi,en⟩ p bz e).1.fi,.bool (takeT ⟨nx,bs,l,cp,fi,en⟩ p bz e).1.en]∧partE.Own 123 w' B a' c' (takeT ⟨nx,bs,l,cp,fi,en⟩ p bz e).1.l∧Draw.Kept k w w'∧ ∀x,a'=some x→x.block≠k:=
 (l5TakeW k B nx bs a c cp fi en l p bz e w hv.win ho hB hka hl hp ht hn hc hp0 hz).mono fun _ _ ⟨a',c',h1,h2,h3⟩=>⟨a',c',h1,h2.whole,h3⟩
end Go.Proofs.YtfejobjgbadfjaaGreat.Tak
