/- Contracts of this seat's functions, and their mathematics (HopH TakI TakJ TakK). -/
import Derived.Test.YtfejobjgbadfjaaGreatK10
import Derived.Test.YtfejobjgbadfjaaGreatK7
set_option linter.unusedVariables false
set_option linter.unusedSimpArgs false
namespace Go.Proofs.YtfejobjgbadfjaaGreat.Hop
open Go.RowKit RowG
theorem hop_ok {h:Hp}(hb:hopB h=true):h.ws.length≤30∧h.g.ok=true∧h.t.ok=true∧(∀x∈h.ws,letB x=true):=by
 unfold hopB at hb
 simp only [Bool.and_eq_true,decide_eq_true_eq,List.all_eq_true]at hb
 exact⟨hb.2.2.2,hb.2.1,hb.2.2.1,hb.1⟩
end Go.Proofs.YtfejobjgbadfjaaGreat.Hop
namespace Go.Proofs.YtfejobjgbadfjaaGreat.Tak
def okQ (lim:Int):Int→List Pt→Prop
 | _,[]=>True
 | lo,q::r=>(1≤q.2.size∧q.2.size≤40)∧lo≤q.1∧endP q≤lim∧okQ lim (endP q) r
theorem okQ_weak {lim lo lo':Int}(h:lo'≤lo): ∀ {l:List Pt},okQ lim lo l→okQ lim lo' l
 | [],_=>trivial
 | q::r,⟨h1,h2,h3,h4⟩=>⟨h1,by omega,h3,h4⟩
theorem end_gt {q:Pt}(h:1≤q.2.size):q.1<endP q:=by unfold endP;omega
theorem lastEnd_cons (x:Int)(q:Pt)(r:List Pt):lastEnd x (q::r)=lastEnd (endP q) r:=by
 unfold lastEnd
 cases r with
 | nil=>rfl
 | cons y s=>rw [List.getLast?_cons_cons];cases h:(y::s).getLast? with
  | none=>simp at h
  | some z=>rfl
theorem scan_tail {nx lim:Int}: ∀ {l:List Pt} {last out:Int},nx<last→(scan nx lim last l=some out↔okQ lim last l∧out=lastEnd last l)
 | [],last,out,h=>by simp [scan,okQ,lastEnd];exact eq_comm
 | q::r,last,out,h=>by
  rw [scan,lastEnd_cons]
  by_cases hc:(1≤q.2.size∧q.2.size≤40)∧nx<q.1∧last≤q.1∧endP q≤lim
  ·have hg:=end_gt hc.1.1
   rw [if_pos hc,scan_tail (by omega)]
   exact⟨fun z=>⟨⟨hc.1,hc.2.2.1,hc.2.2.2,z.1⟩,z.2⟩,fun z=>⟨z.1.2.2.2,z.2⟩⟩
  ·rw [if_neg hc]
   exact⟨(by intro z;cases z),fun z=>absurd ⟨z.1.1,by have:=z.1.2.1;omega,z.1.2.1,z.1.2.2.1⟩ hc⟩
theorem scan_head {nx lim:Int}{l:List Pt}{out:Int}:scan nx lim nx l=some out↔okQ lim (nx+1) l∧out=lastEnd nx l:=by
 cases l with
 | nil=>simp [scan,okQ,lastEnd];exact eq_comm
 | cons q r=>
  rw [scan,lastEnd_cons]
  by_cases hc:(1≤q.2.size∧q.2.size≤40)∧nx<q.1∧nx≤q.1∧endP q≤lim
  ·have hg:=end_gt hc.1.1
   rw [if_pos hc,scan_tail (by omega)]
   exact⟨fun z=>⟨⟨hc.1,by omega,hc.2.2.2,z.1⟩,z.2⟩,fun z=>⟨z.1.2.2.2,z.2⟩⟩
  ·rw [if_neg hc]
   exact⟨(by intro z;cases z),fun z=>absurd ⟨z.1.1,by have:=z.1.2.1;omega,by have:=z.1.2.1;omega,z.1.2.2.1⟩ hc⟩
theorem last_ge {lim:Int}: ∀ {l:List Pt} {lo:Int},okQ lim lo l→ ∀q∈l,endP q≤lastEnd lo l
 | [],_,_,q,hq=>by cases hq
 | x::r,lo,⟨h1,h2,h3,h4⟩,q,hq=>by
  rw [lastEnd_cons]
  have hm:endP x≤lastEnd (endP x) r:=last_from h4
  rcases List.mem_cons.1 hq with rfl|hq
  ·exact hm
  ·exact last_ge h4 q hq
where
 last_from {lim:Int}: ∀ {l:List Pt} {lo:Int},okQ lim lo l→lo≤lastEnd lo l
  | [],_,_=>Int.le_refl _
  | x::r,lo,⟨h1,h2,h3,h4⟩=>by
   rw [lastEnd_cons]
   have:=last_from h4
   have:=end_gt h1.1
   omega
def putR:List Pt→Pt→List Pt
 | [],q=>[q]
 | x::r,q=>if x.1<q.1 then x::putR r q else q::x::r
theorem put_eq: ∀(l:List Pt) (q:Pt),putP l q=putR l q
 | [],q=>rfl
 | x::r,q=>by
  have ih:=put_eq r q
  unfold putP at ih ⊢
  by_cases h:x.1<q.1
  ·have hc:cnt (ahead q) (x::r)=cnt (ahead q) r+1:=by simp [cnt,ahead,h]
   rw [hc,putR,if_pos h,←ih]
   simp
  ·have hc:cnt (ahead q) (x::r)=0:=by simp [cnt,ahead];omega
   rw [hc,putR,if_neg h]
   simp
theorem there_cons (x:Pt)(r:List Pt)(k:Int):thereB (x::r) k=true↔(x.1≤k∧k<endP x)∨thereB r k=true:=by
 simp [thereB,inP]
theorem put_ok {lim:Int}{q:Pt}(hq:1≤q.2.size∧q.2.size≤40)(hm:endP q≤lim): ∀ {l:List Pt} {lo:Int},okQ lim lo l→lo≤q.1→(∀k,q.1≤k→k<endP q→thereB l k=false)→okQ lim lo (putR l q)
 | [],lo,_,hl,_=>⟨hq,hl,hm,trivial⟩
 | x::r,lo,⟨h1,h2,h3,h4⟩,hl,hc=>by
  have hx:=end_gt h1.1
  have hg:=end_gt hq.1
  have hno: ∀k,q.1≤k→k<endP q→ ¬(x.1≤k∧k<endP x)∧thereB r k=false:=fun k a b=>by
   have:=hc k a b
   cases hb:thereB (x::r) k with
   | true=>rw [hb]at this;cases this
   | false=>
    refine⟨fun c=>?_,?_⟩
    ·rw [(there_cons x r k).2 (.inl c)]at hb;cases hb
    ·cases hr:thereB r k with
     | true=>rw [(there_cons x r k).2 (.inr hr)]at hb;cases hb
     | false=>rfl
  rw [putR]
  split
  next h=>
   refine⟨h1,h2,h3,put_ok hq hm h4 ?_ (fun k a b=>(hno k a b).2)⟩
   have:=(hno q.1 (Int.le_refl _) hg).1
   omega
  next h=>
   refine⟨hq,hl,hm,h1,?_,h3,h4⟩
   by_cases c:endP q≤x.1
   ·exact c
   ·have:=(hno x.1 (by omega) (by omega)).1
    omega
theorem put_there {q:Pt}(k:Int): ∀(l:List Pt),thereB (putR l q) k=true↔thereB l k=true∨(q.1≤k∧k<endP q)
 | []=>by simp [putR,thereB,inP]
 | x::r=>by
  rw [putR]
  split
  ·rw [there_cons,there_cons,put_there k r]
   constructor
   ·rintro(h|h|h)
    ·exact .inl (.inl h)
    ·exact .inl (.inr h)
    ·exact .inr h
   ·rintro((h|h)|h)
    ·exact .inl h
    ·exact .inr (.inl h)
    ·exact .inr (.inr h)
  ·rw [there_cons q]
   exact⟨fun h=>h.symm,fun h=>h.symm⟩
end Go.Proofs.YtfejobjgbadfjaaGreat.Tak
namespace Go.Proofs.YtfejobjgbadfjaaGreat.Tak
structure Inv (nx lim p stop:Int)(l0 L:List Pt)(fr k:Int):Prop where
 ok:okQ lim nx L
 run:fr= -1∨(p≤fr∧fr<k∧nx≤fr∧k≤lim∧k≤stop∧ ∀j,fr≤j→j<k→thereB L j=false)
 cov: ∀j,thereB L j=true↔thereB l0 j=true∨(p≤j∧j<(if fr<0 then k else fr)∧nx≤j∧j<lim∧j<stop)
theorem ext_size (b:ByteArray)(i j:Nat)(h:j≤b.size):(b.extract i j).size=j-i:=by
 rw [ByteArray.size_extract]
 omega
theorem fresh_iff {nx lim stop:Int}{l:List Pt}{k:Int}:freshB nx lim stop l k=true↔k<stop∧nx≤k∧k<lim∧thereB l k=false:=by
 simp [freshB]
theorem inv_step {nx lim p:Int}{bz:ByteArray}{l0 L:List Pt}{fr:Int}{b:Bool}{i:Nat}(hp:0≤p)(hz:bz.size≤40)(hi:i≤bz.size)(h:Inv nx lim p (p+bz.size) l0 L fr (p+i)):
  Inv nx lim p (p+bz.size) l0 (stepK nx lim p bz (L,fr,b) (p+i)).1 (stepK nx lim p bz (L,fr,b) (p+i)).2.1 (p+(i+1:Nat)):=by
 obtain⟨hok,hrun,hcov⟩:=h
 have e1:p+((i+1:Nat):Int)=p+i+1:=by omega
 rw [e1]
 unfold stepK
 simp only []
 by_cases hf:freshB nx lim (p+bz.size) L (p+i)=true
 ·rw [if_pos hf]
  obtain⟨f1,f2,f3,f4⟩:=fresh_iff.1 hf
  by_cases hn:fr<0
  ·rw [if_pos hn]
   show Inv nx lim p (p+bz.size) l0 L (p+i) (p+i+1)
   refine⟨hok,.inr ⟨by omega,by omega,f2,by omega,by omega,fun j a c=>?_⟩,fun j=>?_⟩
   ·rw [show j=p+i by omega];exact f4
   ·rw [hcov j,if_pos hn,if_neg (by omega)]
  ·rw [if_neg hn]
   obtain⟨r1,r2,r3,r4,r5,r6⟩:p≤fr∧fr<p+i∧nx≤fr∧p+i≤lim∧p+i≤p+bz.size∧ ∀j,fr≤j→j<p+i→thereB L j=false:=by
    rcases hrun with q|q
    ·omega
    ·exact q
   refine⟨hok,.inr ⟨r1,by show fr<p+i+1;omega,r3,by show p+(i:Int)+1≤lim;omega,by show p+(i:Int)+1≤p+bz.size;omega,fun j a c=>?_⟩,fun j=>?_⟩
   ·by_cases hj:j=p+i
    ·rw [hj];exact f4
    ·exact r6 j a (by omega)
   ·show _↔_∨(_∧j<(if fr<0 then p+(i:Int)+1 else fr)∧_)
    rw [hcov j,if_neg hn,if_neg hn]
 ·rw [if_neg hf]
  have hnf: ¬(p+(i:Int)<p+bz.size∧nx≤p+i∧p+i<lim∧thereB L (p+i)=false):=fun q=>hf (fresh_iff.2 q)
  by_cases hn:0≤fr
  ·rw [if_pos hn]
   obtain⟨r1,r2,r3,r4,r5,r6⟩:p≤fr∧fr<p+i∧nx≤fr∧p+i≤lim∧p+i≤p+bz.size∧ ∀j,fr≤j→j<p+i→thereB L j=false:=by
    rcases hrun with q|q
    ·omega
    ·exact q
   have hsz:(bz.extract (fr-p).toNat (p+(i:Int)-p).toNat).size=(p+(i:Int)-fr).toNat:=by
    rw [ext_size _ _ _ (by omega)]
    omega
   have hen:endP (fr,bz.extract (fr-p).toNat (p+(i:Int)-p).toNat)=p+i:=by
    unfold endP
    simp only []
    rw [hsz]
    omega
   generalize bz.extract (fr-p).toNat (p+(i:Int)-p).toNat=piece at *
   have hs1:1≤piece.size∧piece.size≤40:=by rw [hsz];omega
   simp only []
   rw [put_eq]
   refine⟨put_ok (q:=(fr,piece)) hs1 (by rw [hen];exact r4) hok r3 (fun j a c=>r6 j a (by rw [hen]at c;exact c)),.inl rfl,fun j=>?_⟩
   rw [put_there,hen,hcov j,if_neg (by omega),if_pos (by omega)]
   constructor
   ·rintro((q|q)|q)
    ·exact .inl q
    ·exact .inr ⟨q.1,by omega,q.2.2⟩
    ·have q1:fr≤j:=q.1
     exact .inr ⟨by omega,by omega,by omega,by omega,by omega⟩
   ·rintro(q|q)
    ·exact .inl (.inl q)
    ·by_cases c:j<fr
     ·exact .inl (.inr ⟨q.1,c,q.2.2⟩)
     ·by_cases c2:j<p+i
      ·exact .inr ⟨by show fr≤j;omega,c2⟩
      ·have hj:j=p+i:=by omega
       subst hj
       by_cases ht:thereB L (p+i)=true
       ·rcases(hcov _).1 ht with z|z
        ·exact .inl (.inl z)
        ·rw [if_neg (by omega)]at z;exact .inl (.inr z)
       ·exact absurd ⟨q.2.2.2.2,q.2.2.1,q.2.2.2.1,by simpa using ht⟩ hnf
  ·rw [if_neg hn]
   have hm1:fr= -1:=by
    rcases hrun with q|q
    ·exact q
    ·omega
   refine⟨hok,.inl hm1,fun j=>?_⟩
   show _↔_∨(_∧j<(if fr<0 then p+(i:Int)+1 else fr)∧_)
   rw [hcov j,if_pos (by omega),if_pos (by omega)]
   constructor
   ·rintro(q|q)
    ·exact .inl q
    ·exact .inr ⟨q.1,by omega,q.2.2⟩
   ·rintro(q|q)
    ·exact .inl q
    ·by_cases c2:j<p+i
     ·exact .inr ⟨q.1,c2,q.2.2⟩
     ·have hj:j=p+i:=by omega
      subst hj
      by_cases ht:thereB L (p+i)=true
      ·rcases(hcov _).1 ht with z|z
       ·exact .inl z
       ·rw [if_pos (by omega)]at z;exact .inr z
      ·exact absurd ⟨q.2.2.2.2,q.2.2.1,q.2.2.2.1,by simpa using ht⟩ hnf
theorem inv_fold {nx lim p:Int}{bz:ByteArray}{l0:List Pt}(hp:0≤p)(hz:bz.size≤40)(h0:okQ lim nx l0): ∀i:Nat,i≤bz.size+1→Inv nx lim p (p+bz.size) l0 (foldK nx lim p bz l0 i).1 (foldK nx lim p bz l0 i).2.1 (p+i)
 | 0,_=>⟨h0,.inl rfl,fun j=>by
   show _↔_∨(_∧j<(if (-1:Int)<0 then p+((0:Nat):Int)else -1)∧_)
   rw [if_pos (by decide)]
   exact⟨fun q=>.inl q,fun q=>q.elim id (fun z=>by have:=z.1;have:=z.2.1;omega)⟩⟩
 | i+1,hi=>by
  have ih:=inv_fold (bz:=bz) hp hz h0 i (by omega)
  rw [foldK_succ]
  exact inv_step hp hz (by omega) ih
end Go.Proofs.YtfejobjgbadfjaaGreat.Tak
namespace Go.Proofs.YtfejobjgbadfjaaGreat.Tak
theorem okQ_len {lim:Int}: ∀ {l:List Pt} {lo:Int},okQ lim lo l→l.length≤(lim-lo).toNat
 | [],_,_=>Nat.zero_le _
 | q::r,lo,⟨h1,h2,h3,h4⟩=>by
  have:=okQ_len h4
  have:=end_gt h1.1
  simp only [List.length_cons]
  omega
theorem there_hi {lim:Int}{k:Int}: ∀ {l:List Pt} {lo:Int},okQ lim lo l→lastEnd lo l≤k→thereB l k=false
 | [],_,_,_=>rfl
 | q::r,lo,h,hk=>by
  cases hb:thereB (q::r) k with
  | false=>rfl
  | true=>
   have: ∃x∈q::r,x.1≤k∧k<endP x:=by
    simp only [thereB,List.any_eq_true,inP,decide_eq_true_eq]at hb
    exact hb
   obtain⟨x,hx,h1,h2⟩:=this
   have:=last_ge h x hx
   omega
theorem last_le {lim:Int}: ∀ {l:List Pt} {lo:Int},okQ lim lo l→lo≤lim→lastEnd lo l≤lim
 | [],_,_,h=>h
 | q::r,lo,⟨h1,h2,h3,h4⟩,h=>by rw [lastEnd_cons];exact last_le h4 h3
theorem last_there {lim:Int}: ∀ {l:List Pt} {lo:Int},okQ lim lo l→l≠ []→thereB l (lastEnd lo l-1)=true
 | [],_,_,h=>absurd rfl h
 | [q],lo,⟨h1,h2,h3,h4⟩,_=>by
  have:=end_gt h1.1
  rw [there_cons]
  left
  rw [lastEnd_cons]
  show q.1≤endP q-1∧endP q-1<endP q
  omega
 | q::y::r,lo,⟨h1,h2,h3,h4⟩,_=>by
  rw [there_cons,lastEnd_cons]
  exact .inr (last_there h4 (by simp))
theorem join_all {lim:Int}: ∀ {L:List Pt} {nx:Int} {bs:ByteArray},okQ lim nx L→
  okQ lim ((joinT nx bs L).1+1) (joinT nx bs L).2.2∧nx≤(joinT nx bs L).1∧((joinT nx bs L).2.1.size:Int)=bs.size+((joinT nx bs L).1-nx)∧lastEnd (joinT nx bs L).1 (joinT nx bs L).2.2=lastEnd nx L∧(∀j,thereB L j=true↔(nx≤j∧j<(joinT nx bs L).1)∨thereB (joinT nx bs L).2.2 j=true)∧(joinT nx bs L).1≤lastEnd nx L∧(∃tl,(joinT nx bs L).2.1=bs++tl)
 | [],nx,bs,_=>⟨trivial,Int.le_refl _,by simp [joinT],rfl,fun j=>by simp [joinT,thereB],Int.le_refl _,⟨ByteArray.empty,by simp [joinT]⟩⟩
 | q::r,nx,bs,⟨h1,h2,h3,h4⟩=>by
  have hg:=end_gt h1.1
  rw [joinT]
  by_cases h:q.1=nx
  ·rw [if_pos h]
   obtain⟨a1,a2,a3,a4,a5,a6,tl,a7⟩:=join_all (bs:=bs++q.2) h4
   refine⟨a1,by omega,?_,by rw [a4,lastEnd_cons],fun j=>?_,by rw [lastEnd_cons];exact a6,⟨q.2++tl,by rw [a7,ByteArray.append_assoc]⟩⟩
   ·rw [a3,ByteArray.size_append]
    unfold endP
    omega
   ·rw [there_cons,a5 j]
    constructor
    ·rintro(z|z|z)
     ·exact .inl (by omega)
     ·exact .inl (by omega)
     ·exact .inr z
    ·rintro(z|z)
     ·by_cases c:j<endP q
      ·exact .inl (by omega)
      ·exact .inr (.inl (by omega))
     ·exact .inr (.inr z)
  ·rw [if_neg h]
   have hq:okQ lim nx (q::r):=⟨h1,h2,h3,h4⟩
   have hl:=last_ge.last_from hq
   refine⟨⟨h1,by show nx+1≤q.1;omega,h3,h4⟩,Int.le_refl _,by simp,rfl,fun j=>⟨fun z=>.inr z,fun z=>z.elim (fun y=>by simp only at y;omega) id⟩,hl,⟨ByteArray.empty,by simp⟩⟩
theorem ok_iff {t:Tk}:t.ok=true↔inT t.nx t.bs t.l t.cp∧okQ (limT t.nx t.bs t.cp) (t.nx+1) t.l∧endB t.fi (lastEnd t.nx t.l) t.nx t.en=true:=by
 constructor
 ·intro h
  obtain⟨hin,last,hs,he⟩:=ok_scan h
  obtain⟨h1,h2⟩:=scan_head.1 hs
  exact⟨hin,h1,h2▸he⟩
 ·rintro⟨hin,h1,he⟩
  have hs:=scan_head.2 ⟨h1,rfl⟩
  simp only [Tk.ok,takerB]
  rw [decide_eq_true hin,hs]
  exact he
theorem end_iff {fi last nx:Int}{en:Bool}:endB fi last nx en=true↔(fi= -1∨(Num.plB fi=true∧last≤fi))∧en=decide (fi=nx)∧Num.plB last=true:=by
 unfold endB
 rw [Bool.and_eq_true,Bool.and_eq_true,decide_eq_true_eq,beq_iff_eq]
theorem fold_all {t:Tk}(h:t.ok=true){p:Int}{bz:ByteArray}(hp:0≤p)(hz:bz.size≤40):
  okQ (limT t.nx t.bs t.cp) t.nx (foldK t.nx (limT t.nx t.bs t.cp) p bz t.l (bz.size+1)).1∧ ∀j,thereB (foldK t.nx (limT t.nx t.bs t.cp) p bz t.l (bz.size+1)).1 j=true↔thereB t.l j=true∨(p≤j∧j<p+bz.size∧t.nx≤j∧j<limT t.nx t.bs t.cp):=by
 obtain⟨hin,hq,he⟩:=ok_iff.1 h
 have inv:=inv_fold hp hz (okQ_weak (show t.nx≤t.nx+1 by omega) hq) (bz.size+1) (Nat.le_refl _)
 have hfr:(foldK t.nx (limT t.nx t.bs t.cp) p bz t.l (bz.size+1)).2.1= -1:=by
  rcases inv.run with q|q
  ·exact q
  ·omega
 refine⟨inv.ok,fun j=>?_⟩
 rw [inv.cov j,hfr,if_pos (by decide)]
 constructor
 ·rintro(q|q)
  ·exact .inl q
  ·exact .inr ⟨q.1,q.2.2.2.2,q.2.2.1,q.2.2.2.1⟩
 ·rintro(q|q)
  ·exact .inl q
  ·exact .inr ⟨q.1,by omega,q.2.2.1,q.2.2.2,q.2.1⟩
theorem take_ok {t:Tk}(h:t.ok=true)(p:Int)(bz:ByteArray)(e:Bool):(takeT t p bz e).1.ok=true:=by
 by_cases hb:takeBad t p bz e
 ·simp only [takeT];rw [if_pos hb];exact h
 ·obtain⟨hin,hq,he⟩:=ok_iff.1 h
  obtain⟨⟨i1,i2⟩,⟨i3,i4⟩,⟨i5,i6⟩,i7⟩:=hin
  obtain⟨e1,e2,e3⟩:=end_iff.1 he
  unfold takeBad at hb
  simp only [not_or,not_and]at hb
  obtain⟨b1,b2,b3,b4,b5⟩:=hb
  have hp:=Num.pl_t (by simpa using b1:Num.plB p=true)
  have hs:=Num.pl_t (by simpa using b2:Num.plB (p+bz.size)=true)
  obtain⟨f1,f2⟩:=fold_all h hp.1 (by omega:bz.size≤40)
  have hlast:=Num.pl_t e3
  obtain⟨j1,j2,j3,j4,j5,j6,tl,j7⟩:=join_all (bs:=t.bs) f1
  have hnl:t.nx≤lastEnd t.nx t.l:=last_ge.last_from (okQ_weak (show t.nx≤t.nx+1 by omega) hq)
  have hbound:lastEnd t.nx (foldK t.nx (limT t.nx t.bs t.cp) p bz t.l (bz.size+1)).1≤lastEnd t.nx t.l∨lastEnd t.nx (foldK t.nx (limT t.nx t.bs t.cp) p bz t.l (bz.size+1)).1≤p+bz.size:=by
   generalize (foldK t.nx (limT t.nx t.bs t.cp) p bz t.l (bz.size+1)).1=L at *
   by_cases hL:L=[]
   ·subst hL;exact .inl hnl
   ·have hth:=last_there f1 hL
    rcases(f2 _).1 hth with z|z
    ·by_cases c:lastEnd t.nx t.l≤lastEnd t.nx L-1
     ·have:=there_hi (okQ_weak (show t.nx≤t.nx+1 by omega) hq) c
      rw [this]at z;cases z
     ·exact .inl (by omega)
    ·exact .inr (by omega)
  have hlimle:lastEnd t.nx (foldK t.nx (limT t.nx t.bs t.cp) p bz t.l (bz.size+1)).1≤limT t.nx t.bs t.cp:=last_le f1 (by unfold limT;omega)
  have hlim2:limT (joinT t.nx t.bs (foldK t.nx (limT t.nx t.bs t.cp) p bz t.l (bz.size+1)).1).1 (joinT t.nx t.bs (foldK t.nx (limT t.nx t.bs t.cp) p bz t.l (bz.size+1)).1).2.1 t.cp=limT t.nx t.bs t.cp:=by
   unfold limT at *
   omega
  have hlen:=okQ_len j1
  have htk:takeT t p bz e=(⟨(joinT t.nx t.bs (foldK t.nx (limT t.nx t.bs t.cp) p bz t.l (bz.size+1)).1).1,(joinT t.nx t.bs (foldK t.nx (limT t.nx t.bs t.cp) p bz t.l (bz.size+1)).1).2.1,(joinT t.nx t.bs (foldK t.nx (limT t.nx t.bs t.cp) p bz t.l (bz.size+1)).1).2.2,t.cp,(if e=true∧t.fi<0 then p+bz.size else t.fi),decide ((if e=true∧t.fi<0 then p+bz.size else t.fi)=(joinT t.nx t.bs (foldK t.nx (limT t.nx t.bs t.cp) p bz t.l (bz.size+1)).1).1)⟩,(takeT t p bz e).2):=by
   simp only [takeT]
   rw [if_neg (show ¬takeBad t p bz e by unfold takeBad;simp only [not_or,not_and];exact⟨b1,b2,b3,b4,b5⟩)]
  rw [htk]
  have hlimv:limT t.nx t.bs t.cp=t.nx-t.bs.size+t.cp:=rfl
  generalize joinT t.nx t.bs (foldK t.nx (limT t.nx t.bs t.cp) p bz t.l (bz.size+1)).1=J at *
  generalize lastEnd t.nx (foldK t.nx (limT t.nx t.bs t.cp) p bz t.l (bz.size+1)).1=E at *
  obtain⟨jn,jb,jl⟩:=J
  simp only at j1 j2 j3 j4 j5 j6 j7 hlim2 hlen
  refine ok_iff.2 ⟨⟨⟨i1,i2⟩,⟨by show 0≤jn;omega,by show jn≤1000000000;rcases hbound with z|z <;>omega⟩,⟨by show(jb.size:Int)≤t.cp;omega,by show(jb.size:Int)≤jn;omega⟩,by show jl.length≤400;omega⟩,?_,?_⟩
  ·show okQ (limT jn jb t.cp) (jn+1) jl
   rw [hlim2];exact j1
  ·show endB _ (lastEnd jn jl) jn _=true
   rw [j4]
   refine end_iff.2 ⟨?_,rfl,Num.pl_yes ⟨by omega,by rcases hbound with z|z <;>omega⟩⟩
   show((if e=true∧t.fi<0 then p+(bz.size:Int)else t.fi)= -1∨_)
   by_cases c:e=true∧t.fi<0
   ·refine .inr ?_
    show Num.plB (if e=true∧t.fi<0 then p+(bz.size:Int)else t.fi)=true∧E≤(if e=true∧t.fi<0 then p+(bz.size:Int)else t.fi)
    rw [if_pos c]
    refine⟨Num.pl_yes hs,?_⟩
    have:=(b5 c.1).1
    rcases hbound with z|z <;>omega
   ·rcases e1 with z|z
    ·exact .inl (by rw [if_neg c];exact z)
    ·refine .inr ?_
     show Num.plB (if e=true∧t.fi<0 then p+(bz.size:Int)else t.fi)=true∧E≤(if e=true∧t.fi<0 then p+(bz.size:Int)else t.fi)
     rw [if_neg c]
     refine⟨z.1,?_⟩
     have hf:=Num.pl_t z.1
     have:=b4 hf.1
     rcases hbound with y|y <;>omega
end Go.Proofs.YtfejobjgbadfjaaGreat.Tak
