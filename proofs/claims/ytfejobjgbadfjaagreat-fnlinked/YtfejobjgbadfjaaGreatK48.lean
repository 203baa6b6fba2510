/- Contracts of this seat's functions, and their mathematics (InvB InvC InvD InvE). -/
import Derived.Test.YtfejobjgbadfjaaGreatK47
import Derived.Test.YtfejobjgbadfjaaGreatK30
set_option linter.unusedVariables false
set_option linter.unusedSimpArgs false
namespace Go.Proofs.YtfejobjgbadfjaaGreat.Wor
open Go.RowKit RowG Hop Roa Pum
theorem OnK.weak {Y:ByteArray}{E E':Bool}{x:Tak.Tk}(h:OnK Y E x)(hE:E=true→E'=true):OnK Y E' x:=⟨h.nx,h.bs,h.pt,fun q=>⟨hE (h.fi q).1,(h.fi q).2⟩⟩
theorem onL_weak {Y:ByteArray}{E E':Bool}{x:Lt}(h:onL Y E x)(hE:E=true→E'=true):onL Y E' x:=fun hb=>by
 obtain⟨h1,h2,h3,h4⟩:=h hb
 exact⟨h1,h2,h3,fun q=>⟨hE (h4 q).1,(h4 q).2⟩⟩
theorem onL_more {Y Z:ByteArray}{E:Bool}{x:Lt}(h:onL Y false x):onL (Y++Z) E x:=fun hb=>by
 obtain⟨h1,h2,h3,h4⟩:=h hb
 have hs:((Y++Z).size:Int)=Y.size+Z.size:=by rw [ByteArray.size_append];omega
 exact⟨h1,by omega,by rw [sub_grow h2];exact h3,fun q=>by have:=(h4 q).1;cases this⟩
theorem hi_post {Y:ByteArray}{h:Hp}{x:Lt}(H:HI Y h)(hx:onL Y h.g.en x)(hb:x.bk=true→x.pl≤h.t.nx):HI Y (postH h x):=by
 unfold postH
 split
 ·refine⟨H.gb,H.ge,H.tk,fun z hz=>?_,fun z hz=>?_,H.ba⟩
  ·rcases List.mem_append.1 hz with q|q
   ·exact H.lt z q
   ·rw [List.mem_singleton.1 q];exact hx
  ·rcases List.mem_append.1 hz with q|q
   ·exact H.bk z q
   ·rw [List.mem_singleton.1 q];exact hb
 ·exact H
theorem hi_send {Y:ByteArray}{h:Hp}(H:HI Y h)(hg:h.g.ok=true)(r p n:Int):HI Y (sendH h r p n).1:=by
 unfold sendH
 split
 ·rename_i hc
  refine hi_post H (fun _=>?_) (fun q=>by cases q)
  have hk:=Giv.ok_iff.1 hg
  have hge:=H.ge
  unfold Giv.offerG at hc ⊢
  split at hc
  ·cases hc
  rename_i h1
  rw [if_neg h1]at *
  split at hc
  ·cases hc
  rename_i h2
  rw [if_neg h2]
  have hs1:p≤Giv.stopG h.g p n:=by unfold Giv.stopG;omega
  have hs2:Giv.stopG h.g p n≤h.g.ba+h.g.bs.size:=by unfold Giv.stopG;omega
  generalize Giv.stopG h.g p n=st at *
  have hsz:((h.g.bs.extract (p-h.g.ba).toNat (st-h.g.ba).toNat).size:Int)=st-p:=by rw [ByteArray.size_extract];omega
  have he:h.g.bs.extract (p-h.g.ba).toNat (st-h.g.ba).toNat=sub Y p st:=by
   have e:=sub_ext (X:=Y) (a:=h.g.ba) (b:=Y.size) (p-h.g.ba).toNat (st-h.g.ba).toNat (by omega) (by omega)
   rw [←H.gb]at e
   rw [e]
   congr 1 <;>omega
  simp only [sendL]
  refine⟨by omega,by rw [hsz];omega,?_,fun q=>?_⟩
  ·rw [hsz,show p+(st-p)=st by omega]
   exact he
  ·simp only [Bool.and_eq_true,decide_eq_true_eq]at q
   exact⟨q.1,by rw [hsz];omega⟩
 ·exact H
theorem hi_out {Y:ByteArray}{h:Hp}(H:HI Y h)(n:Int):HI Y (outH h n).1:=by
 unfold outH
 split
 ·split
  ·refine⟨H.gb,H.ge,H.tk,fun z hz=>H.lt z ?_,fun z hz=>H.bk z ?_,H.ba⟩ <;>
   ·rcases List.mem_append.1 hz with q|q
    ·exact List.mem_of_mem_take q
    ·exact List.mem_of_mem_drop q
  ·exact H
 ·exact H
theorem hi_hear {Y:ByteArray}{h:Hp}(H:HI Y h)(hg:h.g.ok=true){base lm:Int}(hb:base≤h.t.nx)(d:Bool):HI Y ⟨(Giv.hearG h.g base lm d).1,h.t,h.ws⟩:=by
 unfold Giv.hearG
 split
 ·exact⟨H.gb,H.ge,H.tk,H.lt,H.bk,H.ba⟩
 ·rename_i h1
  have hk:=Giv.ok_iff.1 hg
  have hge:=H.ge
  have hs:((h.g.bs.extract (base-h.g.ba).toNat h.g.bs.size).size:Int)=h.g.bs.size-(base-h.g.ba):=by rw [ByteArray.size_extract];omega
  refine⟨?_,?_,H.tk,H.lt,H.bk,hb⟩
  ·show h.g.bs.extract (base-h.g.ba).toNat h.g.bs.size=sub Y base Y.size
   have e:=sub_ext (X:=Y) (a:=h.g.ba) (b:=Y.size) (base-h.g.ba).toNat h.g.bs.size (by omega) (by omega)
   rw [←H.gb]at e
   rw [e]
   congr 1 <;>omega
  ·show base+((h.g.bs.extract (base-h.g.ba).toNat h.g.bs.size).size:Int)=Y.size
   omega
theorem hi_take {Y:ByteArray}{h:Hp}(H:HI Y h)(ht:h.t.ok=true){x:Lt}(hx:onL Y h.g.en x)(hb:x.bk=false):HI Y ⟨h.g,(Tak.takeT h.t x.pl x.bs x.en).1,h.ws⟩:=by
 obtain⟨h1,h2,h3,h4⟩:=hx hb
 obtain⟨k1,k2,k3,k4⟩:=take_on ht H.tk h1 h2 h3 h4
 exact⟨H.gb,H.ge,k1,H.lt,fun z hz hq=>by have:=H.bk z hz hq;dsimp only;omega,by have:=H.ba;dsimp only;omega⟩
theorem hi_come {Y:ByteArray}{h:Hp}(H:HI Y h)(hb:hopB h=true)(n:Int):HI Y (comeH h n).1∧((comeH h n).1.t.nx-(comeH h n).1.t.bs.size=h.t.nx-h.t.bs.size)∧(comeH h n).1.g.en=h.g.en∧(h.t.en=true→(comeH h n).1.t.en=true∧(comeH h n).1.t.bs.size=h.t.bs.size):=by
 obtain⟨o1,o2,o3,o4⟩:=hop_ok hb
 have ho:=hi_out H n
 unfold comeH
 obtain⟨⟨y,x,is⟩,hR⟩: ∃R,outH h n=R:=⟨_,rfl⟩
 rw [hR]at ho ⊢
 cases is
 ·have hy:y=h:=by
   unfold outH at hR
   split at hR
   ·split at hR
    ·simp at hR
    ·simp only [Prod.mk.injEq]at hR;exact hR.1.symm
   ·simp only [Prod.mk.injEq]at hR;exact hR.1.symm
  subst hy
  exact⟨ho,rfl,rfl,fun q=>⟨q,rfl⟩⟩
 ·obtain⟨i1,i2,i3,i4,i5⟩:=outH_in hR
  dsimp only at ho ⊢
  cases hbk:x.bk
  ·have hx:onL Y y.g.en x:=by rw [i2];exact H.lt x i1
   obtain⟨h1,h2,h3,h4⟩:=hx hbk
   have ht:y.t.ok=true:=by rw [i3];exact o3
   obtain⟨k1,k2,k3,k4⟩:=take_on ht ho.tk h1 h2 h3 h4
   rw [if_neg (by decide)]
   refine⟨hi_take ho ht hx hbk,?_,by rw [←i2],fun q=>?_⟩
   ·dsimp only
    rw [k4,i3]
   ·have:=k2 (by rw [i3];exact q)
    dsimp only
    rw [i3]at this
    rw [i3]
    exact this
  ·rw [if_pos rfl]
   have hg:y.g.ok=true:=by rw [i2];exact o2
   refine⟨hi_hear ho hg (by rw [i3];exact H.bk x i1 hbk) x.dn,?_,?_,fun q=>?_⟩
   ·dsimp only
    rw [i3]
   ·rw [←i2]
    unfold Giv.hearG
    split <;>rfl
   ·dsimp only
    rw [i3]
    exact⟨q,rfl⟩
theorem hi_more {Y Z:ByteArray}{h:Hp}(H:HI Y h)(ht:h.t.ok=true){E:Bool}(h1:h.g.en=true→Z.size=0∧E=true):HI (Y++Z) {h with g:={h.g with bs:=h.g.bs++Z,en:=E}}:=by
 have hs:((Y++Z).size:Int)=Y.size+Z.size:=by rw [ByteArray.size_append];omega
 have hs2:((h.g.bs++Z).size:Int)=h.g.bs.size+Z.size:=by rw [ByteArray.size_append];omega
 have hge:=H.ge
 have hgb:h.g.bs++Z=sub (Y++Z) h.g.ba (Y++Z).size:=by
  rw [←sub_app (X:=Y++Z) (a:=h.g.ba) (b:=Y.size) (c:=(Y++Z).size) (by omega) (by omega),sub_grow (Int.le_refl _),←H.gb]
  congr 1
  unfold sub
  rw [show((Y.size:Int)).toNat=Y.size by omega,show(((Y++Z).size:Int)).toNat=(Y++Z).size by omega]
  exact(ByteArray.extract_append_eq_right rfl (by rw [ByteArray.size_append])).symm
 cases he:h.g.en
 ·have k:=H.tk
  rw [he]at k
  have l:=H.lt
  rw [he]at l
  exact⟨hgb,by show h.g.ba+((h.g.bs++Z).size:Int)=_;omega,on_more ht k,fun x hx=>onL_more (l x hx),H.bk,H.ba⟩
 ·obtain⟨h2,rfl⟩:=h1 he
  have hz:Z=ByteArray.empty:=ByteArray.ext (Array.eq_empty_of_size_eq_zero h2)
  subst hz
  have e1:Y++ByteArray.empty=Y:=by simp
  have e2:h.g.bs++ByteArray.empty=h.g.bs:=by simp
  rw [e1,e2]
  exact⟨H.gb,H.ge,H.tk.weak (fun _=>rfl),fun x hx=>onL_weak (H.lt x hx) (fun _=>rfl),H.bk,H.ba⟩
end Go.Proofs.YtfejobjgbadfjaaGreat.Wor
namespace Go.Proofs.YtfejobjgbadfjaaGreat.Wor
open Go.RowKit RowG Hop Roa Pum
def Wd.beg (W:Wd)(i:Nat):Int:=(W.at i).t.nx-(W.at i).t.bs.size
def txt (W:Wd):Nat→ByteArray
 | 0=>W.tx
 | i+1=>sub W.tx 0 (W.beg i)
def Done (W:Wd)(i:Nat):Prop:= ∀j,i≤j→j<3→(W.at j).t.en=true
structure Inv (W:Wd):Prop where
 h: ∀i,i<3→HI (txt W i) (W.at i)
 e0:(W.at 0).g.en=W.en
 ee: ∀i,i<2→(W.at (i+1)).g.en=true→(W.at i).t.en=true∧(W.at i).t.bs.size=0
 rd:W.rd=W.beg 2
 dl: ∀i,i<3→ ∀x∈(W.at i).ws,x.bk=true→x.dn=true→Done W i
 dg: ∀i,i<3→(W.at i).g.dn=true→Done W i
 dw:W.dn=true→Done W 0
theorem at_put {W:Wd}(hl:W.hs.length=3){i j:Nat}(hi:i<3)(y:Hp):(W.put i y).at j=if i=j then y else W.at j:=getD_set (by omega)
theorem tok {W:Wd}(h:okW W=true){i:Nat}(hi:i<3):(W.at i).t.ok=true:=by
 obtain⟨-,-,h3,-⟩:=hop_ok (at_ok (ok_parts.1 h).1 hi).1
 exact h3
theorem gok {W:Wd}(h:okW W=true){i:Nat}(hi:i<3):(W.at i).g.ok=true:=by
 obtain⟨-,h3,-,-⟩:=hop_ok (at_ok (ok_parts.1 h).1 hi).1
 exact h3
theorem len3 {W:Wd}(h:okW W=true):W.hs.length=3:=(hops_iff.1 (ok_parts.1 h).1).1
theorem st_in {W:Wd}(h:okW W=true)(I:Inv W){i:Nat}(hi:i<3):0≤W.beg i∧W.beg i≤(W.at i).t.nx∧(W.at i).t.nx≤(txt W i).size:=by
 have h1:=nx_in (tok h hi)
 have h2:=(I.h i hi).tk.nx
 unfold Wd.beg
 omega
theorem st_le {W:Wd}(h:okW W=true)(I:Inv W): ∀ {i:Nat},i<3→W.beg i≤(W.tx.size:Int)∧((txt W (i+1)).size:Int)=W.beg i
 | 0,hi=>by
  have:=st_in h I hi
  have h2:W.beg 0≤(W.tx.size:Int):=by have:txt W 0=W.tx:=rfl;simp only [this]at *;omega
  exact⟨h2,by show((sub W.tx 0 (W.beg 0)).size:Int)=_;rw [sub_size (Int.le_refl _) (by omega) h2];omega⟩
 | i+1,hi=>by
  have h1:=st_in h I hi
  obtain⟨h2,h3⟩:=st_le h I (show i<3 by omega)
  rw [h3]at h1
  have h4:W.beg (i+1)≤(W.tx.size:Int):=by omega
  exact⟨h4,by show((sub W.tx 0 (W.beg (i+1))).size:Int)=_;rw [sub_size (Int.le_refl _) (by omega) h4];omega⟩
theorem txt_size {W:Wd}(h:okW W=true)(I:Inv W){i:Nat}(hi:i<3):((txt W (i+1)).size:Int)=W.beg i:=(st_le h I hi).2
theorem inv_put {W:Wd}(hl:W.hs.length=3)(I:Inv W){i:Nat}(hi:i<3){y:Hp}(hy:HI (txt W i) y)(hs:y.t.nx-y.t.bs.size=(W.at i).t.nx-(W.at i).t.bs.size)(hge:y.g.en=(W.at i).g.en)
  (hte:(W.at i).t.en=true→y.t.en=true∧y.t.bs.size=(W.at i).t.bs.size) (hdl: ∀x∈y.ws,x.bk=true→x.dn=true→Done W i) (hdg:y.g.dn=true→Done W i):Inv (W.put i y):=by
 have ha:=fun j=>at_put hl (j:=j) hi y
 have hst: ∀j,(W.put i y).beg j=W.beg j:=fun j=>by
  unfold Wd.beg
  rw [ha]
  split
  ·rename_i e
   subst e
   exact hs
  ·rfl
 have htx: ∀j,txt (W.put i y) j=txt W j:=fun j=>by
  cases j with
  | zero=>rfl
  | succ j=>show sub W.tx 0 ((W.put i y).beg j)=sub W.tx 0 (W.beg j);rw [hst]
 have hD: ∀k,Done W k→Done (W.put i y) k:=fun k D j h1 h2=>by
  rw [ha]
  split
  ·rename_i e
   subst e
   exact(hte (D i h1 h2)).1
  ·exact D j h1 h2
 refine⟨fun j hj=>?_,?_,fun j hj hq=>?_,?_,fun j hj x hx hb hd=>?_,fun j hj hq=>?_,fun q=>hD 0 (I.dw q)⟩
 ·rw [htx,ha]
  split
  ·rename_i e
   subst e
   exact hy
  ·exact I.h j hj
 ·rw [ha]
  split
  ·rename_i e
   subst e
   rw [hge]
   exact I.e0
  ·exact I.e0
 ·have hq':(W.at (j+1)).g.en=true:=by
   rw [ha]at hq
   split at hq
   ·rename_i e
    subst e
    rw [←hge]
    exact hq
   ·exact hq
  obtain⟨q1,q2⟩:=I.ee j hj hq'
  rw [ha]
  split
  ·rename_i e
   subst e
   obtain⟨r1,r2⟩:=hte q1
   exact⟨r1,by omega⟩
  ·exact⟨q1,q2⟩
 ·rw [hst]
  exact I.rd
 ·rw [ha]at hx
  split at hx
  ·rename_i e
   subst e
   exact hD i (hdl x hx hb hd)
  ·exact hD j (I.dl j hj x hx hb hd)
 ·rw [ha]at hq
  split at hq
  ·rename_i e
   subst e
   exact hD i (hdg hq)
  ·exact hD j (I.dg j hj hq)
theorem inv_same {W W':Wd}(I:Inv W)(h1:W'.hs=W.hs)(h2:W'.tx=W.tx)(h3:W'.en=W.en)(h4:W'.rd=W.rd)(h5:W'.dn=true→W.dn=true∨Done W 0):Inv W':=by
 have ha: ∀j,W'.at j=W.at j:=fun j=>by unfold Wd.at;rw [h1]
 have hst: ∀j,W'.beg j=W.beg j:=fun j=>by unfold Wd.beg;rw [ha]
 have htx: ∀j,txt W' j=txt W j:=fun j=>by
  cases j with
  | zero=>exact h2
  | succ j=>show sub W'.tx 0 (W'.beg j)=sub W.tx 0 (W.beg j);rw [hst,h2]
 have hD: ∀k,Done W k→Done W' k:=fun k D j q1 q2=>by rw [ha];exact D j q1 q2
 exact⟨fun j hj=>by rw [htx,ha];exact I.h j hj,by rw [ha,h3];exact I.e0,fun j hj hq=>by rw [ha]at hq ⊢;exact I.ee j hj hq,by rw [hst,h4];exact I.rd,fun j hj x hx hb hd=>hD j (I.dl j hj x (by rw [ha]at hx;exact hx) hb hd),fun j hj hq=>hD j (I.dg j hj (by rw [ha]at hq;exact hq)),fun q=>hD 0 ((h5 q).elim I.dw id)⟩
theorem post_g (h:Hp)(x:Lt):(postH h x).g=h.g∧(postH h x).t=h.t:=by unfold postH;split <;>exact⟨rfl,rfl⟩
theorem inv_hop {W:Wd}(h:okW W=true)(I:Inv W){i:Nat}(hi:i<3){x:Lt}(hx:onL (txt W i) (W.at i).g.en x)(hb:x.bk=true→x.pl≤(W.at i).t.nx∧(x.dn=true→Done W i)):Inv (W.put i (postH (W.at i) x)):=by
 obtain⟨e1,e2⟩:=post_g (W.at i) x
 refine inv_put (len3 h) I hi (hi_post (I.h i hi) hx (fun q=>(hb q).1)) (by rw [e2]) (by rw [e1]) (fun q=>by rw [e2];exact⟨q,rfl⟩) (fun z hz hq hd=>?_) (fun q=>I.dg i hi (by rw [e1]at q;exact q))
 rcases post_ws hz with r|r
 ·exact I.dl i hi z r hq hd
 ·rw [r]at hq hd
  exact(hb hq).2 hd
theorem inv_send {W:Wd}(h:okW W=true)(I:Inv W){i:Nat}(hi:i<3)(r p n:Int):Inv (W.put i (sendH (W.at i) r p n).1):=by
 have H:=hi_send (I.h i hi) (gok h hi) r p n
 unfold sendH at H ⊢
 split
 ·rename_i hc
  rw [if_pos hc]at H
  obtain⟨e1,e2⟩:=post_g (W.at i) (sendL (Giv.offerG (W.at i).g p n) r)
  refine inv_put (len3 h) I hi H (by rw [e2]) (by rw [e1]) (fun q=>by rw [e2];exact⟨q,rfl⟩) (fun z hz hq hd=>?_) (fun q=>I.dg i hi (by rw [e1]at q;exact q))
  rcases post_ws hz with s|s
  ·exact I.dl i hi z s hq hd
  ·rw [s]at hq;cases hq
 ·exact inv_put (len3 h) I hi (I.h i hi) rfl rfl (fun q=>⟨q,rfl⟩) (I.dl i hi) (I.dg i hi)
theorem inv_tell {W:Wd}(h:okW W=true)(I:Inv W){i:Nat}(hi:i<3)(r:Int):Inv (W.put i (tellH (W.at i) r (mayB W i)).1):=by
 refine inv_hop h I hi (fun q=>by cases q) (fun _=>⟨Int.le_refl _,fun hd=>?_⟩)
 simp only [tellL,mayB,Bool.and_eq_true,Bool.or_eq_true,decide_eq_true_eq]at hd
 obtain⟨⟨h1,h2⟩,-⟩:=hd
 intro j hj hj3
 by_cases e:i=j
 ·subst e;exact h1
 ·rcases h2 with q|q
  ·omega
  ·exact I.dg (i+1) (by omega) q j (by omega) hj3
theorem inv_out {W:Wd}(h:okW W=true)(I:Inv W){i:Nat}(hi:i<3)(n:Int):Inv (W.put i (outH (W.at i) n).1):=by
 have e:(outH (W.at i) n).1.g=(W.at i).g∧(outH (W.at i) n).1.t=(W.at i).t:=by
  unfold outH
  split
  ·split <;>exact⟨rfl,rfl⟩
  ·exact⟨rfl,rfl⟩
 exact inv_put (len3 h) I hi (hi_out (I.h i hi) n) (by rw [e.2]) (by rw [e.1]) (fun q=>by rw [e.2];exact⟨q,rfl⟩) (fun z hz=>I.dl i hi z (out_ws hz)) (fun q=>I.dg i hi (by rw [e.1]at q;exact q))
theorem inv_come {W:Wd}(h:okW W=true)(I:Inv W){i:Nat}(hi:i<3)(n:Int):Inv (W.put i (comeH (W.at i) n).1):=by
 obtain⟨k1,k2,k3,k4⟩:=hi_come (I.h i hi) (at_ok (ok_parts.1 h).1 hi).1 n
 refine inv_put (len3 h) I hi k1 k2 k3 k4 (fun z hz=>I.dl i hi z (come_ws hz)) (fun q=>?_)
 unfold comeH at q
 obtain⟨⟨y,x,is⟩,hR⟩: ∃R,outH (W.at i) n=R:=⟨_,rfl⟩
 rw [hR]at q
 cases is
 ·have:=hi_out (I.h i hi) n
  have hy:y.g=(W.at i).g:=by
   unfold outH at hR
   split at hR
   ·split at hR
    ·simp at hR
    ·simp only [Prod.mk.injEq]at hR;rw [←hR.1]
   ·simp only [Prod.mk.injEq]at hR;rw [←hR.1]
  exact I.dg i hi (by rw [←hy];exact q)
 ·obtain⟨i1,i2,i3,i4,i5⟩:=outH_in hR
  dsimp only at q
  split at q
  ·rename_i hb
   dsimp only at q
   unfold Giv.hearG at q
   split at q
   ·exact I.dg i hi (by rw [←i2];exact q)
   ·dsimp only at q
    rw [Bool.or_eq_true]at q
    rcases q with q|q
    ·exact I.dg i hi (by rw [←i2];exact q)
    ·unfold Giv.dnB at q
     rw [Bool.and_eq_true]at q
     exact I.dl i hi x i1 hb q.1
  ·exact I.dg i hi (by rw [←i2];exact q)
end Go.Proofs.YtfejobjgbadfjaaGreat.Wor
namespace Go.Proofs.YtfejobjgbadfjaaGreat.Wor
open Go.RowKit RowG Hop Roa Pum
theorem inv_pump {W:Wd}(h:okW W=true)(I:Inv W){i:Nat}(hi:i<2){n:Int}(hn:0≤n):Inv (pumpW W i n).1:=by
 have hl:=len3 h
 have hti:=tok h (show i<3 by omega)
 have hgi:=gok h (show i+1<3 by omega)
 obtain⟨m0,m1,m2⟩:=move_in (t:=(W.at i).t) (n:=n) hgi hn
 have hk0:(W.at (i+1)).g.en=true→moveN (W.at i).t (W.at (i+1)).g n=0:=fun q=>by
  have:canP (W.at i).t (W.at (i+1)).g=0:=by unfold canP;rw [if_pos q]
  unfold moveN
  omega
 unfold pumpW
 dsimp only
 generalize moveN (W.at i).t (W.at (i+1)).g n=k at *
 obtain⟨l1,l2,l3,l4⟩:=left_on hti (I.h i (by omega)).tk (k:=k) m0 m1
 have hst:=st_in h I (show i<3 by omega)
 have hsl:=st_le h I (show i<3 by omega)
 have hsub:sub W.tx 0 (W.beg i+k)=txt W (i+1)++(W.at i).t.bs.extract 0 k.toNat:=by
  rw [l4]
  have hw:sub (txt W i) ((W.at i).t.nx-(W.at i).t.bs.size) ((W.at i).t.nx-(W.at i).t.bs.size+k)=sub W.tx (W.beg i) (W.beg i+k):=by
   cases i with
   | zero=>rfl
   | succ i=>
    have h2:=st_le h I (show i<3 by omega)
    refine sub_sub (X:=W.tx) (m:=W.beg i) (a:=W.beg (i+1)) (b:=W.beg (i+1)+k) (by omega) ?_
    have:=hst.2.2
    rw [h2.2]at this
    unfold Wd.beg at *
    omega
  rw [hw]
  exact(sub_app (by omega) (by omega)).symm
 have hen:(W.at (i+1)).g.en=true→((W.at i).t.bs.extract 0 k.toNat).size=0∧((W.at (i+1)).g.en||((W.at i).t.en&&decide (((W.at i).t.bs.size:Int)=k)))=true:=fun q=>by
  rw [hk0 q,q]
  exact⟨by simp,by simp⟩
 have hnew:=hi_more (Z:=(W.at i).t.bs.extract 0 k.toNat) (I.h (i+1) (by omega)) (tok h (show i+1<3 by omega)) hen
 have hl1:(W.put i {W.at i with t:=leftT (W.at i).t k}).hs.length=3:=by simp [Wd.put,hl]
 have ha: ∀j,((W.put i {W.at i with t:=leftT (W.at i).t k}).put (i+1) {W.at (i+1)with g:=moreG (W.at i).t (W.at (i+1)).g k}).at j=if i+1=j then {W.at (i+1)with g:=moreG (W.at i).t (W.at (i+1)).g k}else if i=j then {W.at i with t:=leftT (W.at i).t k}else W.at j:=fun j=>by
  rw [at_put hl1 (by omega),at_put hl (by omega)]
 generalize hW':(W.put i {W.at i with t:=leftT (W.at i).t k}).put (i+1) {W.at (i+1)with g:=moreG (W.at i).t (W.at (i+1)).g k}=W' at *
 have htx0:W'.tx=W.tx:=by rw [←hW'];rfl
 have hen0:W'.en=W.en:=by rw [←hW'];rfl
 have hrd0:W'.rd=W.rd:=by rw [←hW'];rfl
 have hdn0:W'.dn=W.dn:=by rw [←hW'];rfl
 clear hW'
 have hst': ∀j,W'.beg j=if i=j then W.beg i+k else W.beg j:=fun j=>by
  unfold Wd.beg
  rw [ha]
  split
  ·rename_i e
   subst e
   rw [if_neg (by omega)]
  ·split
   ·rename_i e
    subst e
    exact l2
   ·rfl
 have hen': ∀j,(W'.at j).t.en=(W.at j).t.en:=fun j=>by
  rw [ha]
  split
  ·rename_i e;subst e;rfl
  ·split
   ·rename_i e;subst e;rfl
   ·rfl
 have hD: ∀q,Done W q→Done W' q:=fun q D j h1 h2=>by rw [hen'];exact D j h1 h2
 refine⟨fun j hj=>?_,?_,fun j hj hq=>?_,?_,fun j hj x hx hb hd=>?_,fun j hj hq=>?_,fun q=>hD 0 (I.dw (by rw [←hdn0];exact q))⟩
 ·have htj:txt W' j=if j=i+1 then txt W (i+1)++(W.at i).t.bs.extract 0 k.toNat else txt W j:=by
   cases j with
   | zero=>rw [if_neg (by omega)];exact htx0
   | succ j=>
    show sub W'.tx 0 (W'.beg j)=_
    rw [htx0,hst']
    by_cases e:i=j
    ·subst e
     rw [if_pos rfl,if_pos rfl]
     exact hsub
    ·rw [if_neg e,if_neg (by omega)]
     rfl
  rw [htj,ha]
  by_cases e1:i+1=j
  ·subst e1
   rw [if_pos rfl,if_pos rfl]
   exact hnew
  ·rw [if_neg (fun q=>e1 q.symm),if_neg e1]
   by_cases e2:i=j
   ·subst e2
    rw [if_pos rfl]
    have H:=I.h i hj
    exact⟨H.gb,H.ge,l1,H.lt,H.bk,H.ba⟩
   ·rw [if_neg e2]
    exact I.h j hj
 ·rw [ha,if_neg (by omega),hen0]
  split
  ·rename_i e;subst e;exact I.e0
  ·exact I.e0
 ·by_cases e:i=j
  ·subst e
   rw [ha,if_pos rfl]at hq
   rw [ha,if_neg (by omega),if_pos rfl]
   show(W.at i).t.en=true∧(leftT (W.at i).t k).bs.size=0
   simp only [moreG,Bool.or_eq_true,Bool.and_eq_true,decide_eq_true_eq]at hq
   rcases hq with q|⟨q1,q2⟩
   ·obtain⟨r1,r2⟩:=I.ee i hj q
    exact⟨r1,by omega⟩
   ·exact⟨q1,by omega⟩
  ·have hq':(W.at (j+1)).g.en=true:=by
    rw [ha,if_neg (by omega)]at hq
    split at hq
    ·rename_i e2;subst e2;exact hq
    ·exact hq
   obtain⟨r1,r2⟩:=I.ee j hj hq'
   rw [ha]
   split
   ·rename_i e2;subst e2;exact⟨r1,r2⟩
   ·exact⟨r1,r2⟩
 ·rw [hst',if_neg (by omega),hrd0]
  exact I.rd
 ·have hx':x∈(W.at j).ws:=by
   rw [ha]at hx
   split at hx
   ·rename_i e;subst e;exact hx
   ·split at hx
    ·rename_i e;subst e;exact hx
    ·exact hx
  exact hD j (I.dl j hj x hx' hb hd)
 ·have hq':(W.at j).g.dn=true:=by
   rw [ha]at hq
   split at hq
   ·rename_i e;subst e;exact hq
   ·split at hq
    ·rename_i e;subst e;exact hq
    ·exact hq
  exact hD j (I.dg j hj hq')
theorem inv_hopW {W:Wd}(h:okW W=true)(I:Inv W)(a:Ac){i:Nat}(hi:i<3)(hp:(i:Int)=a.hp):Inv (hopW W a i).1:=by
 unfold hopW
 split
 ·split
  ·exact inv_send h I hi _ _ _
  ·exact I
 split
 ·split
  ·exact inv_tell h I hi _
  ·exact I
 split
 ·split
  ·exact I
  ·split
   ·exact inv_come h I hi _
   ·exact I
 split
 ·exact inv_out h I hi _
 split
 ·split
  ·exact I
  ·rename_i x hx
   have hm:x∈(W.at i).ws:=by
    split at hx
    ·exact List.mem_of_getElem? hx
    ·cases hx
   exact inv_hop h I hi ((I.h i hi).lt x hm) (fun q=>⟨(I.h i hi).bk x hm q,I.dl i hi x hm q⟩)
 split
 ·rename_i hc
  exact inv_pump h I (by omega) hc.2.1
 ·exact I
theorem inv_read {W:Wd}(h:okW W=true)(I:Inv W)(n:Int):Inv (readW W n).1:=by
 unfold readW
 split
 ·exact I
 rename_i hn
 dsimp only
 have m0:0≤min n ((W.at 2).t.bs.size:Int):=by omega
 have m1:min n ((W.at 2).t.bs.size:Int)≤(W.at 2).t.bs.size:=by omega
 generalize min n ((W.at 2).t.bs.size:Int)=m at *
 split
 ·exact I
 have hl:=len3 h
 obtain⟨l1,l2,l3,l4⟩:=left_on (tok h (show 2<3 by omega)) (I.h 2 (by omega)).tk (k:=m) m0 m1
 have J:Inv {W.put 2 {W.at 2 with t:=leftT (W.at 2).t m}with rd:=W.rd+m}:=by
  have ha: ∀j,({W.put 2 {W.at 2 with t:=leftT (W.at 2).t m}with rd:=W.rd+m}:Wd).at j=if 2=j then {W.at 2 with t:=leftT (W.at 2).t m}else W.at j:=fun j=>at_put hl (by omega) _
  generalize hW':({W.put 2 {W.at 2 with t:=leftT (W.at 2).t m}with rd:=W.rd+m}:Wd)=W' at *
  have htx0:W'.tx=W.tx:=by rw [←hW'];rfl
  have hen0:W'.en=W.en:=by rw [←hW'];rfl
  have hrd0:W'.rd=W.rd+m:=by rw [←hW']
  have hdn0:W'.dn=W.dn:=by rw [←hW'];rfl
  clear hW'
  have hst': ∀j,j<2→W'.beg j=W.beg j:=fun j hj=>by unfold Wd.beg;rw [ha,if_neg (by omega)]
  have hen': ∀j,(W'.at j).t.en=(W.at j).t.en:=fun j=>by
   rw [ha]
   split
   ·rename_i e;subst e;rfl
   ·rfl
  have hD: ∀q,Done W q→Done W' q:=fun q D j h1 h2=>by rw [hen'];exact D j h1 h2
  refine⟨fun j hj=>?_,by rw [ha,if_neg (by omega),hen0];exact I.e0,fun j hj hq=>?_,?_,fun j hj x hx hb hd=>?_,fun j hj hq=>?_,fun q=>hD 0 (I.dw (by rw [←hdn0];exact q))⟩
  ·have htj:txt W' j=txt W j:=by
    cases j with
    | zero=>exact htx0
    | succ j=>show sub W'.tx 0 (W'.beg j)=sub W.tx 0 (W.beg j);rw [htx0,hst' j (by omega)]
   rw [htj,ha]
   split
   ·rename_i e
    subst e
    have H:=I.h 2 hj
    exact⟨H.gb,H.ge,l1,H.lt,H.bk,H.ba⟩
   ·exact I.h j hj
  ·have hq':(W.at (j+1)).g.en=true:=by
    rw [ha]at hq
    split at hq
    ·rename_i e;rw [←e];exact hq
    ·exact hq
   rw [ha,if_neg (by omega)]
   exact I.ee j hj hq'
  ·unfold Wd.beg
   rw [ha,if_pos rfl,hrd0,I.rd]
   unfold Wd.beg
   dsimp only
   omega
  ·have hx':x∈(W.at j).ws:=by
    rw [ha]at hx
    split at hx
    ·rename_i e;subst e;exact hx
    ·exact hx
   exact hD j (I.dl j hj x hx' hb hd)
  ·have hq':(W.at j).g.dn=true:=by
    rw [ha]at hq
    split at hq
    ·rename_i e;subst e;exact hq
    ·exact hq
   exact hD j (I.dg j hj hq')
 split
 ·unfold tellW
  split
  ·rw [if_pos rfl]
   exact inv_same J rfl rfl rfl rfl (fun q=>.inl q)
  ·exact J
 ·exact J
theorem inv_first {W:Wd}(h:okW W=true)(I:Inv W)(Z:ByteArray){E:Bool}(h1:W.en=true→Z.size=0∧E=true):
  Inv {W.put 0 {W.at 0 with g:={(W.at 0).g with bs:=(W.at 0).g.bs++Z,en:=E}}with tx:=W.tx++Z,en:=E}:=by
 have hl:=len3 h
 have ha: ∀j,({W.put 0 {W.at 0 with g:={(W.at 0).g with bs:=(W.at 0).g.bs++Z,en:=E}}with tx:=W.tx++Z,en:=E}:Wd).at j=if 0=j then {W.at 0 with g:={(W.at 0).g with bs:=(W.at 0).g.bs++Z,en:=E}}else W.at j:=fun j=>at_put hl (by omega) _
 generalize hW':({W.put 0 {W.at 0 with g:={(W.at 0).g with bs:=(W.at 0).g.bs++Z,en:=E}}with tx:=W.tx++Z,en:=E}:Wd)=W' at *
 have htx0:W'.tx=W.tx++Z:=by rw [←hW']
 have hen0:W'.en=E:=by rw [←hW']
 have hrd0:W'.rd=W.rd:=by rw [←hW'];rfl
 have hdn0:W'.dn=W.dn:=by rw [←hW'];rfl
 clear hW'
 have ht': ∀j,(W'.at j).t=(W.at j).t∧(W'.at j).ws=(W.at j).ws:=fun j=>by
  rw [ha]
  split
  ·rename_i e;subst e;exact⟨rfl,rfl⟩
  ·exact⟨rfl,rfl⟩
 have hst': ∀j,W'.beg j=W.beg j:=fun j=>by unfold Wd.beg;rw [(ht' j).1]
 have hD: ∀q,Done W q→Done W' q:=fun q D j h1 h2=>by rw [(ht' j).1];exact D j h1 h2
 refine⟨fun j hj=>?_,by rw [ha,if_pos rfl,hen0],fun j hj hq=>?_,by rw [hst',hrd0];exact I.rd,fun j hj x hx hb hd=>hD j (I.dl j hj x (by rw [(ht' j).2]at hx;exact hx) hb hd),fun j hj hq=>?_,fun q=>hD 0 (I.dw (by rw [←hdn0];exact q))⟩
 ·cases j with
  | zero=>
   rw [ha,if_pos rfl]
   show HI W'.tx _
   rw [htx0]
   exact hi_more (I.h 0 hj) (tok h hj) (fun q=>h1 (by rw [←I.e0];exact q))
  | succ j=>
   rw [ha,if_neg (by omega)]
   have e:txt W' (j+1)=txt W (j+1):=by
    show sub W'.tx 0 (W'.beg j)=sub W.tx 0 (W.beg j)
    rw [htx0,hst']
    exact sub_grow (st_le h I (show j<3 by omega)).1
   rw [e]
   exact I.h (j+1) hj
 ·rw [ha,if_neg (by omega)]at hq
  rw [(ht' j).1]
  exact I.ee j hj hq
 ·have hq':(W.at j).g.dn=true:=by
   rw [ha]at hq
   split at hq
   ·rename_i e;subst e;exact hq
   ·exact hq
  exact hD j (I.dg j hj hq')
theorem inv_do {W:Wd}(h:okW W=true)(I:Inv W)(a:Ac)(ha:a.kd=1→(doW W a).2=true):Inv (doW W a).1:=by
 unfold doW at ha ⊢
 split
 ·rename_i h1
  have ha:=ha h1
  rw [if_pos h1]at ha
  dsimp only at ha ⊢
  split
  ·rename_i h2
   rw [if_pos h2]at ha
   split
   ·rename_i h3
    rw [if_pos h3]at ha
    cases ha
   ·rename_i h3
    simp only [Bool.or_eq_true,decide_eq_true_eq,not_or,Bool.not_eq_true]at h3
    have hge:(W.at 0).g.en=false:=I.e0.trans h3.1
    have hw:(Giv.writeG (W.at 0).g a.tx).1={(W.at 0).g with bs:=(W.at 0).g.bs++a.tx.extract 0 (Giv.fitN (W.at 0).g a.tx).toNat}∧(Giv.writeG (W.at 0).g a.tx).2=Giv.fitN (W.at 0).g a.tx:=by
     unfold Giv.writeG
     rw [if_neg (by rw [hge];decide)]
     exact⟨rfl,rfl⟩
    have k:=inv_first h I (a.tx.extract 0 (Giv.fitN (W.at 0).g a.tx).toNat) (E:=W.en) (fun q=>by rw [h3.1]at q;cases q)
    rw [hw.1,hw.2]
    have e:({(W.at 0).g with bs:=(W.at 0).g.bs++a.tx.extract 0 (Giv.fitN (W.at 0).g a.tx).toNat,en:=W.en}:Giv.Gv)={(W.at 0).g with bs:=(W.at 0).g.bs++a.tx.extract 0 (Giv.fitN (W.at 0).g a.tx).toNat}:=by rw [←I.e0]
    rw [e]at k
    exact k
  ·rename_i h2
   rw [if_neg h2]at ha
   cases ha
 split
 ·split
  ·exact I
  ·rename_i h3
   simp only [Bool.or_eq_true,not_or,Bool.not_eq_true]at h3
   have k:=inv_first h I ByteArray.empty (E:=true) (fun q=>⟨rfl,rfl⟩)
   have e1:W.tx++ByteArray.empty=W.tx:=by simp
   have e2:(W.at 0).g.bs++ByteArray.empty=(W.at 0).g.bs:=by simp
   rw [e1,e2]at k
   exact k
 split
 ·split
  ·rename_i h3
   exact inv_hopW h I a (by omega) (by omega)
  ·exact I
 split
 ·exact inv_read h I _
 split
 ·exact inv_same I rfl rfl rfl rfl (fun q=>.inl q)
 split
 ·split
  ·rename_i hd
   unfold tellW
   split
   ·rw [if_neg (by decide)]
    exact inv_same I rfl rfl rfl rfl (fun _=>.inr (I.dg 0 (by omega) hd))
   ·exact I
  ·exact I
 ·exact I
theorem inv_happen {W:Wd}(h:okW W=true)(I:Inv W)(a:Ac):Inv (happenW W a).1:=by
 unfold happenW
 split
 ·rename_i q
  exact inv_do h I a (fun _=>q)
 ·exact I
theorem end_all {W:Wd}(h:okW W=true)(I:Inv W): ∀ {i:Nat},i<3→(W.at i).g.en=true→W.en=true∧(txt W i).size=W.tx.size
 | 0,_,q=>⟨by rw [←I.e0];exact q,rfl⟩
 | i+1,hi,q=>by
  obtain⟨h1,h2⟩:=I.ee i (by omega) q
  have ht:=tok h (show i<3 by omega)
  have h3:=(en_iff ht).1 h1
  have h4:=nx_in ht
  obtain⟨h5,h6⟩:=(I.h i (by omega)).tk.fi (by omega)
  obtain⟨h7,h8⟩:=end_all h I (by omega) h5
  have h9:=txt_size h I (show i<3 by omega)
  unfold Wd.beg at h9
  exact⟨h7,by omega⟩
theorem end_known {W:Wd}(h:okW W=true)(I:Inv W){i:Nat}(hi:i<3)(hf:0≤(W.at i).t.fi):W.en=true∧(W.at i).t.fi=W.tx.size:=by
 obtain⟨h1,h2⟩:=(I.h i hi).tk.fi hf
 obtain⟨h3,h4⟩:=end_all h I hi h1
 exact⟨h3,by omega⟩
theorem end_there {W:Wd}(h:okW W=true)(I:Inv W){i:Nat}(hi:i<3)(he:(W.at i).t.en=true):W.en=true∧(W.at i).t.nx=W.tx.size:=by
 have h1:=(en_iff (tok h hi)).1 he
 have h2:=nx_in (tok h hi)
 obtain⟨h3,h4⟩:=end_known h I hi (by omega)
 exact⟨h3,by omega⟩
end Go.Proofs.YtfejobjgbadfjaaGreat.Wor
namespace Go.Proofs.YtfejobjgbadfjaaGreat.Wor
open Go.RowKit RowG Hop Roa Pum Lin
theorem hi_new (x:Int×Int):HI ⟨#[]⟩ (toHp x):=by
 refine⟨rfl,rfl,⟨Int.le_refl _,rfl,fun q hq=>(by cases hq),fun q=>?_⟩,fun x hx=>(by cases hx),fun x hx=>(by cases hx),Int.le_refl _⟩
 exact absurd q (by show ¬(0:Int)≤ -1;omega)
theorem new_at (l:List Int)(n:Int){i:Nat}(hi:i<3): ∃x,(newW l n).at i=toHp x:=by
 have hl:i<((newHs l 3).map toHp).length:=by rw [List.length_map,newHs_len];exact hi
 refine⟨(newHs l 3)[i]'(by rw [newHs_len];exact hi),?_⟩
 show((newHs l 3).map toHp).getD i zeroH=_
 rw [List.getD_eq_getElem?_getD,List.getElem?_eq_getElem hl]
 simp
theorem inv_new (l:List Int)(n:Int):Inv (newW l n):=by
 have ht: ∀i,i<3→txt (newW l n) i=⟨#[]⟩:=fun i hi=>by
  cases i with
  | zero=>rfl
  | succ i=>
   obtain⟨x,hx⟩:=new_at l n (show i<3 by omega)
   show sub ⟨#[]⟩ 0 ((newW l n).beg i)=⟨#[]⟩
   unfold Wd.beg
   rw [hx]
   rfl
 refine⟨fun i hi=>?_,?_,fun i hi hq=>?_,?_,fun i hi x hx=>?_,fun i hi hq=>?_,fun q=>by cases q⟩
 ·obtain⟨x,hx⟩:=new_at l n hi
  rw [ht i hi,hx]
  exact hi_new x
 ·obtain⟨x,hx⟩:=new_at l n (show 0<3 by omega)
  rw [hx]
  rfl
 ·obtain⟨x,hx⟩:=new_at l n (show i+1<3 by omega)
  rw [hx]at hq
  cases hq
 ·obtain⟨x,hx⟩:=new_at l n (show 2<3 by omega)
  unfold Wd.beg
  rw [hx]
  rfl
 ·obtain⟨y,hy⟩:=new_at l n hi
  rw [hy]at hx
  cases hx
 ·obtain⟨y,hy⟩:=new_at l n hi
  rw [hy]at hq
  cases hq
theorem ok_inv_all {W:Wd}(h:okW W=true)(I:Inv W): ∀l:List Ac,okW (l.foldl (fun W a=>(happenW W a).1) W)=true∧Inv (l.foldl (fun W a=>(happenW W a).1) W)
 | []=>⟨h,I⟩
 | a::l=>ok_inv_all (ok_happen h a) (inv_happen h I a) l
theorem seen_last {W:Wd}(h:okW W=true)(I:Inv W)(hd:W.sn=true∨((W.at 2).t.en=true∧(W.at 2).t.bs.size=0)):W.en=true∧W.rd=W.tx.size:=by
 rcases hd with q|⟨q1,q2⟩
 ·exact(stream_iff.1 (ok_parts.1 h).2).2.2.1 q
 ·obtain⟨h2,h3⟩:=end_there h I (show 2<3 by omega) q1
  refine⟨h2,?_⟩
  rw [I.rd]
  unfold Wd.beg
  omega
theorem hang {W:Wd}(h:okW W=true)(I:Inv W):(∀i,i<3→(W.at i).g.ba≤(W.at i).t.nx∧(W.at i).t.nx≤(W.at i).g.ba+(W.at i).g.bs.size)∧(∀i,i<2→(W.at (i+1)).g.ba+(W.at (i+1)).g.bs.size=W.beg i)∧(W.at 0).g.ba+(W.at 0).g.bs.size=W.tx.size∧W.rd=W.beg 2:=by
 refine⟨fun i hi=>?_,fun i hi=>?_,(I.h 0 (by omega)).ge,I.rd⟩
 ·have h1:=(I.h i hi).ba
  have h2:=(I.h i hi).ge
  have h3:=(I.h i hi).tk.nx
  omega
 ·rw [(I.h (i+1) (by omega)).ge]
  exact txt_size h I (by omega)
theorem room {W:Wd}(h:okW W=true)(I:Inv W):0≤(W.tx.size:Int)-W.rd∧(W.tx.size:Int)-W.rd≤((W.at 0).g.cp+(W.at 0).t.cp)+((W.at 1).g.cp+(W.at 1).t.cp)+((W.at 2).g.cp+(W.at 2).t.cp):=by
 obtain⟨h1,h2,h3,h4⟩:=hang h I
 have s0:=h2 0 (by omega)
 have s1:=h2 1 (by omega)
 have a0:=h1 0 (by omega)
 have a1:=h1 1 (by omega)
 have a2:=h1 2 (by omega)
 have g0:=Giv.ok_iff.1 (gok h (show 0<3 by omega))
 have g1:=Giv.ok_iff.1 (gok h (show 1<3 by omega))
 have g2:=Giv.ok_iff.1 (gok h (show 2<3 by omega))
 have t0:=(Tak.ok_iff.1 (tok h (show 0<3 by omega))).1.2.2.1
 have t1:=(Tak.ok_iff.1 (tok h (show 1<3 by omega))).1.2.2.1
 have t2:=(Tak.ok_iff.1 (tok h (show 2<3 by omega))).1.2.2.1
 have hs:=(stream_iff.1 (ok_parts.1 h).2).2.1
 unfold Wd.beg at s0 s1 h4
 simp only [Nat.zero_add,Nat.reduceAdd]at s0 s1
 omega
theorem giver_text {W:Wd}(h:okW W=true)(I:Inv W){i:Nat}(hi:i<3):(W.at i).g.bs=W.tx.extract (W.at i).g.ba.toNat ((W.at i).g.ba+(W.at i).g.bs.size).toNat∧0≤(W.at i).g.ba∧(W.at i).g.ba+(W.at i).g.bs.size≤(W.tx.size:Int):=by
 have hb:=(I.h i hi).gb
 have he:=(I.h i hi).ge
 have hg:=Giv.ok_iff.1 (gok h hi)
 cases i with
 | zero=>
  refine⟨?_,by omega,by rw [he];exact Int.le_refl _⟩
  rw [he]
  exact hb
 | succ i=>
  have hs:=st_le h I (show i<3 by omega)
  refine⟨?_,by omega,by omega⟩
  rw [he]
  have e:txt W (i+1)=sub W.tx 0 (W.beg i):=rfl
  have k:=sub_sub (X:=W.tx) (m:=W.beg i) (a:=(W.at (i+1)).g.ba) (b:=((txt W (i+1)).size:Int)) (by omega) (by omega)
  rw [←e]at k
  rw [k]at hb
  exact hb
end Go.Proofs.YtfejobjgbadfjaaGreat.Wor
