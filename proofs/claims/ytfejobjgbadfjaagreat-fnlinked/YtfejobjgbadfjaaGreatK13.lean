/- Contracts of this seat's functions, and their mathematics (HopIL HopJL HopDL HopEL TakL TakO HopK RowS). -/
import Derived.Test.YtfejobjgbadfjaaGreatK10
import Derived.Test.YtfejobjgbadfjaaGreatK7
import Derived.Test.YtfejobjgbadfjaaGreatK12
import Derived.Test.YtfejobjgbadfjaaGreatK8
import Derived.Test.YtfejobjgbadfjaaGreatK9
import Derived.Test.YtfejobjgbadfjaaGreatK11
import Derived.Test.YtfejobjgbadfjaaGreatK4
set_option linter.unusedVariables false
set_option linter.unusedSimpArgs false
namespace Go.Proofs.YtfejobjgbadfjaaGreat.Hop
open Go.RowKit RowG
end Go.Proofs.YtfejobjgbadfjaaGreat.Hop
namespace Go.Proofs.YtfejobjgbadfjaaGreat.Hop
open Go.RowKit RowG
end Go.Proofs.YtfejobjgbadfjaaGreat.Hop
namespace Go.Proofs.YtfejobjgbadfjaaGreat.Hop
open Go.RowKit RowG
end Go.Proofs.YtfejobjgbadfjaaGreat.Hop
namespace Go.Proofs.YtfejobjgbadfjaaGreat.Hop
open Go.RowKit RowG
end Go.Proofs.YtfejobjgbadfjaaGreat.Hop
namespace Go.Proofs.YtfejobjgbadfjaaGreat.Tak
theorem take_good {t:Tk}{p:Int}{bz:ByteArray}{e:Bool}(hb: ¬takeBad t p bz e){L:List Pt}{fr:Int}{b:Bool}(hf:foldK t.nx (limT t.nx t.bs t.cp) p bz t.l (bz.size+1)=(L,fr,b)):
  takeT t p bz e=(⟨(joinT t.nx t.bs L).1,(joinT t.nx t.bs L).2.1,(joinT t.nx t.bs L).2.2,t.cp,(if e=true∧t.fi<0 then p+bz.size else t.fi),decide ((if e=true∧t.fi<0 then p+bz.size else t.fi)=(joinT t.nx t.bs L).1)⟩,b||(e&&decide (t.fi<0))):=by
 simp only [takeT]
 rw [if_neg hb,hf]
theorem take_bad {t:Tk}{p:Int}{bz:ByteArray}{e:Bool}(hb:takeBad t p bz e):takeT t p bz e=(t,false):=by
 simp only [takeT]
 rw [if_pos hb]
theorem bad_not {t:Tk}{p:Int}{bz:ByteArray}{e:Bool}(hb: ¬takeBad t p bz e):(0≤p∧p≤1000000000)∧(0≤p+bz.size∧p+bz.size≤1000000000)∧bz.size≤40∧(0≤t.fi→p+bz.size≤t.fi)∧(e=true→lastEnd t.nx t.l≤p+bz.size∧(0≤t.fi→t.fi=p+bz.size)):=by
 unfold takeBad at hb
 simp only [not_or,not_and]at hb
 obtain⟨b1,b2,b3,b4,b5⟩:=hb
 have hp:=Num.pl_t (by simpa using b1:Num.plB p=true)
 have hs:=Num.pl_t (by simpa using b2:Num.plB (p+bz.size)=true)
 refine⟨hp,hs,by omega,fun h=>by have:=b4 h;omega,fun h=>⟨by have:=(b5 h).1;omega,fun q=>?_⟩⟩
 have:=(b5 h).2 q
 omega
theorem take_facts {t:Tk}(h:t.ok=true){p:Int}{bz:ByteArray}{e:Bool}(hb: ¬takeBad t p bz e):
  t.nx≤(takeT t p bz e).1.nx∧(∃tl,(takeT t p bz e).1.bs=t.bs++tl)∧((takeT t p bz e).1.bs.size:Int)=t.bs.size+((takeT t p bz e).1.nx-t.nx)∧limT (takeT t p bz e).1.nx (takeT t p bz e).1.bs (takeT t p bz e).1.cp=limT t.nx t.bs t.cp∧(takeT t p bz e).1.cp=t.cp∧(takeT t p bz e).1.fi=(if e=true∧t.fi<0 then p+bz.size else t.fi)∧
   (∀j,(thereB t.l j=true∨(p≤j∧j<p+bz.size∧t.nx≤j∧j<limT t.nx t.bs t.cp))↔(t.nx≤j∧j<(takeT t p bz e).1.nx)∨thereB (takeT t p bz e).1.l j=true):=by
 obtain⟨L,fr,b,hf⟩: ∃L fr b,foldK t.nx (limT t.nx t.bs t.cp) p bz t.l (bz.size+1)=(L,fr,b):=⟨_,_,_,rfl⟩
 obtain⟨hp,hs,hz,_,_⟩:=bad_not hb
 obtain⟨f1,f2⟩:=fold_all h hp.1 hz
 rw [take_good hb hf]
 rw [hf]at f1 f2
 simp only at f1 f2
 obtain⟨j1,j2,j3,j4,j5,j6,tl,j7⟩:=join_all (bs:=t.bs) f1
 refine⟨j2,⟨tl,j7⟩,j3,?_,rfl,rfl,fun j=>?_⟩
 ·show limT (joinT t.nx t.bs L).1 (joinT t.nx t.bs L).2.1 t.cp=limT t.nx t.bs t.cp
  unfold limT
  omega
 ·rw [←f2 j,j5 j]
end Go.Proofs.YtfejobjgbadfjaaGreat.Tak
namespace Go.Proofs.YtfejobjgbadfjaaGreat.Tak
theorem okQ_lim {lim lim':Int}(h:lim≤lim'): ∀ {l:List Pt} {lo:Int},okQ lim lo l→okQ lim' lo l
 | [],_,_=>trivial
 | q::r,lo,⟨h1,h2,h3,h4⟩=>⟨h1,h2,by omega,okQ_lim h h4⟩
theorem away_out {t:Tk}{n:Int}(h:t.ok=true)(hn:n<0∨(t.bs.size:Int)<n):takenAway t n=(t,⟨#[]⟩):=by simp [takenAway,h,hn]
theorem away_in {t:Tk}{n:Int}(h:t.ok=true)(h0:0≤n)(h1:n≤(t.bs.size:Int)):takenAway t n=({t with bs:=t.bs.extract n.toNat t.bs.size},t.bs.extract 0 n.toNat):=by
 have hn: ¬(n<0∨(t.bs.size:Int)<n):=by omega
 simp [takenAway,h,hn]
theorem away_all {t:Tk}{n:Int}(h:t.ok=true)(h0:0≤n)(h1:n≤(t.bs.size:Int)):
  (takenAway t n).1.ok=true∧(takenAway t n).2++(takenAway t n).1.bs=t.bs∧((takenAway t n).2.size:Int)=n∧(takenAway t n).1.nx=t.nx∧limT (takenAway t n).1.nx (takenAway t n).1.bs (takenAway t n).1.cp=limT t.nx t.bs t.cp+n:=by
 rw [away_in h h0 h1]
 obtain⟨hin,hq,he⟩:=ok_iff.1 h
 obtain⟨⟨i1,i2⟩,⟨i3,i4⟩,⟨i5,i6⟩,i7⟩:=hin
 have hs:(t.bs.extract n.toNat t.bs.size).size=t.bs.size-n.toNat:=ext_size _ _ _ (Nat.le_refl _)
 have hl:limT t.nx (t.bs.extract n.toNat t.bs.size) t.cp=limT t.nx t.bs t.cp+n:=by
  unfold limT
  omega
 refine⟨ok_iff.2 ⟨⟨⟨i1,i2⟩,⟨i3,i4⟩,⟨?_,?_⟩,i7⟩,?_,he⟩,?_,?_,rfl,hl⟩
 ·show((t.bs.extract n.toNat t.bs.size).size:Int)≤t.cp
  omega
 ·show((t.bs.extract n.toNat t.bs.size).size:Int)≤t.nx
  omega
 ·show okQ (limT t.nx (t.bs.extract n.toNat t.bs.size) t.cp) (t.nx+1) t.l
  rw [hl]
  exact okQ_lim (by omega) hq
 ·show t.bs.extract 0 n.toNat++t.bs.extract n.toNat t.bs.size=t.bs
  rw [ByteArray.extract_append_extract,Nat.max_eq_right (by omega),Nat.min_eq_left (by omega)]
  exact ByteArray.extract_zero_size
 ·show((t.bs.extract 0 n.toNat).size:Int)=n
  rw [ext_size _ _ _ (by omega)]
  omega
theorem away_ok {t:Tk}{n:Int}(h:t.ok=true):(takenAway t n).1.ok=true:=by
 by_cases c:n<0∨(t.bs.size:Int)<n
 ·rw [away_out h c];exact h
 ·exact(away_all h (by omega) (by omega)).1
theorem new_ok {n:Int}(h:capB n=true):(⟨0,⟨#[]⟩,[],n,-1,false⟩:Tk).ok=true:=by
 have hn:1≤n∧n≤400:=of_decide_eq_true h
 refine ok_iff.2 ⟨⟨hn,by simp,⟨by show(0:Int)≤n;omega,by show(0:Int)≤0;omega⟩,by simp⟩,trivial,by show endB (-1) 0 0 false=true;decide⟩
end Go.Proofs.YtfejobjgbadfjaaGreat.Tak
namespace Go.Proofs.YtfejobjgbadfjaaGreat.Hop
open Go.RowKit RowG
theorem hop_of {h:Hp}(h1:h.ws.length≤30)(h2:h.g.ok=true)(h3:h.t.ok=true)(h4: ∀x∈h.ws,letB x=true):hopB h=true:=by
 unfold hopB
 simp only [Bool.and_eq_true,decide_eq_true_eq,List.all_eq_true]
 exact⟨h4,h2,h3,h1⟩
theorem post_ok {h:Hp}(hb:hopB h=true)(x:Lt):hopB (postH h x)=true:=by
 obtain⟨h1,h2,h3,h4⟩:=hop_ok hb
 unfold postH
 split
 ·rename_i hp
  unfold postB at hp
  simp only [Bool.and_eq_true,Bool.not_eq_true',decide_eq_false_iff_not]at hp
  refine hop_of (by simp;omega) h2 h3 fun y hy=>?_
  rcases List.mem_append.1 hy with q|q
  ·exact h4 y q
  ·simp at q
   subst q
   exact hp.2
 ·exact hb
theorem send_ok {h:Hp}(hb:hopB h=true)(road p n:Int):hopB (sendH h road p n).1=true:=by
 unfold sendH
 split
 ·exact post_ok hb _
 ·exact hb
theorem tell_ok {h:Hp}(hb:hopB h=true)(road:Int)(done:Bool):hopB (tellH h road done).1=true:=post_ok hb _
theorem out_ok {h:Hp}(hb:hopB h=true)(n:Int):hopB (outH h n).1=true:=by
 obtain⟨h1,h2,h3,h4⟩:=hop_ok hb
 obtain⟨⟨y,x,is⟩,hR⟩: ∃R,outH h n=R:=⟨_,rfl⟩
 rw [hR]
 cases is
 ·have hy:y=h:=by
   unfold outH at hR
   split at hR
   ·split at hR
    ·simp at hR
    ·simp only [Prod.mk.injEq]at hR;exact hR.1.symm
   ·simp only [Prod.mk.injEq]at hR;exact hR.1.symm
  subst hy
  exact hb
 ·obtain⟨_,hg,ht,hw,hl⟩:=outH_in hR
  exact hop_of (by dsimp only;omega) (by dsimp only;rw [hg];exact h2) (by dsimp only;rw [ht];exact h3) fun z hz=>h4 z (hw z hz)
theorem come_ok {h:Hp}(hb:hopB h=true)(n:Int):hopB (comeH h n).1=true:=by
 have ho:=out_ok hb n
 unfold comeH
 obtain⟨⟨y,x,is⟩,hR⟩: ∃R,outH h n=R:=⟨_,rfl⟩
 rw [hR]at ho ⊢
 obtain⟨h1,h2,h3,h4⟩:=hop_ok ho
 cases is
 ·exact ho
 ·dsimp only at *
  split
  ·exact hop_of h1 (Giv.hear_ok h2 _ _ _) h3 h4
  ·exact hop_of h1 h2 (Tak.take_ok h3 _ _ _) h4
theorem giver_ok {h:Hp}(hb:hopB h=true){g:Giv.Gv}(hg:g.ok=true):hopB ⟨g,h.t,h.ws⟩=true:=by
 obtain⟨h1,h2,h3,h4⟩:=hop_ok hb
 exact hop_of h1 hg h3 h4
theorem taker_ok {h:Hp}(hb:hopB h=true){t:Tak.Tk}(ht:t.ok=true):hopB ⟨h.g,t,h.ws⟩=true:=by
 obtain⟨h1,h2,h3,h4⟩:=hop_ok hb
 exact hop_of h1 h2 ht h4
theorem end_ok {g:Giv.Gv}(hg:g.ok=true)(e:Bool):Giv.Gv.ok ⟨g.ba,g.bs,g.cp,g.lm,g.en||e,g.dn⟩=true:=by
 have h:=Giv.ok_iff.1 hg
 refine Giv.ok_iff.2 ?_
 obtain⟨i1,i2,i3,i4,i5,i6,i7⟩:=h
 refine⟨i1,i2,i3,i4,i5,i6,fun hd=>?_⟩
 obtain⟨q1,q2⟩:=i7 hd
 exact⟨by dsimp only;rw [q1];rfl,q2⟩
theorem newH_ok {a b:Int}(ha:Tak.capB a=true)(hb:Tak.capB b=true):hopB ⟨⟨0,⟨#[]⟩,a,0,false,false⟩,⟨0,⟨#[]⟩,[],b,-1,false⟩,[]⟩=true:=by
 have hc:1≤a∧a≤400:=by simpa [Tak.capB]using ha
 have hs:(⟨#[]⟩:ByteArray).size=0:=rfl
 refine hop_of (Nat.zero_le _) ?_ (Tak.new_ok hb) (fun x hx=>by cases hx)
 exact Giv.ok_iff.2 ⟨hc,by dsimp only;omega,by dsimp only;rw [hs];omega,by dsimp only;rw [hs];omega,by dsimp only;omega,by dsimp only;omega,fun hd=>by cases hd⟩
theorem sm_ok {h:Hp}(hb:hopB h=true):h.Sm:=by
 obtain⟨h1,h2,h3,h4⟩:=hop_ok hb
 obtain⟨hbd,htot⟩:=Tak.ok_small h3
 have hin:Tak.inT h.t.nx h.t.bs h.t.l h.t.cp:=by
  unfold Tak.Tk.ok Tak.takerB at h3
  simp only [Bool.and_eq_true,decide_eq_true_eq]at h3
  exact h3.1
 unfold Tak.inT at hin
 have hg:=Giv.ok_iff.1 h2
 exact⟨by omega,by omega,by omega,hbd,by omega,fun x hx=>by have:=(let_in (h4 x hx)).2;omega⟩
end Go.Proofs.YtfejobjgbadfjaaGreat.Hop
namespace Go.Proofs.YtfejobjgbadfjaaGreat.RowG
open Go.RowKit
variable {α:Type} {E:El α}
theorem wp_appS {P:Program}{tS T:TypeId}{bytes:Nat}(ty:Typ P tS T E bytes)(hby:bytes≤1024){w:World}{o:Oper}{a:Act}{K:Act→World→Prop}{Q:Exit→Act→World→Prop}(s x:Operand)
  (ho:o.op=.call {callee:=.builtin .append,args:= #[s,x],argTypes:= #[tS,tS]})
  (B g:Nat) (c n:Nat) (l1 l2:List α) (hn:n=l1.length) (hs:a.eval s=.slice (some ⟨g,0,none⟩) n c) (hown:E.Own T w B (some ⟨g,0,none⟩) c l1) (hB:B≤w.heap.size)
  (sp:Option Addr) (m cap:Nat) (hm:m=l2.length) (hx:a.eval x=.slice sp m cap) (hsp:E.Lies w sp l2) (hcap:sp=none→cap=0) (hl:l1.length+l2.length≤4194304)
  (h: ∀g' c' w',E.Own T w' B (some ⟨g',0,none⟩) c' (l1++l2)→w.grownBy w' (some g)→K (a.put o.dst (.slice (some ⟨g',0,none⟩) (n+m) c')) w'):o.wp P a w K Q:=by
 subst hn hm
 obtain⟨hu,i,z,hi,hz0,hz1,hz2,hz3⟩:=ty
 cases sp with
 | none=>
  have hl0:l2=[]:=by rcases hsp with e|⟨_,_,e,_⟩;exact e;cases e
  subst hl0
  have hc0:=hcap rfl
  subst hc0
  have hrun:=run_append_owned_none (P:=P) (w:=w) B tS o.type T i E.size hu hi _ l1.length (E.vals l1) hown
  unfold Oper.wp
  simp [execOp,ho,resolve,invoke,builtin,hs,hx,hrun,Result.andThen]
  exact h g c w (by rw [List.append_nil];exact hown) ⟨rfl,rfl,rfl,Nat.le_refl _,fun _ _ _=>rfl⟩
 | some x'=>
  refine wp_append_own w s x tS ho B T i z E.size bytes hu hi hz0 hz1 hz2 hz3 E.pos _ l1.length (E.vals l1) hs hown x' l2.length cap (E.vals l2) hx (E.vals_len l2) (hsp.src rfl) (E.vals_cells l2) (by unfold maxLen;omega) ?_ hB ?_
  ·have:(l1.length+l2.length)*bytes≤4194304*1024:=Nat.mul_le_mul hl hby
   omega
  ·intro v' w' h1 h2 h3
   rw [own_blk]at h2
   rcases h1.2 with⟨hv,q⟩|⟨g',cap',cur,hv,_⟩
   ·exact absurd (h3.1 hv).1 (by simp)
   ·subst hv
    refine h _ cap' w' ?_ h2
    unfold El.Own
    rw [List.length_append,E.vals_append]
    exact h1
theorem wpList_appS {P:Program}{tS T:TypeId}{bytes:Nat}(ty:Typ P tS T E bytes)(hby:bytes≤1024){w:World}{ops:Array Oper}{rest:List Oper}{o:Oper}{a:Act}{Q:Exit→Act→World→Prop}(hgd:o.guard=none)(s x:Operand)
  (ho:o.op=.call {callee:=.builtin .append,args:= #[s,x],argTypes:= #[tS,tS]})
  (B g:Nat) (c n:Nat) (l1 l2:List α) (hn:n=l1.length) (hs:a.eval s=.slice (some ⟨g,0,none⟩) n c) (hown:E.Own T w B (some ⟨g,0,none⟩) c l1) (hB:B≤w.heap.size)
  (sp:Option Addr) (m cap:Nat) (hm:m=l2.length) (hx:a.eval x=.slice sp m cap) (hsp:E.Lies w sp l2) (hcap:sp=none→cap=0) (hl:l1.length+l2.length≤4194304)
  (h: ∀g' c' w',E.Own T w' B (some ⟨g',0,none⟩) c' (l1++l2)→w.grownBy w' (some g)→wpList P ops Q rest (a.put o.dst (.slice (some ⟨g',0,none⟩) (n+m) c')) w'):wpList P ops Q (o::rest) a w:=
 wpList_plain hgd fun _ hK=>wp_appS ty hby s x ho B g c n l1 l2 hn hs hown hB sp m cap hm hx hsp hcap hl fun a' c' w' h1 h2=>hK _ _ (h a' c' w' h1 h2)
theorem step_appS {P:Program}{tS T:TypeId}{bytes:Nat}(ty:Typ P tS T E bytes)(hby:bytes≤1024){w:World}{ops:Array Oper}{o:Oper}{a:Act}{K:Act→World→Prop}{Q:Exit→Act→World→Prop}{X:Prop}(hgd:o.guard=none)(s x:Operand)
  (ho:o.op=.call {callee:=.builtin .append,args:= #[s,x],argTypes:= #[tS,tS]})
  (B g:Nat) (c n:Nat) (l1 l2:List α) (hn:n=l1.length) (hs:a.eval s=.slice (some ⟨g,0,none⟩) n c) (hown:E.Own T w B (some ⟨g,0,none⟩) c l1) (hB:B≤w.heap.size)
  (sp:Option Addr) (m cap:Nat) (hm:m=l2.length) (hx:a.eval x=.slice sp m cap) (hsp:E.Lies w sp l2) (hcap:sp=none→cap=0) (hl:l1.length+l2.length≤4194304)
  (h: ∀g' c' w',E.Own T w' B (some ⟨g',0,none⟩) c' (l1++l2)→w.grownBy w' (some g)→K (a.put o.dst (.slice (some ⟨g',0,none⟩) (n+m) c')) w'):if Region.wanted o (yielded ops a.tmps)=true then Oper.wp P o a w K Q else X:=by
 rw [if_pos (by simp [Region.wanted,hgd])]
 exact wp_appS ty hby s x ho B g c n l1 l2 hn hs hown hB sp m cap hm hx hsp hcap hl h
theorem own_rowS {e:TypeId}{w:World}{B g c:Nat}{l:List α}(o:E.Own e w B (some ⟨g,0,none⟩) c l): ∃cs,w.heap[g]? =some (.cells cs e (0,0)):=by
 unfold El.Own at o
 rcases o.2 with⟨h1,_⟩|⟨g',cap,cur,h1,_,hgb,_⟩
 ·cases h1
 ·cases h1
  exact⟨_,hgb⟩
theorem own_twoS {β:Type}{E':El β}{e e':TypeId}{w:World}{B B' g g' c c':Nat}{l:List α}{l':List β}(hne:e≠e')(o:E.Own e w B (some ⟨g,0,none⟩) c l)(o':E'.Own e' w B' (some ⟨g',0,none⟩) c' l'):g≠g':=by
 intro he
 subst he
 obtain⟨cs,h1⟩:=own_rowS o
 obtain⟨cs',h2⟩:=own_rowS o'
 rw [h2]at h1
 cases h1
 exact hne rfl
theorem own_varS {e T:TypeId}{w:World}{B g c k:Nat}{l:List α}{vs:List Value}(hne:T≠e)(o:E.Own e w B (some ⟨g,0,none⟩) c l)(v:Var T w k vs):g≠k:=by
 intro he
 subst he
 obtain⟨cs,h1⟩:=own_rowS o
 unfold Var at v
 rw [h1]at v
 cases v
 exact hne rfl
end Go.Proofs.YtfejobjgbadfjaaGreat.RowG
