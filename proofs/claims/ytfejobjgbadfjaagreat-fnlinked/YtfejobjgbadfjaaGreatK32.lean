/- Contracts of this seat's functions, and their mathematics (WorU). -/
import Derived.Test.YtfejobjgbadfjaaGreatK30
set_option linter.unusedVariables false
set_option linter.unusedSimpArgs false
namespace Go.Proofs.YtfejobjgbadfjaaGreat.Wor
open Go.RowKit RowG Hop Roa Pum Lin
def actE:El Ac where
 enc a:=a.c
 size:=6
 len _:=rfl
 one a u hu:=by
  simp only [Ac.c,List.mem_cons,List.not_mem_nil,or_false]at hu
  rcases hu with rfl|rfl|rfl|rfl|rfl|rfl <;>rfl
 pos:=by decide
theorem infoAct:(Tryz.prog.info? 69).map (fun i=>(i.zero,i.size,i.bytes))=some (some (.agg #[.int .i64 0,.int .i64 0,.int .i64 0,.int .i64 0,.int .i64 0,.string ByteArray.empty]),6,56):=by kernel_rfl
theorem tyAct:Typ Tryz.prog 34 69 actE 56:=⟨Tryz.underlying34,by
 obtain⟨i,hi,h0,h1,h2⟩:=info_parts infoAct
 exact⟨i,_,hi,h0,h1,h2,rfl⟩⟩
theorem var_act {w w':World}{k m:Nat}{vs:List Value}(v:Var 69 w m vs)(h:ActS w w' (some k))(hne:m≠k):Var 69 w' m vs:=by
 unfold Var at v ⊢
 exact h m _ _ (by simpa using hne) v
theorem own_act {w w':World}{k B g c:Nat}{l:List Ac}(o:actE.Own 69 w B (some ⟨g,0,none⟩) c l)(h:ActS w w' (some k))(hne:g≠k):actE.Own 69 w' B (some ⟨g,0,none⟩) c l:=
 o.same fun x hx=>by
  cases hx
  obtain⟨cs,h1⟩:=own_rowS o
  rw [h g _ _ (by simpa using hne) h1,h1]
theorem lies_acts {w:World}{m:Nat}{l:List Ac}(v:Var 69 w m (actE.vals l)):actE.Lies w (some ⟨m,0,none⟩) l:=
 .inr ⟨m,0,rfl,fun j u hu=>by rw [Nat.zero_add];exact v.cell hu⟩
structure KC (B k c:Nat)(w w':World):Prop where
 os:w'.os=w.os
 tape:w'.tape=w.tape
 output:w'.output=w.output
 size:w.heap.size≤w'.heap.size
 block: ∀i,i<B→i≠k→i≠c→w'.heap[i]? =w.heap[i]?
theorem KC.refl (B k c:Nat)(w:World):KC B k c w w:=⟨rfl,rfl,rfl,Nat.le_refl _,fun _ _ _ _=>rfl⟩
theorem KC.trans {B k c:Nat}{a b d:World}(h:KC B k c a b)(h':KC B k c b d):KC B k c a d:=⟨h'.os.trans h.os,h'.tape.trans h.tape,h'.output.trans h.output,Nat.le_trans h.size h'.size,fun i h1 h2 h3=>(h'.block i h1 h2 h3).trans (h.block i h1 h2 h3)⟩
theorem KC.ofKept {B k c:Nat}{w w':World}(h:Draw.Kept c w w')(hB:B≤w.heap.size):KC B k c w w':=⟨h.os,h.tape,h.output,h.size,fun i h1 _ h3=>h.block i (by omega) h3⟩
theorem KC.ofKB {B k c:Nat}{w w':World}(h:KB B k w w'):KC B k c w w':=⟨h.os,h.tape,h.output,h.size,fun i h1 h2 _=>h.block i h1 h2⟩
structure TH (c k B:Nat)(w wr:World)(W:Wd):Prop where
 lay: ∃g,WLay 33 [] [] 0 wr B k g W
 ok:okW W=true
 cu:Draw.Cur wr c
 f:KC B k c w wr
 acts: ∀(i:Nat) (cs:Array Value) (m:Nat×Nat),i≠k→i≠c→w.heap[i]? =some (.cells cs 69 m)→wr.heap[i]? =some (.cells cs 69 m)
 hB:B≤wr.heap.size
 hck:c<k
 hcB:c<B
theorem TH.drawn {c k B:Nat}{w wr wa:World}{W:Wd}(s:TH c k B w wr W)(cua:Draw.Cur wa c)(ka:Draw.Kept c wr wa):TH c k B w wa W:=by
 obtain⟨g,cH,xs,aR,cR,A⟩:=s.lay
 have:=s.hck
 have:=s.hcB
 exact⟨⟨g,cH,xs,aR,cR,⟨A.v.kept ka (by omega),A.L.kept ka s.hcB,A.hs,A.R.kept ka (fun x hx=>by have:=(A.R.lt x hx).1;omega)⟩⟩,s.ok,cua,s.f.trans (KC.ofKept ka s.hB),fun i cs m h1 h2 hi=>by
  have:=s.acts i cs m h1 h2 hi
  rw [ka.block i (Array.getElem?_eq_some_iff.1 this).1 h2,this],Nat.le_trans s.hB ka.size,s.hck,s.hcB⟩
theorem TH.later {c k B:Nat}{w wr wa:World}{W:Wd}(s:TH c k B w wr W)(b:Below wr.heap.size wr wa):TH c k B w wa W:=s.drawn (s.cu.below b (Nat.le_refl _)) (Draw.Kept.ofBelow b (Nat.le_refl _))
theorem TH.alloc {c k B:Nat}{w wr:World}{W:Wd}(s:TH c k B w wr W)(o:Obj):TH c k B w (wr.alloc o) W:=s.later ((Below.refl _ _).alloc (Nat.le_refl _) _)
theorem TH.did {c k B:Nat}{w wr wa:World}{W W':Wd}(s:TH c k B w wr W)(lay: ∃g,WLay 33 [] [] 0 wa B k g W')(ok:okW W'=true){g:Nat}(kb:KW B k g wr wa):TH c k B w wa W':=by
 have:=s.hck
 have:=s.hcB
 exact⟨lay,ok,s.cu.upto (fun i hi=>kb.block i (by omega) (by omega)),s.f.trans (KC.ofKB kb.toKB),fun i cs m h1 h2 hi=>kb.act.act i cs m (by simpa using h1) (s.acts i cs m h1 h2 hi),Nat.le_trans s.hB kb.size,s.hck,s.hcB⟩
theorem TH.base {c k B:Nat}{w wr:World}{W:Wd}(s:TH c k B w wr W):TH c k B wr wr W:=⟨s.lay,s.ok,s.cu,KC.refl _ _ _ _,fun _ _ _ _ _ h=>h,s.hB,s.hck,s.hcB⟩
theorem TH.join {c k B:Nat}{w wr wa:World}{W W':Wd}(s:TH c k B w wr W)(s':TH c k B wr wa W'):TH c k B w wa W':=⟨s'.lay,s'.ok,s'.cu,s.f.trans s'.f,fun i cs m h1 h2 hi=>s'.acts i cs m h1 h2 (s.acts i cs m h1 h2 hi),s'.hB,s.hck,s.hcB⟩
theorem TH.row {c k B B' g cc:Nat}{w wr:World}{W:Wd}{l:List Ac}(s:TH c k B w wr W)(o:actE.Own 69 w B' (some ⟨g,0,none⟩) cc l)(h1:g≠k)(h2:g≠c):actE.Own 69 wr B' (some ⟨g,0,none⟩) cc l:=
 o.same fun x hx=>by
  cases hx
  obtain⟨cs,h⟩:=own_rowS o
  rw [s.acts g _ _ h1 h2 h,h]
theorem TH.act {c k B:Nat}{w wr:World}{W:Wd}(s:TH c k B w wr W)(a:Ac)(ht:a.tx.size≤2097152):
  Calls Tryz.prog 46 #[.pointer (some ⟨k,0,none⟩),a.v] wr fun x w'=>x=.returned (.bool (doW W a).2)∧TH c k B w w' (doW W a).1∧ActS wr w' (some k)∧wr.heap.size≤w'.heap.size:=by
 obtain⟨g,lay⟩:=s.lay
 exact(l16Do (T:=33) (pre:=[]) (post:=[]) (ow:=0) (by decide) k B W a ht wr lay s.hB ⟨by decide,by decide,by decide,by decide⟩ s.ok).mono (by
  rintro x w' ⟨rfl,lay',kw⟩
  exact⟨rfl,s.did ⟨g,lay'⟩ (ok_do s.ok a) kw,kw.act.act,kw.size⟩)
theorem TH.ne {c k B:Nat}{w wr:World}{W:Wd}(s:TH c k B w wr W){m:Nat}{vs:List Value}(v:Var 69 wr m vs):m≠k:=by
 obtain⟨g,cH,xs,aR,cR,A⟩:=s.lay
 intro e
 subst e
 have h1:=A.v.blk
 unfold Var at v
 rw [v]at h1
 injection h1 with h1
 injection h1 with _ h2 _
 exact absurd h2 (by decide)
theorem TH.neO {c k B B' g cc:Nat}{w wr:World}{W:Wd}{l:List Ac}(s:TH c k B w wr W)(o:actE.Own 69 wr B' (some ⟨g,0,none⟩) cc l):g≠k:=by
 obtain⟨g',cH,xs,aR,cR,A⟩:=s.lay
 intro e
 subst e
 have h1:=A.v.blk
 obtain⟨cs,h2⟩:=own_rowS o
 rw [h2]at h1
 injection h1 with h1
 injection h1 with _ h2 _
 exact absurd h2 (by decide)
end Go.Proofs.YtfejobjgbadfjaaGreat.Wor
