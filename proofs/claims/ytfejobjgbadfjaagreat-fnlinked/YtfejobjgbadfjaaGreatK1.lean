/- Contracts of this seat's functions, and their mathematics (Frame RowG NumA DrawA DrawB TakA). -/
import Derived.Test.YtfejobjgbadfjaaGreatRows
import Derived.WalkKit
import Derived.Below
import Derived.Deep.QuietTactic
import Derived.BigQuiet
import Derived.Laws.BitsLemmas
import Derived.Laws.AppendOwnNone
import Derived.Laws.CopyOwn
import Derived.OwnWalk
import Derived.Deep.AppendLies
import Derived.Laws.OwnMore
import Derived.WalkSpells
import Derived.OpenShut
set_option linter.unusedVariables false
set_option linter.unusedSimpArgs false
set_option maxHeartbeats 1000000
namespace Go.Proofs.YtfejobjgbadfjaaGreat.Draw
open Go.RowKit
structure Kept (c:Nat)(w w':World):Prop where
 os:w'.os=w.os
 tape:w'.tape=w.tape
 output:w'.output=w.output
 size:w.heap.size≤w'.heap.size
 block: ∀k,k<w.heap.size→k≠c→w'.heap[k]? =w.heap[k]?
theorem Kept.refl (c:Nat)(w:World):Kept c w w:=⟨rfl,rfl,rfl,Nat.le_refl _,fun _ _ _=>rfl⟩
theorem Kept.trans {c:Nat}{a b d:World}(h:Kept c a b)(k:Kept c b d):Kept c a d:=
 ⟨k.os.trans h.os,k.tape.trans h.tape,k.output.trans h.output,Nat.le_trans h.size k.size,fun i hi hc=>(k.block i (Nat.lt_of_lt_of_le hi h.size) hc).trans (h.block i hi hc)⟩
theorem Kept.drew {c:Nat}{a w:World}(h:Kept c a w):Kept c a w.drew:=⟨h.os,h.tape,h.output,h.size,h.block⟩
theorem Kept.drewN {c:Nat}{a w:World}(h:Kept c a w)(n:Nat):Kept c a (w.drewN n):=⟨h.os,h.tape,h.output,h.size,h.block⟩
theorem Kept.alloc {c:Nat}{a w:World}(h:Kept c a w)(o:Obj):Kept c a (w.alloc o):=
 h.trans ⟨rfl,rfl,rfl,by simp,fun k hk _=>Below.heap_alloc _ _ _ hk⟩
theorem Kept.setCell {c:Nat}{a w:World}(h:Kept c a w){p:Addr}(hp:p.block=c∨a.heap.size≤p.block)(u:Value):Kept c a (w.setCell p u):=
 ⟨h.os,h.tape,h.output,by simpa [World.setCell]using h.size,fun k hk hc=>(Below.heap_setCell _ _ _ _ (by omega)).trans (h.block k hk hc)⟩
theorem Kept.below {c B:Nat}{w w':World}(h:Kept c w w')(hB:B≤c)(hs:B≤w.heap.size):Below B w w':=
 ⟨h.os,h.tape,h.output,h.size,fun k hk=>h.block k (by omega) (by omega)⟩
theorem Kept.ofBelow {c B:Nat}{w w':World}(h:Below B w w')(hs:w.heap.size≤B):Kept c w w':=
 ⟨h.os,h.tape,h.output,h.size,fun k hk _=>h.block k (by omega)⟩
theorem Kept.cell {c:Nat}{w w':World}(h:Kept c w w'){p:Addr}(hp:p.block<w.heap.size)(hc:p.block≠c):w'.cell? p=w.cell? p:=World.cell?_of_block (w:=w) (h.block p.block hp hc)
theorem lt_of_cell {w:World}{p:Addr}{v:Value}(h:w.cell? p=some v):p.block<w.heap.size:=by
 by_cases hb:p.block<w.heap.size
 ·exact hb
 ·have:w.heap[p.block]? =none:=by simp;omega
  simp [World.cell?,this]at h
theorem and255 (n:Int):bits .and .i64 n 255=n%256:=by
 have h255:(BitVec.ofInt 64 255).toNat=2 ^ 8-1:=by decide
 have key:(BitVec.ofInt 64 n &&& BitVec.ofInt 64 255).toNat=(n%((2 ^ 64:Nat):Int)).toNat%2 ^ 8:=by
  rw [BitVec.toNat_and,BitVec.toNat_ofInt,h255,Nat.and_two_pow_sub_one_eq_mod]
 show IntKind.i64.wrap ((BitVec.ofInt 64 n &&& BitVec.ofInt 64 255).toNat:Nat)=n%256
 rw [key,IntKind.wrap_i64]
 omega
def Bytes (w:World)(a:Option Addr)(len:Nat):Prop:=
 len=0∨ ∃b off,a=some ⟨b,off,none⟩∧ ∀i,i<len→ ∃z:Int,0≤z∧z≤255∧w.cell? ⟨b,off+i,none⟩=some (.int .u8 z)
theorem Bytes.kept {c:Nat}{w w':World}{a:Option Addr}{len:Nat}(h:Bytes w a len)(k:Kept c w w')(hc:len=0∨ ∀x,a=some x→x.block≠c):Bytes w' a len:=by
 rcases hc with hc|hc
 ·exact .inl hc
 rcases h with h|⟨b,off,rfl,h⟩
 ·exact .inl h
 ·refine .inr ⟨b,off,rfl,fun i hi=>?_⟩
  obtain⟨z,h0,h1,h2⟩:=h i hi
  exact⟨z,h0,h1,by rw [k.cell (p:=⟨b,off+i,none⟩) (lt_of_cell h2) (show b≠c from hc ⟨b,off,none⟩ rfl)];exact h2⟩
theorem Bytes.below {B:Nat}{w w':World}{a:Option Addr}{len:Nat}(h:Bytes w a len)(k:Below B w w')(hs:w.heap.size≤B):Bytes w' a len:=by
 rcases h with h|⟨b,off,rfl,h⟩
 ·exact .inl h
 ·refine .inr ⟨b,off,rfl,fun i hi=>?_⟩
  obtain⟨z,h0,h1,h2⟩:=h i hi
  have hl:b<w.heap.size:=lt_of_cell h2
  exact⟨z,h0,h1,by rw [k.cell (p:=⟨b,off+i,none⟩) (show b<B by omega)];exact h2⟩
structure Cur (w:World)(c:Nat):Prop where
 ex: ∃(a:Option Addr) (len cap:Nat) (i:Nat) (h:Int),len≤4096∧(w.cell? ⟨c,0,none⟩=some (.slice a len cap)∧w.cell? ⟨c,1,none⟩=some (.int .i64 i)∧w.cell? ⟨c,2,none⟩=some (.int .i64 h))∧i≤len∧Bytes w a len∧(len=0∨ ∀x,a=some x→x.block<c)
 fz: ∀o,w.frozen? ⟨c,o,none⟩=false
theorem Cur.drewN {w:World}{c:Nat}(h:Cur w c)(n:Nat):Cur (w.drewN n) c:=⟨h.ex,h.fz⟩
theorem Cur.drew {w:World}{c:Nat}(h:Cur w c):Cur w.drew c:=⟨h.ex,h.fz⟩
theorem Cur.lt {w:World}{c:Nat}(h:Cur w c):c<w.heap.size:=by
 obtain⟨_,_,_,_,_,_,⟨h0,_,_⟩,_⟩:=h.ex
 exact lt_of_cell h0
theorem Cur.upto {w w':World}{c:Nat}(h:Cur w c)(k: ∀i,i≤c→w'.heap[i]? =w.heap[i]?):Cur w' c:=by
 obtain⟨a,len,cap,i,x,hle,⟨h0,h1,h2⟩,hi,hb,hc⟩:=h.ex
 have hcell: ∀o,w'.cell? ⟨c,o,none⟩=w.cell? ⟨c,o,none⟩:=fun o=>World.cell?_of_block (w:=w) (a:=⟨c,o,none⟩) (k c (Nat.le_refl _))
 refine⟨⟨a,len,cap,i,x,hle,⟨(hcell 0).trans h0,(hcell 1).trans h1,(hcell 2).trans h2⟩,hi,?_,hc⟩,fun o=>?_⟩
 ·rcases hc with hc|hc
  ·exact .inl hc
  rcases hb with hb|⟨b,off,rfl,hb⟩
  ·exact .inl hb
  ·refine .inr ⟨b,off,rfl,fun j hj=>?_⟩
   obtain⟨z,z0,z1,hz⟩:=hb j hj
   have hlt:b<c:=hc ⟨b,off,none⟩ rfl
   exact⟨z,z0,z1,(World.cell?_of_block (w:=w) (a:=⟨b,off+j,none⟩) (k b (Nat.le_of_lt hlt))).trans hz⟩
 ·exact(World.frozen?_of_block (w:=w) (a:=⟨c,o,none⟩) (k c (Nat.le_refl _))).trans (h.fz o)
theorem Cur.below {w w':World}{c B:Nat}(h:Cur w c)(k:Below B w w')(hs:w.heap.size≤B):Cur w' c:=by
 have hl:=h.lt
 obtain⟨a,len,cap,i,x,hle,⟨h0,h1,h2⟩,hi,hb,hc⟩:=h.ex
 refine⟨⟨a,len,cap,i,x,hle,⟨?_,?_,?_⟩,hi,hb.below k hs,hc⟩,fun o=>?_⟩
 ·rw [k.cell (p:=⟨c,0,none⟩) (show c<B by omega)];exact h0
 ·rw [k.cell (p:=⟨c,1,none⟩) (show c<B by omega)];exact h1
 ·rw [k.cell (p:=⟨c,2,none⟩) (show c<B by omega)];exact h2
 ·rw [k.frozen (p:=⟨c,o,none⟩) (show c<B by omega)];exact h.fz o
structure Later (w:World) where
 v:World
 h:Below w.heap.size w v
instance (w:World):Inhabited (Later w):=⟨⟨w,Below.refl _ _⟩⟩
theorem wp_region_later {P:Program}{id:Nat}{Q:Exit→Act→World→Prop}{a:Act}{w:World}{l:List Oper}(hm:P.follows .mixedOrders=true)(hB:Region.lexB .any l.toArray=true)
  (h:wpQuiet P l.toArray (fun w'=> ∃p:Later w,w'=p.v) (fun a'=> ∀w',(∃p:Later w,w'=p.v)→Q .normal a' w') l a):(Code.region id l.toArray true).wp P Q a w:=
 wp_region_quiet (C:=fun w'=> ∃p:Later w,w'=p.v) hm hB ⟨⟨w.drew,(Below.refl _ _).drew⟩,rfl⟩ (by simpa using h)
theorem Later.cell {w:World}{a:Addr}{v:Value}(h:w.cell? a=some v)(p:Later w):p.v.cell? a=some v:=(p.h.cell (lt_of_cell h)).trans h
theorem later_of {P:Program}{f:FuncId}{args:Array Value}{w:World}{p:Later w}{v:Value}(h:Calls P f args p.v fun e w'=>e=.returned v∧Below p.v.heap.size p.v w'):Calls P f args p.v fun e w''=>e=.returned v∧ ∃q:Later w,w''=q.v:=
 h.mono fun _ w' ⟨he,hb⟩=>⟨he,⟨w',p.h.trans (hb.mono p.h.size)⟩,rfl⟩
theorem later_same {P:Program}{f:FuncId}{args:Array Value}{w:World}{p:Later w}{v:Value}(h:Calls P f args p.v fun e w'=>e=.returned v∧p.v=w'):Calls P f args p.v fun e w''=>e=.returned v∧ ∃q:Later w,w''=q.v:=
 h.mono fun _ _ ⟨he,hb⟩=>⟨he,p,hb.symm⟩
theorem lays {α:Type}:(∀(xs:List α) (i:Nat) (h:i<xs.toArray.size),xs.toArray[i]=xs[i]'(by simpa using h))∧(∀(a:α) (l:List α) (h:0<(a::l).length),(a::l)[0]=a)∧(∀(a:α) (l:List α) (i:Nat) (h:i+1<(a::l).length),(a::l)[i+1]=l[i]'(by simpa using h))∧(∀(xs:List α) (i:Nat) (a:α),xs.toArray.setIfInBounds i a=(xs.set i a).toArray)∧(∀(a b:α) (l:List α),(a::l).set 0 b=b::l)∧ ∀(a b:α) (l:List α) (i:Nat),(a::l).set (i+1) b=a::l.set i b:=
 ⟨fun _ _ _=>rfl,fun _ _ _=>rfl,fun _ _ _ _=>rfl,fun xs i a=>by simp,fun _ _ _=>rfl,fun _ _ _ _=>rfl⟩
end Go.Proofs.YtfejobjgbadfjaaGreat.Draw
namespace Go.Proofs.YtfejobjgbadfjaaGreat.RowG
open Go.RowKit
structure El (α:Type) where
 enc:α→List Value
 size:Nat
 len: ∀x,(enc x).length=size
 one: ∀x,∀u∈enc x,u.oneCell'=true
 pos:0<size
variable {α:Type} {E:El α}
def El.vals (E:El α)(l:List α):List Value:=l.flatMap E.enc
theorem El.vals_len (E:El α)(l:List α):(E.vals l).length=l.length*E.size:=by
 induction l with
 | nil=>simp [El.vals]
 | cons x l ih=>
  have h:E.vals (x::l)=E.enc x++E.vals l:=by simp [El.vals]
  rw [h,List.length_append,E.len,ih,List.length_cons,Nat.succ_mul,Nat.add_comm]
theorem El.vals_cons (E:El α)(x:α)(l:List α):E.vals (x::l)=E.enc x++E.vals l:=by simp [El.vals]
theorem El.vals_append (E:El α)(l l':List α):E.vals (l++l')=E.vals l++E.vals l':=by simp [El.vals]
theorem El.vals_one (E:El α)(x:α):E.vals [x]=E.enc x:=by simp [El.vals]
theorem El.vals_cells (E:El α)(l:List α): ∀u∈E.vals l,u.oneCell'=true:=by
 intro u hu
 simp only [El.vals,List.mem_flatMap]at hu
 obtain⟨s,_,hs⟩:=hu
 exact E.one s u hs
theorem El.vals_at (E:El α): ∀(l:List α) (i:Nat) (x:α) (j:Nat) (u:Value),l[i]? =some x→(E.enc x)[j]? =some u→(E.vals l)[i*E.size+j]? =some u
 | [],i,x,j,u,h,_=>by simp at h
 | y::l,0,x,j,u,h,hu=>by
  have e:y=x:=by simpa using h
  subst e
  have hj:j<(E.enc y).length:=(List.getElem?_eq_some_iff.1 hu).1
  rw [E.vals_cons,Nat.zero_mul,Nat.zero_add,List.getElem?_append_left hj,hu]
 | y::l,i+1,x,j,u,h,hu=>by
  have e:l[i]? =some x:=by simpa using h
  have:=E.vals_at l i x j u e hu
  rw [E.vals_cons,List.getElem?_append_right (by rw [E.len,Nat.succ_mul];omega),E.len]
  rw [show(i+1)*E.size+j-E.size=i*E.size+j by rw [Nat.succ_mul];omega]
  exact this
theorem El.vals_set (E:El α): ∀(l:List α) (i:Nat) (x y:α) (j:Nat) (u:Value),l[i]? =some x→j<E.size→E.enc y=(E.enc x).set j u→E.vals (l.set i y)=(E.vals l).set (i*E.size+j) u
 | [],i,x,y,j,u,h,_,_=>by simp at h
 | z::l,0,x,y,j,u,h,hj,hy=>by
  have e:z=x:=by simpa using h
  subst e
  rw [List.set_cons_zero,E.vals_cons,E.vals_cons,hy,Nat.zero_mul,Nat.zero_add,List.set_append_left _ _ (by rw [E.len];exact hj)]
 | z::l,i+1,x,y,j,u,h,hj,hy=>by
  have e:l[i]? =some x:=by simpa using h
  have:=E.vals_set l i x y j u e hj hy
  rw [List.set_cons_succ,E.vals_cons,E.vals_cons,this,List.set_append_right _ _ (by rw [E.len,Nat.succ_mul];omega),E.len]
  rw [show(i+1)*E.size+j-E.size=i*E.size+j by rw [Nat.succ_mul];omega]
theorem add_lit (b off j:Nat):(⟨b,off,none⟩:Addr).add j=⟨b,off+j,none⟩:=by unfold Addr.add;split <;>simp_all
def El.Lies (E:El α)(w:World)(a:Option Addr)(l:List α):Prop:=
 l=[]∨ ∃b off,a=some ⟨b,off,none⟩∧ ∀j u,(E.vals l)[j]? =some u→w.cell? ⟨b,off+j,none⟩=some u
theorem El.Lies.nil (w:World)(a:Option Addr):E.Lies w a []:=.inl rfl
theorem El.Lies.same {w w':World}{a:Option Addr}{l:List α}(h:E.Lies w a l)(hw: ∀x,a=some x→x.block<w.heap.size→w'.heap[x.block]? =w.heap[x.block]?):E.Lies w' a l:=by
 rcases h with h|⟨b,off,rfl,h⟩
 ·exact .inl h
 ·refine .inr ⟨b,off,rfl,fun j u hu=>?_⟩
  have:=h j u hu
  have hb:b<w.heap.size:=Draw.lt_of_cell this
  rw [World.cell?_of_block (w:=w) (a:=⟨b,off+j,none⟩) (hw ⟨b,off,none⟩ rfl hb),this]
theorem El.Lies.below {B:Nat}{w w':World}{a:Option Addr}{l:List α}(h:E.Lies w a l)(hB:Below B w w')(hs:w.heap.size≤B):E.Lies w' a l:=
 h.same fun x _ hx=>hB.block x.block (by omega)
theorem El.Lies.later {w w':World}{a:Option Addr}{l:List α}(h:E.Lies w a l)(hB:Below w.heap.size w w'):E.Lies w' a l:=h.below hB (Nat.le_refl _)
theorem El.Lies.kept {c:Nat}{w w':World}{a:Option Addr}{l:List α}(h:E.Lies w a l)(k:Draw.Kept c w w')(hc: ∀x,a=some x→x.block≠c):E.Lies w' a l:=
 h.same fun x hx hl=>k.block x.block hl (hc x hx)
theorem El.Lies.cell {w:World}{b off:Nat}{l:List α}(h: ∀j u,(E.vals l)[j]? =some u→w.cell? ⟨b,off+j,none⟩=some u){i:Nat}{x:α}(hx:l[i]? =some x){j:Nat}{u:Value}(hu:(E.enc x)[j]? =some u):w.cell? ⟨b,off+(i*E.size+j),none⟩=some u:=
 h _ _ (E.vals_at l i x j u hx hu)
theorem El.Lies.src {w:World}{a:Option Addr}{l:List α}{x:Addr}(h:E.Lies w a l)(ha:a=some x): ∀j u,(E.vals l)[j]? =some u→w.cell? (x.add j)=some u:=by
 rcases h with h|⟨b,off,rfl,h⟩
 ·intro j u hu;rw [h]at hu;simp [El.vals]at hu
 ·cases ha
  intro j u hu
  rw [add_lit]
  exact h j u hu
theorem El.vals_part (E:El α)(l:List α)(e n:Nat): ∀j u,(E.vals ((l.drop e).take n))[j]? =some u→(E.vals l)[e*E.size+j]? =some u:=by
 intro j u hu
 by_cases he:e≤l.length
 ·have h1:l=l.take e++((l.drop e).take n++(l.drop e).drop n):=by rw [List.take_append_drop,List.take_append_drop]
  have hl:(E.vals (l.take e)).length=e*E.size:=by rw [E.vals_len,List.length_take,Nat.min_eq_left he]
  have hj:j<(E.vals ((l.drop e).take n)).length:=(List.getElem?_eq_some_iff.1 hu).1
  rw [h1,E.vals_append,E.vals_append,List.getElem?_append_right (by omega),hl,Nat.add_sub_cancel_left,List.getElem?_append_left hj,hu]
 ·rw [List.drop_eq_nil_of_le (by omega)]at hu
  simp [El.vals]at hu
theorem El.Lies.slice {w:World}{a:Option Addr}{l:List α}(h:E.Lies w a l)(e hi m:Nat)(he:e≤hi)(hh:hi≤l.length)(hm:hi≤m):E.Lies w (if m=e then a else a.map (·.add (e*E.size))) ((l.drop e).take (hi-e)):=by
 by_cases h0:hi=e
 ·rw [h0,Nat.sub_self,List.take_zero];exact .inl rfl
 ·rw [if_neg (by omega)]
  rcases h with h|⟨b,off,rfl,h⟩
  ·subst h;simp at hh;omega
  ·refine .inr ⟨b,off+e*E.size,by rw [Option.map_some,add_lit],fun j u hu=>?_⟩
   have:=h _ _ (E.vals_part l e (hi-e) j u hu)
   rwa [←Nat.add_assoc]at this
theorem El.Lies.take {w:World}{a:Option Addr}{l:List α}(h:E.Lies w a l)(e:Nat):E.Lies w a (l.take e):=by
 rcases h with h|⟨b,off,rfl,h⟩
 ·exact .inl (by rw [h,List.take_nil])
 ·refine .inr ⟨b,off,rfl,fun j u hu=>h j u ?_⟩
  have:=E.vals_part l 0 e j u (by rw [List.drop_zero];exact hu)
  rwa [Nat.zero_mul,Nat.zero_add]at this
def El.Own (E:El α)(T:TypeId)(w:World)(B:Nat)(a:Option Addr)(c:Nat)(l:List α):Prop:=w.ownsRow B T E.size (.slice a l.length c) l.length (E.vals l)
variable {T:TypeId}
theorem El.Own.form {w:World}{B:Nat}{a:Option Addr}{c:Nat}{l:List α}(h:E.Own T w B a c l):(a=none∧c=0∧l=[])∨ ∃g,a=some ⟨g,0,none⟩∧B≤g∧g<w.heap.size∧l.length≤c:=by
 obtain⟨hx,⟨hv,hn⟩|⟨g,cap,cur,hv,h1,h2,h3,h4,h5,h6⟩⟩:=h
 ·injection hv with e1 e2 e3
  exact .inl ⟨e1,e3,List.eq_nil_of_length_eq_zero hn⟩
 ·cases hv
  refine .inr ⟨g,rfl,h1,?_,h3⟩
  exact(Array.getElem?_eq_some_iff.1 h2).1
theorem El.Own.cap {w:World}{B:Nat}{a:Option Addr}{c:Nat}{l:List α}(h:E.Own T w B a c l):l.length≤c:=by
 rcases h.form with⟨_,rfl,rfl⟩|⟨_,_,_,_,h⟩
 ·exact Nat.le_refl _
 ·exact h
theorem El.Own.none_cap {w:World}{B:Nat}{a:Option Addr}{c:Nat}{l:List α}(h:E.Own T w B a c l):a=none→c=0:=by
 intro ha
 rcases h.form with⟨_,rfl,_⟩|⟨g,hg,_⟩
 ·rfl
 ·rw [ha]at hg;cases hg
theorem El.Own.lies {w:World}{B:Nat}{a:Option Addr}{c:Nat}{l:List α}(h:E.Own T w B a c l):E.Lies w a l:=by
 rcases h.form with⟨_,_,rfl⟩|⟨g,rfl,_⟩
 ·exact .inl rfl
 ·refine .inr ⟨g,0,rfl,fun j u hu=>?_⟩
  rw [Nat.zero_add]
  have hj:j<l.length*E.size:=by rw [←E.vals_len];exact(List.getElem?_eq_some_iff.1 hu).1
  rw [World.ownsRow.cellAt h j hj,hu]
theorem El.Own.lt {w:World}{B:Nat}{a:Option Addr}{c:Nat}{l:List α}(h:E.Own T w B a c l): ∀x,a=some x→B≤x.block∧x.block<w.heap.size:=by
 intro x hx
 rcases h.form with⟨ha,_⟩|⟨g,hg,h1,h2,_⟩
 ·rw [hx]at ha;cases ha
 ·rw [hx]at hg;cases hg;exact⟨h1,h2⟩
theorem El.Own.same {w w':World}{B:Nat}{a:Option Addr}{c:Nat}{l:List α}(h:E.Own T w B a c l)(hw: ∀x,a=some x→w'.heap[x.block]? =w.heap[x.block]?):E.Own T w' B a c l:=by
 obtain⟨hx,⟨hv,hn⟩|⟨g,cap,cur,hv,h1,h2,h3⟩⟩:=h
 ·exact⟨hx,.inl ⟨hv,hn⟩⟩
 ·cases hv
  exact⟨hx,.inr ⟨g,c,cur,rfl,h1,(hw _ rfl).trans h2,h3⟩⟩
theorem El.Own.later {w w':World}{B:Nat}{a:Option Addr}{c:Nat}{l:List α}(h:E.Own T w B a c l)(hb:Below w.heap.size w w'):E.Own T w' B a c l:=
 h.same fun x hx=>hb.block x.block (h.lt x hx).2
theorem El.Own.kept {w w':World}{B k:Nat}{a:Option Addr}{c:Nat}{l:List α}(h:E.Own T w B a c l)(hk:Draw.Kept k w w')(hc: ∀x,a=some x→x.block≠k):E.Own T w' B a c l:=
 h.same fun x hx=>hk.block x.block (h.lt x hx).2 (hc x hx)
theorem El.Own.alloc {w:World}{B:Nat}{a:Option Addr}{c:Nat}{l:List α}(h:E.Own T w B a c l)(o:Obj):E.Own T (w.alloc o) B a c l:=
 h.same fun x hx=>Below.heap_alloc _ _ _ (h.lt x hx).2
theorem El.Own.setCell {w:World}{B:Nat}{a:Option Addr}{c:Nat}{l:List α}(h:E.Own T w B a c l){p:Addr}(hp: ∀x,a=some x→x.block≠p.block)(v:Value):E.Own T (w.setCell p v) B a c l:=
 h.same fun x hx=>Below.heap_setCell _ _ _ _ (hp x hx)
theorem El.Own.drew {w:World}{B:Nat}{a:Option Addr}{c:Nat}{l:List α}(h:E.Own T w B a c l):E.Own T w.drew B a c l:=h
theorem El.Lies.drew {w:World}{a:Option Addr}{l:List α}(h:E.Lies w a l):E.Lies w.drew a l:=h
theorem El.Own.mono {w:World}{B B':Nat}{a:Option Addr}{c:Nat}{l:List α}(h:E.Own T w B' a c l)(hB:B≤B'):E.Own T w B a c l:=by
 obtain⟨hx,h|⟨g,cap,cur,hv,h1,h2⟩⟩:=h
 ·exact⟨hx,.inl h⟩
 ·exact⟨hx,.inr ⟨g,cap,cur,hv,Nat.le_trans hB h1,h2⟩⟩
theorem El.Own.none (w:World)(B:Nat):E.Own T w B none 0 []:=⟨by simp [El.vals],.inl ⟨rfl,rfl⟩⟩
theorem El.Own.made (w:World):E.Own T (w.alloc (.cells #[] T)) w.heap.size (some ⟨w.heap.size,0,Option.none⟩) 0 []:=World.ownsRow_made w #[] 0 (Nat.le_refl _) (Nat.zero_le _) (by simp)
theorem El.Own.put {w:World}{B g c:Nat}{l:List α}(h:E.Own T w B (some ⟨g,0,Option.none⟩) c l){i:Nat}{x y:α}{j:Nat}{u:Value}(hx:l[i]? =some x)(hj:j<E.size)(hy:E.enc y=(E.enc x).set j u):
  E.Own T (w.setCell ⟨g,i*E.size+j,Option.none⟩ u) B (some ⟨g,0,Option.none⟩) c (l.set i y):=by
 have:=(World.ownsRow.stored h (i*E.size+j) u).1
 unfold El.Own
 rw [List.length_set,E.vals_set l i x y j u hx hj hy]
 exact this
theorem El.Own.frozen {w:World}{B g c:Nat}{l:List α}(h:E.Own T w B (some ⟨g,0,Option.none⟩) c l)(j:Nat):w.frozen? ⟨g,j,Option.none⟩=false:=World.ownsRow.frozenAt h j
structure Typ (P:Program)(tS T:TypeId)(E:El α)(bytes:Nat):Prop where
 under:P.underlying tS=some (.slice T)
 info: ∃i z,P.info? T=some i∧i.zero=some z∧i.size=E.size∧i.bytes=bytes∧z.cells.size=E.size
def blk (a:Option Addr):Option Nat:=a.map (·.block)
theorem own_blk (a:Option Addr)(n c:Nat):(Value.slice a n c).ownBlock=blk a:=by cases a <;>rfl
theorem grown_below {w0 w w':World}{B:Nat}{r:Option Nat}(hb:Below B w0 w)(hB:B≤w0.heap.size)(hr: ∀g,r=some g→B≤g)(h:w.grownBy w' r):Below B w0 w':=
 hb.trans ⟨h.os,h.tape,h.output,h.size,fun k hk=>h.block k (Nat.lt_of_lt_of_le hk (Nat.le_trans hB hb.size)) (fun e=>by have:=hr k e.symm;omega)⟩
theorem grown_kept {w w':World}{r:Option Nat}{c:Nat}(h:w.grownBy w' r)(hr:r=none∨r=some c):Draw.Kept c w w':=
 ⟨h.os,h.tape,h.output,h.size,fun k hk hc=>h.block k hk (fun e=>by rcases hr with q|q <;>rw [q]at e <;>cases e;exact hc rfl)⟩
theorem wp_app {P:Program}{tS T:TypeId}{bytes:Nat}(ty:Typ P tS T E bytes)(hby:bytes≤1024){w:World}{o:Oper}{a:Act}{K:Act→World→Prop}{Q:Exit→Act→World→Prop}(s x:Operand)
  (ho:o.op=.call {callee:=.builtin .append,args:= #[s,x],argTypes:= #[tS,tS]})
  (B:Nat) (ao:Option Addr) (c n:Nat) (l1 l2:List α) (hn:n=l1.length) (hs:a.eval s=.slice ao n c) (hown:E.Own T w B ao c l1) (hB:B≤w.heap.size)
  (sp:Option Addr) (m cap:Nat) (hm:m=l2.length) (hx:a.eval x=.slice sp m cap) (hsp:E.Lies w sp l2) (hcap:sp=none→cap=0) (hl:l1.length+l2.length≤4194304)
  (h: ∀a' c' w',E.Own T w' B a' c' (l1++l2)→w.grownBy w' (blk ao)→K (a.put o.dst (.slice a' (n+m) c')) w'):o.wp P a w K Q:=by
 subst hn hm
 obtain⟨hu,i,z,hi,hz0,hz1,hz2,hz3⟩:=ty
 cases sp with
 | none=>
  have hl0:l2=[]:=by rcases hsp with e|⟨_,_,e,_⟩;exact e;cases e
  subst hl0
  have hc0:=hcap rfl
  subst hc0
  have hrun:=run_append_owned_none (P:=P) (w:=w) B tS o.type T i E.size hu hi _ l1.length (E.vals l1) hown
  unfold Oper.wp
  simp [execOp,ho,resolve,invoke,builtin,hs,hx,hrun,Result.andThen]
  exact h ao c w (by rw [List.append_nil];exact hown) ⟨rfl,rfl,rfl,Nat.le_refl _,fun _ _ _=>rfl⟩
 | some x'=>
  refine wp_append_own w s x tS ho B T i z E.size bytes hu hi hz0 hz1 hz2 hz3 E.pos _ l1.length (E.vals l1) hs hown x' l2.length cap (E.vals l2) hx (E.vals_len l2) (hsp.src rfl) (E.vals_cells l2) (by unfold maxLen;omega) ?_ hB ?_
  ·have:(l1.length+l2.length)*bytes≤4194304*1024:=Nat.mul_le_mul hl hby
   omega
  ·intro v' w' h1 h2 h3
   rw [own_blk]at h2
   rcases h1.2 with⟨hv,q⟩|⟨g',cap',cur,hv,_⟩
   ·subst hv
    have e1:l1=[]:=List.eq_nil_of_length_eq_zero (by omega)
    have e2:l2=[]:=List.eq_nil_of_length_eq_zero (by omega)
    subst e1;subst e2
    exact h none 0 w' (El.Own.none w' B) h2
   ·subst hv
    refine h _ cap' w' ?_ h2
    unfold El.Own
    rw [List.length_append,E.vals_append]
    exact h1
theorem wpList_app {P:Program}{tS T:TypeId}{bytes:Nat}(ty:Typ P tS T E bytes)(hby:bytes≤1024){w:World}{ops:Array Oper}{rest:List Oper}{o:Oper}{a:Act}{Q:Exit→Act→World→Prop}(hgd:o.guard=none)(s x:Operand)
  (ho:o.op=.call {callee:=.builtin .append,args:= #[s,x],argTypes:= #[tS,tS]})
  (B:Nat) (ao:Option Addr) (c n:Nat) (l1 l2:List α) (hn:n=l1.length) (hs:a.eval s=.slice ao n c) (hown:E.Own T w B ao c l1) (hB:B≤w.heap.size)
  (sp:Option Addr) (m cap:Nat) (hm:m=l2.length) (hx:a.eval x=.slice sp m cap) (hsp:E.Lies w sp l2) (hcap:sp=none→cap=0) (hl:l1.length+l2.length≤4194304)
  (h: ∀a' c' w',E.Own T w' B a' c' (l1++l2)→w.grownBy w' (blk ao)→wpList P ops Q rest (a.put o.dst (.slice a' (n+m) c')) w'):wpList P ops Q (o::rest) a w:=
 wpList_plain hgd fun _ hK=>wp_app ty hby s x ho B ao c n l1 l2 hn hs hown hB sp m cap hm hx hsp hcap hl fun a' c' w' h1 h2=>hK _ _ (h a' c' w' h1 h2)
theorem step_app {P:Program}{tS T:TypeId}{bytes:Nat}(ty:Typ P tS T E bytes)(hby:bytes≤1024){w:World}{ops:Array Oper}{o:Oper}{a:Act}{K:Act→World→Prop}{Q:Exit→Act→World→Prop}{X:Prop}(hgd:o.guard=none)(s x:Operand)
  (ho:o.op=.call {callee:=.builtin .append,args:= #[s,x],argTypes:= #[tS,tS]})
  (B:Nat) (ao:Option Addr) (c n:Nat) (l1 l2:List α) (hn:n=l1.length) (hs:a.eval s=.slice ao n c) (hown:E.Own T w B ao c l1) (hB:B≤w.heap.size)
  (sp:Option Addr) (m cap:Nat) (hm:m=l2.length) (hx:a.eval x=.slice sp m cap) (hsp:E.Lies w sp l2) (hcap:sp=none→cap=0) (hl:l1.length+l2.length≤4194304)
  (h: ∀a' c' w',E.Own T w' B a' c' (l1++l2)→w.grownBy w' (blk ao)→K (a.put o.dst (.slice a' (n+m) c')) w'):if Region.wanted o (yielded ops a.tmps)=true then Oper.wp P o a w K Q else X:=by
 rw [if_pos (by simp [Region.wanted,hgd])]
 exact wp_app ty hby s x ho B ao c n l1 l2 hn hs hown hB sp m cap hm hx hsp hcap hl h
theorem El.lies_new {w:World}{x:α}{cs:Array Value}(h:cs.toList=E.enc x):E.Lies (w.alloc (.cells cs T)) (some ⟨w.heap.size,0,Option.none⟩) [x]:=by
 refine .inr ⟨w.heap.size,0,rfl,fun j u hu=>?_⟩
 rw [E.vals_one,←h]at hu
 have:=World.news_of_block (heap_alloc_new w (.cells cs T)) j u (by simpa using hu)
 rwa [add_lit]at this
def Var (T:TypeId)(w:World)(k:Nat)(vs:List Value):Prop:=w.heap[k]? =some (.cells vs.toArray T (0,0))
theorem Var.cell {w:World}{k:Nat}{vs:List Value}(h:Var T w k vs){i:Nat}{v:Value}(hv:vs[i]? =some v):w.cell? ⟨k,i,Option.none⟩=some v:=by
 unfold Var at h
 simp [World.cell?,h,hv]
theorem Var.free {w:World}{k:Nat}{vs:List Value}(h:Var T w k vs)(i:Nat):w.frozen? ⟨k,i,Option.none⟩=false:=by
 unfold Var at h
 simp [World.frozen?,h]
theorem Var.c6 {w:World}{k:Nat}{a0 a1 a2 a3 a4 a5:Value}(h:Var T w k [a0,a1,a2,a3,a4,a5]):w.cell? ⟨k,0,Option.none⟩=some a0∧w.cell? ⟨k,1,Option.none⟩=some a1∧w.cell? ⟨k,2,Option.none⟩=some a2∧w.cell? ⟨k,3,Option.none⟩=some a3∧w.cell? ⟨k,4,Option.none⟩=some a4∧w.cell? ⟨k,5,Option.none⟩=some a5:=⟨h.cell (i:=0) rfl,h.cell (i:=1) rfl,h.cell (i:=2) rfl,h.cell (i:=3) rfl,h.cell (i:=4) rfl,h.cell (i:=5) rfl⟩
theorem Var.f6 {w:World}{k:Nat}{vs:List Value}(h:Var T w k vs):w.frozen? ⟨k,0,Option.none⟩=false∧w.frozen? ⟨k,1,Option.none⟩=false∧w.frozen? ⟨k,2,Option.none⟩=false∧w.frozen? ⟨k,3,Option.none⟩=false∧w.frozen? ⟨k,4,Option.none⟩=false∧w.frozen? ⟨k,5,Option.none⟩=false:=⟨h.free 0,h.free 1,h.free 2,h.free 3,h.free 4,h.free 5⟩
theorem Var.c7 {w:World}{k:Nat}{a0 a1 a2 a3 a4 a5 a6:Value}(h:Var T w k [a0,a1,a2,a3,a4,a5,a6]):w.cell? ⟨k,0,Option.none⟩=some a0∧w.cell? ⟨k,1,Option.none⟩=some a1∧w.cell? ⟨k,2,Option.none⟩=some a2∧w.cell? ⟨k,3,Option.none⟩=some a3∧w.cell? ⟨k,4,Option.none⟩=some a4∧w.cell? ⟨k,5,Option.none⟩=some a5∧w.cell? ⟨k,6,Option.none⟩=some a6:=⟨h.cell (i:=0) rfl,h.cell (i:=1) rfl,h.cell (i:=2) rfl,h.cell (i:=3) rfl,h.cell (i:=4) rfl,h.cell (i:=5) rfl,h.cell (i:=6) rfl⟩
theorem Var.f7 {w:World}{k:Nat}{vs:List Value}(h:Var T w k vs):w.frozen? ⟨k,0,Option.none⟩=false∧w.frozen? ⟨k,1,Option.none⟩=false∧w.frozen? ⟨k,2,Option.none⟩=false∧w.frozen? ⟨k,3,Option.none⟩=false∧w.frozen? ⟨k,4,Option.none⟩=false∧w.frozen? ⟨k,5,Option.none⟩=false∧w.frozen? ⟨k,6,Option.none⟩=false:=⟨h.free 0,h.free 1,h.free 2,h.free 3,h.free 4,h.free 5,h.free 6⟩
theorem Var.c13 {w:World}{k:Nat}{a0 a1 a2 a3 a4 a5 a6 a7 a8 a9 a10 a11 a12:Value}(h:Var T w k [a0,a1,a2,a3,a4,a5,a6,a7,a8,a9,a10,a11,a12]):w.cell? ⟨k,0,Option.none⟩=some a0∧w.cell? ⟨k,1,Option.none⟩=some a1∧w.cell? ⟨k,2,Option.none⟩=some a2∧w.cell? ⟨k,3,Option.none⟩=some a3∧w.cell? ⟨k,4,Option.none⟩=some a4∧w.cell? ⟨k,5,Option.none⟩=some a5∧w.cell? ⟨k,6,Option.none⟩=some a6∧w.cell? ⟨k,7,Option.none⟩=some a7∧w.cell? ⟨k,8,Option.none⟩=some a8∧w.cell? ⟨k,9,Option.none⟩=some a9∧w.cell? ⟨k,10,Option.none⟩=some a10∧w.cell? ⟨k,11,Option.none⟩=some a11∧w.cell? ⟨k,12,Option.none⟩=some a12:=⟨h.cell (i:=0) rfl,h.cell (i:=1) rfl,h.cell (i:=2) rfl,h.cell (i:=3) rfl,h.cell (i:=4) rfl,h.cell (i:=5) rfl,h.cell (i:=6) rfl,h.cell (i:=7) rfl,h.cell (i:=8) rfl,h.cell (i:=9) rfl,h.cell (i:=10) rfl,h.cell (i:=11) rfl,h.cell (i:=12) rfl⟩
theorem Var.f13 {w:World}{k:Nat}{vs:List Value}(h:Var T w k vs):w.frozen? ⟨k,0,Option.none⟩=false∧w.frozen? ⟨k,1,Option.none⟩=false∧w.frozen? ⟨k,2,Option.none⟩=false∧w.frozen? ⟨k,3,Option.none⟩=false∧w.frozen? ⟨k,4,Option.none⟩=false∧w.frozen? ⟨k,5,Option.none⟩=false∧w.frozen? ⟨k,6,Option.none⟩=false∧w.frozen? ⟨k,7,Option.none⟩=false∧w.frozen? ⟨k,8,Option.none⟩=false∧w.frozen? ⟨k,9,Option.none⟩=false∧w.frozen? ⟨k,10,Option.none⟩=false∧w.frozen? ⟨k,11,Option.none⟩=false∧w.frozen? ⟨k,12,Option.none⟩=false:=⟨h.free 0,h.free 1,h.free 2,h.free 3,h.free 4,h.free 5,h.free 6,h.free 7,h.free 8,h.free 9,h.free 10,h.free 11,h.free 12⟩
theorem Var.lt {w:World}{k:Nat}{vs:List Value}(h:Var T w k vs):k<w.heap.size:=(Array.getElem?_eq_some_iff.1 h).1
theorem Var.same {w w':World}{k:Nat}{vs:List Value}(h:Var T w k vs)(e:w'.heap[k]? =w.heap[k]?):Var T w' k vs:=e.trans h
theorem Var.later {w w':World}{k:Nat}{vs:List Value}(h:Var T w k vs)(hb:Below w.heap.size w w'):Var T w' k vs:=h.same (hb.block k h.lt)
theorem Var.kept {w w':World}{k c:Nat}{vs:List Value}(h:Var T w k vs)(hk:Draw.Kept c w w')(hc:k≠c):Var T w' k vs:=h.same (hk.block k h.lt hc)
theorem Var.grown {w w':World}{k:Nat}{r:Option Nat}{vs:List Value}(h:Var T w k vs)(hg:w.grownBy w' r)(hc: ∀g,r=some g→k≠g):Var T w' k vs:=h.same (hg.block k h.lt (fun e=>hc k e.symm rfl))
theorem Var.alloc {w:World}{k:Nat}{vs:List Value}(h:Var T w k vs)(o:Obj):Var T (w.alloc o) k vs:=h.same (Below.heap_alloc _ _ _ h.lt)
theorem Var.other {w:World}{k:Nat}{vs:List Value}(h:Var T w k vs){p:Addr}(hp:k≠p.block)(v:Value):Var T (w.setCell p v) k vs:=h.same (Below.heap_setCell _ _ _ _ hp)
theorem Var.set {w:World}{k:Nat}{vs:List Value}(h:Var T w k vs)(i:Nat)(v:Value):Var T (w.setCell ⟨k,i,Option.none⟩ v) k (vs.set i v):=by
 have h':=h
 unfold Var at h ⊢
 rw [setCell_eq_setRow w k i _ T (0,0) v h,setRow_heap w k _ _ T _ h]
 simp
theorem Var.new (w:World)(vs:List Value):Var T (w.alloc (.cells vs.toArray T)) w.heap.size vs:=heap_alloc_new w _
theorem Var.drew {w:World}{k:Nat}{vs:List Value}(h:Var T w k vs):Var T w.drew k vs:=h
theorem run_from {P:Program}{tS T:TypeId}{bytes:Nat}(ty:Typ P tS T E bytes)(w:World)(ao:Option Addr)(n c:Nat)(kd:IntKind)(e:Nat)(he:e≤n):
  (Instr.sliceAt tS (.slice ao n c) (some (.int kd (e:Int))) none none).run P w=.ok (.slice (if c=e then ao else ao.map (·.add (e*E.size))) (n-e) (c-e)) w:=by
 obtain⟨hu,i,z,hi,hz0,hz1,hz2,hz3⟩:=ty
 have h0:(0:Int)≤(e:Int):=by omega
 have h1:(e:Int)≤(n:Int):=by omega
 simp [Instr.sliceAt,Instr.slice,run_underlying hu,Instr.sliceBounds,run_sliceBound,sizeOf,typeInfo,hi,hz1,h0,h1]
theorem cut_none {ao:Option Addr}{c e k:Nat}(ha:ao=none→c=0):(if c=e then ao else ao.map (·.add k))=none→c-e=0:=by
 cases ao with
 | none=>intro _;have:=ha rfl;omega
 | some x=>by_cases q:c=e <;>simp [q]
theorem cut_block {ao:Option Addr}{c e k:Nat}: ∀y,(if c=e then ao else ao.map (·.add k))=some y→ ∃x,ao=some x∧y.block=x.block:=by
 intro y hy
 by_cases q:c=e
 ·rw [if_pos q]at hy;exact⟨y,hy,rfl⟩
 ·rw [if_neg q]at hy
  cases ao with
  | none=>simp at hy
  | some x=>
   refine⟨x,rfl,?_⟩
   simp at hy
   rw [←hy]
   unfold Addr.add
   split <;>rfl
theorem wpList_from {P:Program}{tS T:TypeId}{bytes:Nat}(ty:Typ P tS T E bytes){w:World}{ops:Array Oper}{rest:List Oper}{o:Oper}{a:Act}{Q:Exit→Act→World→Prop}(hgd:o.guard=none)(x lo:Operand)
  (ho:o.op=.slice tS x (some lo) none none) (ao:Option Addr) (n c:Nat) (l:List α) (hn:n=l.length) (hx:a.eval x=.slice ao n c) (kd:IntKind) (e:Nat) (hlo:a.eval lo=.int kd (e:Int)) (he:e≤l.length) (hc:l.length≤c) (hL:E.Lies w ao l) (ha:ao=none→c=0)
  (h: ∀sp,E.Lies w sp (l.drop e)→(sp=none→c-e=0)→(∀y,sp=some y→ ∃x,ao=some x∧y.block=x.block)→wpList P ops Q rest (a.put o.dst (.slice sp (n-e) (c-e))) w):wpList P ops Q (o::rest) a w:=by
 refine wpList_plain hgd fun K hK=>?_
 have hrun:=run_from ty w ao n c kd e (by omega)
 unfold Oper.wp
 simp [execOp,ho,hx,hlo,hrun,Result.andThen]
 refine hK _ _ (h _ ?_ (cut_none ha) cut_block)
 have:=hL.slice e l.length c he (Nat.le_refl _) hc
 rwa [List.take_of_length_le (by simp)]at this
end Go.Proofs.YtfejobjgbadfjaaGreat.RowG
namespace Go.Proofs.YtfejobjgbadfjaaGreat.Num
open Go.RowKit
def plB (n:Int):Bool:=decide (0≤n∧n≤1000000000)
theorem pl_t {n:Int}(h:plB n=true):0≤n∧n≤1000000000:=by simpa [plB]using h
theorem pl_f {n:Int}(h:plB n=false): ¬(0≤n∧n≤1000000000):=by simpa [plB]using h
theorem pl_yes {n:Int}(h:0≤n∧n≤1000000000):plB n=true:=by simpa [plB]using h
theorem pl_no {n:Int}(h: ¬(0≤n∧n≤1000000000)):plB n=false:=by simpa [plB]using h
theorem ret_bool {a b:Bool}(h:a=b):Ending.returned (.bool a)=.returned (.bool b):=by rw [h]
theorem ret_int {k:IntKind}{a b:Int}(h:a=b):Ending.returned (.int k a)=.returned (.int k b):=by rw [h]
theorem isPlace (n:Int)(w:World):Calls Tryz.prog 108 #[.int .i64 n] w fun e w'=>e=.returned (.bool (plB n))∧w=w':=by
 by_cases h0:0≤n
 ·by_cases h1:n≤1000000000
  ·go_enter Tryz.func108,Tryz.ntmps108
   go_wp2
   go_ret
   exact⟨ret_bool (by simp [plB,h0,h1]),rfl⟩
  ·go_enter Tryz.func108,Tryz.ntmps108
   go_wp2
   go_ret
   exact⟨ret_bool (by simp [plB,h0,h1]),rfl⟩
 ·go_enter Tryz.func108,Tryz.ntmps108
  go_wp2
  go_ret
  exact⟨ret_bool (pl_no (by omega)).symm,rfl⟩
theorem l1Place (n:Int)(w:World):Calls Tryz.prog 56 #[.int .i64 n] w fun e w'=>e=.returned (.bool (plB n))∧w=w':=by
 by_cases h0:0≤n
 ·by_cases h1:n≤1000000000
  ·go_enter Tryz.func56,Tryz.ntmps56
   go_wp2
   go_ret
   exact⟨ret_bool (by simp [plB,h0,h1]),rfl⟩
  ·go_enter Tryz.func56,Tryz.ntmps56
   go_wp2
   go_ret
   exact⟨ret_bool (by simp [plB,h0,h1]),rfl⟩
 ·go_enter Tryz.func56,Tryz.ntmps56
  go_wp2
  go_ret
  exact⟨ret_bool (pl_no (by omega)).symm,rfl⟩
end Go.Proofs.YtfejobjgbadfjaaGreat.Num
namespace Go.Proofs.YtfejobjgbadfjaaGreat.Draw
open Go.RowKit
theorem l1New (a:Option Addr)(len cap:Nat)(w:World)(hb:Bytes w a len)(hl:len≤4096):
  Calls Tryz.prog 20 #[.slice a len cap] w fun e w'=>e=.returned (.pointer (some ⟨w.heap.size,0,none⟩))∧ ∃h:Int,w'=w.alloc (.cells #[.slice a len cap,.int .i64 0,.int .i64 h] 79):=by
 go_enter Tryz.func20,Tryz.ntmps20
 go_wp2
 go_loop [3,4] (fun h i=> ∃(k:Nat) (x:Int),k≤len∧i=.int .i64 k∧h=.int .i64 x) (fun _ i=>len-(intOf i).toNat)
 case atStart=>exact⟨0,_,Nat.zero_le _,rfl,rfl⟩
 case round=>
  obtain⟨k,x,hk,rfl,rfl⟩:=hrel
  by_cases hlt:k<len
  ·rcases hb with hb|⟨b,off,rfl,hb⟩
   ·omega
   ·obtain⟨z,z0,z1,hc⟩:=hb k hlt
    go_wp2
    go_round
    case rel=>exact⟨k+1,_,by omega,by go_num,rfl⟩
    case measure=>simp [intOf];omega
  ·go_wp2
   go_ret
   exact⟨rfl,x,rfl⟩
theorem cur_new {a:Option Addr}{len cap:Nat}{w:World}(hb:Bytes w a len)(hl:len≤4096)(h:Int)(T:TypeId):Cur (w.alloc (.cells #[.slice a len cap,.int .i64 0,.int .i64 h] T)) w.heap.size:=by
 have hB:Below w.heap.size w (w.alloc (.cells #[.slice a len cap,.int .i64 0,.int .i64 h] T)):=(Below.refl _ _).alloc (Nat.le_refl _) _
 have hc: ∀(i:Nat) (v:Value),#[.slice a len cap,.int .i64 0,.int .i64 h][i]? =some v→(w.alloc (.cells #[.slice a len cap,.int .i64 0,.int .i64 h] T)).cell? ⟨w.heap.size,i,none⟩=some v:=fun i v hv=>by
  rw [←hv];simp
 refine⟨⟨a,len,cap,0,h,hl,⟨hc 0 _ rfl,hc 1 _ rfl,hc 2 _ rfl⟩,Nat.zero_le _,hb.below hB (Nat.le_refl _),?_⟩,fun o=>?_⟩
 ·rcases hb with hb|⟨b,off,rfl,hb⟩
  ·exact .inl hb
  ·by_cases h0:len=0
   ·exact .inl h0
   ·obtain⟨z,_,_,hz⟩:=hb 0 (by omega)
    have hlt:b<w.heap.size:=lt_of_cell hz
    refine .inr fun x hx=>?_
    cases hx
    show b<w.heap.size
    exact hlt
 ·simp
theorem cell_set_same {w:World}{c o:Nat}{v u:Value}(h:w.cell? ⟨c,o,none⟩=some v):(w.setCell ⟨c,o,none⟩ u).cell? ⟨c,o,none⟩=some u:=World.cell?_setCell_same w _ _ h
theorem cell_set_off {w:World}{c o o':Nat}{v:Value}(h:o'≠o):(w.setCell ⟨c,o,none⟩ v).cell? ⟨c,o',none⟩=w.cell? ⟨c,o',none⟩:=World.cell?_setCell_other _ _ _ _ (by intro e;cases e;exact h rfl)
theorem Cur.step1 {w:World}{c:Nat}(h:Cur w c){i len cap:Nat}{a:Option Addr}(h0:w.cell? ⟨c,0,none⟩=some (.slice a len cap))(h1:w.cell? ⟨c,1,none⟩=some (.int .i64 i))(hi:i<len)(y:Int)(n:Nat):
  Cur (((w.setCell ⟨c,2,none⟩ (.int .i64 y)).drewN n).setCell ⟨c,1,none⟩ (.int .i64 ((i:Int)+1))) c:=by
 obtain⟨a',len',cap',i',x,hle,⟨g0,g1,g2⟩,hi',hb,hc⟩:=h.ex
 rw [h0]at g0;rw [h1]at g1
 simp at g0 g1
 obtain⟨rfl,rfl,rfl⟩:=g0
 have hk:Kept c w (((w.setCell ⟨c,2,none⟩ (.int .i64 y)).drewN n).setCell ⟨c,1,none⟩ (.int .i64 ((i:Int)+1))):=(((Kept.refl c w).setCell (.inl rfl) _).drewN n).setCell (.inl rfl) _
 have e: ∀p,((w.setCell ⟨c,2,none⟩ (.int .i64 y)).drewN n).cell? p=(w.setCell ⟨c,2,none⟩ (.int .i64 y)).cell? p:=fun p=>rfl
 refine⟨⟨a,len,cap,i+1,y,hle,⟨?_,?_,?_⟩,by omega,hb.kept hk (hc.imp id fun hc x hx=>Nat.ne_of_lt (hc x hx)),hc⟩,fun o=>?_⟩
 ·rw [cell_set_off (by decide),e,cell_set_off (by decide)];exact h0
 ·exact cell_set_same (v:=.int .i64 i) (by rw [e,cell_set_off (by decide)];exact h1)
 ·rw [cell_set_off (by decide),e];exact cell_set_same g2
 ·rw [World.frozen?_setCell];exact(World.frozen?_setCell w _ _ _).trans (h.fz o)
theorem Cur.step0 {w:World}{c:Nat}(h:Cur w c)(y:Int)(n:Nat):Cur ((w.setCell ⟨c,2,none⟩ (.int .i64 y)).drewN n) c:=by
 obtain⟨a,len,cap,i,x,hle,⟨g0,g1,g2⟩,hi,hb,hc⟩:=h.ex
 have hk:Kept c w ((w.setCell ⟨c,2,none⟩ (.int .i64 y)).drewN n):=((Kept.refl c w).setCell (.inl rfl) _).drewN n
 have e: ∀p,((w.setCell ⟨c,2,none⟩ (.int .i64 y)).drewN n).cell? p=(w.setCell ⟨c,2,none⟩ (.int .i64 y)).cell? p:=fun p=>rfl
 refine⟨⟨a,len,cap,i,y,hle,⟨?_,?_,?_⟩,hi,hb.kept hk (hc.imp id fun hc x hx=>Nat.ne_of_lt (hc x hx)),hc⟩,fun o=>?_⟩
 ·rw [e,cell_set_off (by decide)];exact g0
 ·rw [e,cell_set_off (by decide)];exact g1
 ·rw [e];exact cell_set_same g2
 ·exact(World.frozen?_setCell w _ _ _).trans (h.fz o)
theorem lo255 (n:Int):0≤bits .and .i64 n 255:=by rw [and255];omega
theorem hi255 (n:Int):bits .and .i64 n 255≤255:=by rw [and255];omega
theorem l1Byte (c:Nat)(w:World)(h:Cur w c):
  Calls Tryz.prog 43 #[.pointer (some ⟨c,0,none⟩)] w fun e w'=> ∃x:Int,0≤x∧x≤255∧e=.returned (.int .i64 x)∧Cur w' c∧Kept c w w':=by
 have hlt:=h.lt
 have H:Hid (Cur w c):=h
 obtain⟨a,len,cap,i,x,hle,⟨h0,h1,h2⟩,hi,hb,hc⟩:=h.ex
 have f1:=h.fz 1
 have f2:=h.fz 2
 clear h
 by_cases hil:i<len
 ·rcases hb with hb|⟨b,off,rfl,hb⟩
  ·omega
  ·obtain⟨z,z0,z1,hz⟩:=hb i hil
   have hne:b≠c:=by
    rcases hc with hc|hc
    ·omega
    ·exact Nat.ne_of_lt (hc ⟨b,off,none⟩ rfl)
   have hI:(0:Int)≤(i:Int):=by omega
   have hIl:(i:Int)<(len:Int):=by omega
   clear hc hb hi
   go_enter Tryz.func43,Tryz.ntmps43
   go_wp2
   go_quiet (fail)
   go_wp2
   go_quiet (fail)
   go_wp2
   go_quiet (fail)
   go_wp2
   go_ret
   exact⟨_,lo255 _,hi255 _,rfl,H.out.step1 h0 h1 hil _ _,(((Kept.refl c w).setCell (.inl rfl) _).drewN _).setCell (.inl rfl) _⟩
 ·have hIl: ¬(i:Int)<(len:Int):=by omega
  clear hc hb
  go_enter Tryz.func43,Tryz.ntmps43
  go_wp2
  go_quiet (fail)
  go_wp2
  go_quiet (fail)
  go_wp2
  go_ret
  exact⟨_,lo255 _,hi255 _,rfl,(H.out.step0 _ _).drewN _,(((Kept.refl c w).setCell (.inl rfl) _).drewN _).drewN _⟩
end Go.Proofs.YtfejobjgbadfjaaGreat.Draw
namespace Go.Proofs.YtfejobjgbadfjaaGreat.Draw
open Go.RowKit
theorem l1Below (c:Nat)(n:Int)(w:World)(h:Cur w c):
  Calls Tryz.prog 25 #[.pointer (some ⟨c,0,none⟩),.int .i64 n] w fun e w'=> ∃x:Int,0≤x∧(x<n∨x=0∧n≤0)∧e=.returned (.int .i64 x)∧Cur w' c∧Kept c w w':=by
 by_cases h0:n≤0
 ·go_enter Tryz.func25,Tryz.ntmps25
  go_wp2
  go_ret
  exact⟨0,by omega,by omega,rfl,h,Kept.refl _ _⟩
 ·by_cases h1:n≤256
  ·go_enter Tryz.func25,Tryz.ntmps25
   go_wp2_with fail
   refine(l1Byte c _ h).mono ?_
   rintro e w1 ⟨x,x0,x1,rfl,c1,k1⟩
   go_wp2_with fail
   go_ret
   exact⟨x%n,Int.emod_nonneg _ (by omega),.inl (Int.emod_lt_of_pos _ (by omega)),rfl,c1,k1⟩
  ·go_enter Tryz.func25,Tryz.ntmps25
   go_wp2_with fail
   refine(l1Byte c _ h).mono ?_
   rintro e w1 ⟨x,x0,x1,rfl,c1,k1⟩
   go_wp2_with fail
   refine(l1Byte c _ c1).mono ?_
   rintro e w2 ⟨y,y0,y1,rfl,c2,k2⟩
   go_wp2_with fail
   refine(l1Byte c _ c2).mono ?_
   rintro e w3 ⟨z,z0,z1,rfl,c3,k3⟩
   go_wp2_with fail
   refine(l1Byte c _ c3).mono ?_
   rintro e w4 ⟨v,v0,v1,rfl,c4,k4⟩
   go_wp2_with fail
   go_ret
   exact⟨(x*16777216+y*65536+z*256+v)%n,Int.emod_nonneg _ (by omega),.inl (Int.emod_lt_of_pos _ (by omega)),rfl,c4,((k1.trans k2).trans k3).trans k4⟩
theorem l1Once (c:Nat)(n:Int)(w:World)(h:Cur w c):
  Calls Tryz.prog 23 #[.pointer (some ⟨c,0,none⟩),.int .i64 n] w fun e w'=> ∃b:Bool,e=.returned (.bool b)∧Cur w' c∧Kept c w w':=by
 go_enter Tryz.func23,Tryz.ntmps23
 go_wp2_with fail
 refine(l1Below c n _ h).mono ?_
 rintro e w1 ⟨x,x0,x1,rfl,c1,k1⟩
 go_wp2_with fail
 go_ret
 exact⟨_,rfl,c1,k1⟩
theorem l1Max (a b:Int)(w:World):
  Calls Tryz.prog 37 #[.int .i64 a,.int .i64 b] w fun e w'=>e=.returned (.int .i64 (if b<a then a else b))∧w=w':=by
 by_cases h:b<a
 ·go_enter Tryz.func37,Tryz.ntmps37
  go_wp2
  go_ret
  exact⟨rfl,rfl⟩
 ·go_enter Tryz.func37,Tryz.ntmps37
  go_wp2
  go_ret
  exact⟨rfl,rfl⟩
theorem places4 (x:Int)(h0:0≤x)(h1:x<4): ∃v:Int,(#[.int .i64 (-1),.int .i64 1000000000,.int .i64 1000000001,.int .i64 4611686018427387904]:Array Value)[x.toNat]? =some (.int .i64 v):=by
 have h:x=0∨x=1∨x=2∨x=3:=by omega
 rcases h with rfl|rfl|rfl|rfl <;>exact⟨_,rfl⟩
theorem l1DrawPlace (c:Nat)(w:World)(h:Cur w c):
  Calls Tryz.prog 76 #[.pointer (some ⟨c,0,none⟩)] w fun e w'=> ∃v:Int,e=.returned (.int .i64 v)∧Cur w' c∧Kept c w w':=by
 have hlt:=h.lt
 go_enter Tryz.func76,Tryz.ntmps76
 go_wp2_with fail
 refine(l1Once c 8 _ h).mono ?_
 rintro e w0 ⟨b,rfl,c0,k0⟩
 have hl0:=c0.lt
 cases b
 ·go_wp2_with fail
  refine(l1Below c 40 _ c0).mono ?_
  rintro e w1 ⟨x,x0,x1,rfl,c1,k1⟩
  go_wp2_with fail
  go_ret
  exact⟨x,rfl,c1,k0.trans k1⟩
 ·go_wp2_with fail
  refine(l1Below c 4 _ (c0.below ((Below.refl _ _).alloc (Nat.le_refl _) _) (Nat.le_refl _))).mono ?_
  rintro e w1 ⟨x,x0,x1,rfl,c1,k1⟩
  have x2:x<4:=by omega
  clear x1
  obtain⟨v,hv⟩:=places4 x x0 x2
  have hc:=(k1.cell (p:=⟨w0.heap.size,x.toNat,none⟩) (by simp) (show w0.heap.size≠c by omega)).trans ((World.cell?_alloc_new _ _ _ _).trans hv)
  have K1:Hid _:=k1
  have HV:Hid _:=hv
  clear k1 hv
  go_wp2_with fail
  go_ret
  exact⟨v,rfl,c1,(k0.alloc _).trans K1.out⟩
theorem big (a:Option Addr)(len cap:Nat)(w:World)(hm:len≤maxLen):
  Calls Tryz.prog 4 #[.slice a len cap] w fun e w'=>e=.returned (.bool (decide (4096<(len:Int))))∧w=w':=by
 unfold maxLen at hm
 go_enter Tryz.func4,Tryz.ntmps4
 go_wp2
 go_ret
 exact⟨rfl,rfl⟩
theorem bytes_of_row {w:World}{a:Option Addr}{len cap:Nat}{zs:List Int}(h:(a=none∧len=0∧cap=0∧zs=[])∨
  ∃x,a=some x∧len≤cap∧cap≤maxLen∧zs.length=cap∧(∀i,i<zs.length→w.cell? (x.add i)=some (.int .u8 (zs.getD i 0)))∧ ∀n∈zs,(Lit.int .u8 n).wf=true):Bytes w a len∧len≤maxLen:=by
 rcases h with⟨_,rfl,_,_⟩|⟨x,rfl,hl,hm,hz,hc,hw⟩
 ·exact⟨.inl rfl,Nat.zero_le _⟩
 ·refine⟨?_,by omega⟩
  by_cases h0:len=0
  ·exact .inl h0
  ·obtain⟨b,off,spot⟩:=x
   have hspot:spot=none:=by simpa [Addr.add]using World.cell?_spot (hc 0 (by omega))
   subst hspot
   refine .inr ⟨b,off,rfl,fun i hi=>?_⟩
   have hi':i<zs.length:=by omega
   have hwf:=hw (zs.getD i 0) (by simp [List.getD,hi'])
   have hbd:=bounds_u8 hwf
   exact⟨zs.getD i 0,hbd.1,hbd.2,by
    have hh:=hc i hi'
    by_cases hi0:i=0
    ·subst hi0;simpa [Addr.add]using hh
    ·simpa [Addr.add,hi0]using hh⟩
end Go.Proofs.YtfejobjgbadfjaaGreat.Draw
namespace Go.Proofs.YtfejobjgbadfjaaGreat.Tak
open Go.RowKit RowG
theorem mix:Tryz.prog.follows .mixedOrders=true:=by kernel_rfl
abbrev Pt:=Int×ByteArray
def partE:El Pt where
 enc p:=[.int .i64 p.1,.string p.2]
 size:=2
 len _:=rfl
 one p u hu:=by
  simp at hu
  rcases hu with rfl|rfl <;>rfl
 pos:=by decide
def endP (p:Pt):Int:=p.1+p.2.size
def scan (nx lim:Int):Int→List Pt→Option Int
 | last,[]=>some last
 | last,p::r=>if (1≤p.2.size∧p.2.size≤40)∧nx<p.1∧last≤p.1∧endP p≤lim then scan nx lim (endP p) r else none
def limT (nx:Int)(bs:ByteArray)(cp:Int):Int:=nx-bs.size+cp
def inT (nx:Int)(bs:ByteArray)(l:List Pt)(cp:Int):Prop:=(1≤cp∧cp≤400)∧(0≤nx∧nx≤1000000000)∧((bs.size:Int)≤cp∧(bs.size:Int)≤nx)∧l.length≤400
instance (nx:Int) (bs:ByteArray) (l:List Pt) (cp:Int):Decidable (inT nx bs l cp):=by unfold inT;exact inferInstance
def endB (fi last nx:Int)(en:Bool):Bool:=decide (fi= -1∨(Num.plB fi=true∧last≤fi))&&((en==decide (fi=nx))&&Num.plB last)
def takerB (nx:Int)(bs:ByteArray)(l:List Pt)(cp fi:Int)(en:Bool):Bool:=
 decide (inT nx bs l cp)&&match scan nx (limT nx bs cp) nx l with
 | none=>false
 | some last=>endB fi last nx en
theorem infoPart:(Tryz.prog.info? 123).map (fun i=>(i.zero,i.size,i.bytes))=some (some (.agg #[.int .i64 0,.string ByteArray.empty]),2,24):=by kernel_rfl
theorem typ:Typ Tryz.prog 42 123 partE 24:=by
 obtain⟨i,hi,hz0,hz1,hz2⟩:=info_parts infoPart
 exact⟨Tryz.underlying42,i,_,hi,hz0,hz1,hz2,rfl⟩
theorem l1In (n a b:Int)(w:World):Calls Tryz.prog 57 #[.int .i64 n,.int .i64 a,.int .i64 b] w fun x w'=>x=.returned (.bool (decide (a≤n∧n≤b)))∧w=w':=by
 by_cases h0:a≤n
 ·by_cases h1:n≤b
  ·go_enter Tryz.func57,Tryz.ntmps57
   go_wp2_with fail
   go_ret
   exact⟨Num.ret_bool (by simp [h0,h1]),rfl⟩
  ·go_enter Tryz.func57,Tryz.ntmps57
   go_wp2_with fail
   go_ret
   exact⟨Num.ret_bool (by simp [h0,h1]),rfl⟩
 ·go_enter Tryz.func57,Tryz.ntmps57
  go_wp2_with fail
  go_ret
  exact⟨Num.ret_bool (by simp;omega),rfl⟩
theorem l1InEq {n a b:Int}{v:Bool}(h:decide (a≤n∧n≤b)=v)(w:World):Calls Tryz.prog 57 #[.int .i64 n,.int .i64 a,.int .i64 b] w fun x w'=>x=.returned (.bool v)∧w=w':=by
 subst h
 exact l1In n a b w
theorem l1PlaceEq {n:Int}{v:Bool}(h:Num.plB n=v)(w:World):Calls Tryz.prog 56 #[.int .i64 n] w fun x w'=>x=.returned (.bool v)∧w=w':=by
 subst h
 exact Num.l1Place n w
theorem l1Min (a b:Int)(w:World):
  Calls Tryz.prog 38 #[.int .i64 a,.int .i64 b] w fun e w'=>e=.returned (.int .i64 (if a<b then a else b))∧w=w':=by
 by_cases h:a<b
 ·go_enter Tryz.func38,Tryz.ntmps38
  go_wp2_with fail
  go_ret
  exact⟨by simp [h],rfl⟩
 ·go_enter Tryz.func38,Tryz.ntmps38
  go_wp2_with fail
  go_ret
  exact⟨by simp [h],rfl⟩
theorem l5End (p:Int)(b:ByteArray)(w:World)(hp:p≤4611686018427387904)(hp0: -1152921504606846976≤p)(hb:b.size≤1152921504606846976):
  Calls Tryz.prog 81 #[.agg #[.int .i64 p,.string b]] w fun x w'=>x=.returned (.int .i64 (endP (p,b)))∧Below w.heap.size w w':=by
 go_enter Tryz.func81,Tryz.ntmps81
 go_wp2_with fail
 go_ret
 exact⟨rfl,(Below.refl _ _).alloc (Nat.le_refl _) _⟩
theorem l5Limit (nx:Int)(bs:ByteArray)(a:Option Addr)(n c:Nat)(cp fi:Int)(en:Bool)(w:World)(hn:0≤nx∧nx≤1152921504606846976)(hb:bs.size≤1152921504606846976)(hc:0≤cp∧cp≤1152921504606846976):
  Calls Tryz.prog 82 #[.agg #[.int .i64 nx,.string bs,.slice a n c,.int .i64 cp,.int .i64 fi,.bool en]] w fun x w'=>x=.returned (.int .i64 (limT nx bs cp))∧Below w.heap.size w w':=by
 obtain⟨hn0,hn1⟩:=hn
 obtain⟨hc0,hc1⟩:=hc
 go_enter Tryz.func82,Tryz.ntmps82
 go_wp2_with fail
 go_ret
 exact⟨rfl,(Below.refl _ _).alloc (Nat.le_refl _) _⟩
theorem box6 (w:World)(v0 v1 v2 v3 v4 v5:Value)(T:TypeId):(w.alloc (.cells #[v0,v1,v2,v3,v4,v5] T)).cell? ⟨w.heap.size,0,none⟩=some v0∧(w.alloc (.cells #[v0,v1,v2,v3,v4,v5] T)).cell? ⟨w.heap.size,1,none⟩=some v1∧(w.alloc (.cells #[v0,v1,v2,v3,v4,v5] T)).cell? ⟨w.heap.size,2,none⟩=some v2∧(w.alloc (.cells #[v0,v1,v2,v3,v4,v5] T)).cell? ⟨w.heap.size,3,none⟩=some v3∧(w.alloc (.cells #[v0,v1,v2,v3,v4,v5] T)).cell? ⟨w.heap.size,4,none⟩=some v4∧(w.alloc (.cells #[v0,v1,v2,v3,v4,v5] T)).cell? ⟨w.heap.size,5,none⟩=some v5:=by
 simp
theorem box2 (w:World)(v0 v1:Value)(T:TypeId):(w.alloc (.cells #[v0,v1] T)).cell? ⟨w.heap.size,0,none⟩=some v0∧(w.alloc (.cells #[v0,v1] T)).cell? ⟨w.heap.size,1,none⟩=some v1:=by
 simp
end Go.Proofs.YtfejobjgbadfjaaGreat.Tak
