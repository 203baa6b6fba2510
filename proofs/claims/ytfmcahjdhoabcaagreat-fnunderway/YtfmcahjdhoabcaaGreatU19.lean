/- Contracts of this seat's functions, and their mathematics (LinA LinB Mem RegP LinC WorA). -/
import Derived.Test.YtfmcahjdhoabcaaGreatU14
import Derived.Test.YtfmcahjdhoabcaaGreatU15
import Derived.Test.YtfmcahjdhoabcaaGreatU18
import Derived.Test.YtfmcahjdhoabcaaGreatU4
import Derived.Laws.IdiomCopy
set_option linter.unusedVariables false
set_option linter.unusedSimpArgs false
set_option maxRecDepth 10000
set_option maxHeartbeats 4000000

namespace Go.Proofs.YtfmcahjdhoabcaaGreat.Lin
open Go.RowKit RowG Hop
structure Ha where
 h:Hp
 aT:Option Addr
 cT:Nat
 aW:Option Addr
 cW:Nat
abbrev Ha.c (x:Ha):List Value:=x.h.c x.aT x.cT x.aW x.cW
def hopE:El Ha where
 enc x:=x.c
 size:=13
 len _:=rfl
 one x u hu:=by
  simp only [Ha.c,List.mem_cons,List.not_mem_nil,or_false]at hu
  rcases hu with rfl|rfl|rfl|rfl|rfl|rfl|rfl|rfl|rfl|rfl|rfl|rfl|rfl <;>rfl
 pos:=by decide
structure Rows (w:World)(B:Nat)(x:Ha):Prop where
 p:Tak.partE.Own 127 w B x.aT x.cT x.h.t.l
 l:letE.Own 80 w B x.aW x.cW x.h.ws
def Off (x y:Ha):Prop:= ∀p q,x.aW=some p→y.aW=some q→p.block≠q.block
structure LineLay (w:World)(B:Nat)(a:Option Addr)(c:Nat)(xs:List Ha):Prop where
 row:hopE.Own 53 w B a c xs
 rows: ∀x∈xs,Rows w B x
 off: ∀(i j:Nat) (x y:Ha),i≠j→xs[i]? =some x→xs[j]? =some y→Off x y
theorem infoHop:(Tryz.prog.info? 53).map (fun i=>(i.zero,i.size,i.bytes))=some (some (.agg #[.int .i64 0,.string ByteArray.empty,.int .i64 0,.int .i64 0,.bool false,.bool false,.int .i64 0,.string ByteArray.empty,.slice none 0 0,.int .i64 0,.int .i64 0,.bool false,.slice none 0 0]),13,144):=by kernel_rfl
theorem typ:Typ Tryz.prog 24 53 hopE 144:=⟨Tryz.underlying24,by
 obtain⟨i,hi,h0,h1,h2⟩:=info_parts infoHop
 exact⟨i,_,hi,h0,h1,h2,rfl⟩⟩
theorem Rows.later {w w':World}{B:Nat}{x:Ha}(h:Rows w B x)(b:Below w.heap.size w w'):Rows w' B x:=⟨h.p.later b,h.l.later b⟩
theorem LineLay.later {w w':World}{B:Nat}{a:Option Addr}{c:Nat}{xs:List Ha}(h:LineLay w B a c xs)(b:Below w.heap.size w w'):LineLay w' B a c xs:=⟨h.row.later b,fun x hx=>(h.rows x hx).later b,h.off⟩
theorem LineLay.kept {w w':World}{B k:Nat}{a:Option Addr}{c:Nat}{xs:List Ha}(h:LineLay w B a c xs)(b:Draw.Kept k w w')(hk:k<B):LineLay w' B a c xs:=
 ⟨h.row.kept b (fun x hx=>by have:=(h.row.lt x hx).1;omega),fun x hx=>⟨(h.rows x hx).p.kept b (fun y hy=>by have:=((h.rows x hx).p.lt y hy).1;omega),(h.rows x hx).l.kept b (fun y hy=>by have:=((h.rows x hx).l.lt y hy).1;omega)⟩,h.off⟩
theorem LineLay.drew {w:World}{B:Nat}{a:Option Addr}{c:Nat}{xs:List Ha}(h:LineLay w B a c xs):LineLay w.drew B a c xs:=⟨h.row.drew,fun x hx=>⟨(h.rows x hx).p.drew,(h.rows x hx).l.drew⟩,h.off⟩
theorem LineLay.alloc {w:World}{B:Nat}{a:Option Addr}{c:Nat}{xs:List Ha}(h:LineLay w B a c xs)(o:Obj):LineLay (w.alloc o) B a c xs:=h.later ((Below.refl _ _).alloc (Nat.le_refl _) _)
theorem LineLay.mono {w:World}{B B':Nat}{a:Option Addr}{c:Nat}{xs:List Ha}(h:LineLay w B' a c xs)(hB:B≤B'):LineLay w B a c xs:=⟨h.row.mono hB,fun x hx=>⟨(h.rows x hx).p.mono hB,(h.rows x hx).l.mono hB⟩,h.off⟩
theorem LineLay.step {w:World}{B g:Nat}{c:Nat}{xs:List Ha}(L:LineLay w B (some ⟨g,0,none⟩) c xs){i:Nat}{x:Ha}(hx:xs[i]? =some x):
  ∃pre post,Win 53 pre post (i*13) w g x.c∧Rows w B x∧ ∀w' (y:Ha),Win 53 pre post (i*13) w' g y.c→Rows w' B y→Keep g (blk x.aW) w w'→Locd w.heap.size x.aW y.aW→LineLay w' B (some ⟨g,0,none⟩) c (xs.set i y):=by
 obtain⟨pre,post,v,back⟩:=L.row.win hx
 have hxm:=List.mem_of_getElem? hx
 refine⟨pre,post,v,L.rows x hxm,fun w' y v' r' kp loc=>⟨back w' y v',?_,?_⟩⟩
 ·intro z hz
  obtain⟨j,hj,rfl⟩:=List.getElem_of_mem hz
  by_cases e:i=j
  ·subst e
   rw [List.getElem_set_self]
   exact r'
  ·rw [List.getElem_set_ne e]
   have hj':j<xs.length:=by simpa using hj
   have hzj:xs[j]? =some xs[j]:=List.getElem?_eq_getElem hj'
   have R:=L.rows xs[j] (List.getElem_mem hj')
   have hoff:=L.off i j x xs[j] e hx hzj
   have Rx:=L.rows x hxm
   refine⟨R.p.keep kp (own_win (by decide) R.p v) (own_two (by decide) R.p Rx.l),R.l.keep kp (own_win (by decide) R.l v) ?_⟩
   intro q hq e'
   cases hw:x.aW with
   | none=>rw [hw]at e';simp [blk]at e'
   | some p=>
    rw [hw]at e'
    simp only [blk,Option.map_some,Option.some.injEq]at e'
    exact hoff p q hw hq e'.symm
 ·intro j k z u hjk hz hu
  have key: ∀(m:Nat) (t:Ha),i≠m→xs[m]? =some t→Off y t∧Off t y:=by
   intro m t him ht
   have R:=L.rows t (List.mem_of_getElem? ht)
   have hoff:=L.off i m x t him hx ht
   have main:Off y t:=by
    intro p q hp hq
    rcases loc p hp with⟨p',hp',e⟩|e
    ·rw [←e]
     exact hoff p' q hp' hq
    ·have:=(R.l.lt q hq).2
     omega
   exact⟨main,fun p q hp hq=>Ne.symm (main q p hq hp)⟩
  by_cases ej:i=j
  ·subst ej
   have hlen:i<xs.length:=(List.getElem?_eq_some_iff.1 hx).1
   rw [List.getElem?_set_self hlen]at hz
   cases hz
   rw [List.getElem?_set_ne hjk]at hu
   exact(key k u hjk hu).1
  ·rw [List.getElem?_set_ne ej]at hz
   by_cases ek:i=k
   ·subst ek
    have hlen:i<xs.length:=(List.getElem?_eq_some_iff.1 hx).1
    rw [List.getElem?_set_self hlen]at hu
    cases hu
    exact(key j z ej hz).2
   ·rw [List.getElem?_set_ne ek]at hu
    exact L.off j k z u hjk hz hu
structure NT (T:TypeId):Prop where
 h:T≠53
 p:T≠127
 l:T≠80
 r:T≠100
theorem LineLay.keptW {T:TypeId}{pre post:List Value}{ow:Nat}{w w':World}{B k:Nat}{a:Option Addr}{c:Nat}{xs:List Ha}{vs:List Value}(L:LineLay w B a c xs)(v:Win T pre post ow w k vs)(hT:NT T)(b:Draw.Kept k w w'):LineLay w' B a c xs:=
 ⟨L.row.kept b (own_win hT.h L.row v),fun x hx=>⟨(L.rows x hx).p.kept b (own_win hT.p (L.rows x hx).p v),(L.rows x hx).l.kept b (own_win hT.l (L.rows x hx).l v)⟩,L.off⟩
end Go.Proofs.YtfmcahjdhoabcaaGreat.Lin
namespace Go.Proofs.YtfmcahjdhoabcaaGreat.RowG
open Go.RowKit
theorem win_part {T:TypeId}{k:Nat}: ∀(vs:List Value) (o:Nat) (w:World) (p m q:List Value),Var T w k (p++m++q)→p.length=o→m.length=vs.length→Var T (w.setCells k o vs) k (p++vs++q)
 | [],o,w,p,m,q,h,hp,hm=>by
  have:m=[]:=List.eq_nil_of_length_eq_zero hm
  subst this
  exact h
 | v::vs,o,w,p,m,q,h,hp,hm=>by
  cases m with
  | nil=>simp at hm
  | cons u m=>
   have h1:=h.set o v
   have e:(p++u::m++q).set o v=(p++[v])++m++q:=by
    subst hp
    simp
   rw [e]at h1
   have:=win_part vs (o+1) _ (p++[v]) m q h1 (by simp [hp]) (by simpa using hm)
   simpa [World.setCells]using this
theorem kept_cells {k:Nat}{w0:World}: ∀(vs:List Value) (o:Nat) (w:World),Draw.Kept k w0 w→Draw.Kept k w0 (w.setCells k o vs)
 | [],_,_,h=>h
 | v::vs,o,w,h=>kept_cells vs (o+1) _ (h.setCell (p:=⟨k,o,none⟩) (.inl rfl) v)
variable {P:Program} {T T0:TypeId} {pre post:List Value} {o:Nat}
theorem run_store_win {w:World}{k:Nat}{old vs:List Value}(hi:(P.info? T).map (·.size)=some vs.length)(hw:Win T0 pre post o w k old)(hl:old.length=vs.length)(h1: ∀v∈vs,v.oneCell'=true):
  ∃w',(Instr.storeAt T (.pointer (some ⟨k,o,none⟩)) (.agg vs.toArray)).run P w=.ok () w'∧Win T0 pre post o w' k vs∧Draw.Kept k w w':=by
 obtain⟨i,hi,hs⟩: ∃i,P.info? T=some i∧i.size=vs.length:=by
  cases h:P.info? T with
  | none=>rw [h]at hi;cases hi
  | some i=>rw [h]at hi;exact⟨i,rfl,by simpa using hi⟩
 have hst:=run_storeCells_cells (P:=P) k o vs 0 w (fun j hj=>by
   rw [Nat.add_zero,hw.cell (i:=j) (List.getElem?_eq_getElem (by omega))];rfl) (fun j _=>by rw [Nat.add_zero];exact hw.free j) h1
 rw [Nat.add_zero]at hst
 refine⟨w.setCells k o vs,?_,⟨hw.len,win_part vs o w pre old post hw.var hw.len hl⟩,kept_cells vs o w (Draw.Kept.refl _ _)⟩
 simp [Instr.storeAt,storeVar,Instr.sureAddr,asAddr,sizeOf,typeInfo,hi,hs,Value.cells,hst,Result.andThen]
theorem run_load_win {w:World}{k:Nat}{vs:List Value}(hi:(P.info? T).map (·.size)=some vs.length)(hu: ∃fs,P.underlying T=some (.struct fs))(hw:Win T0 pre post o w k vs):
  (Instr.loadAt T (.pointer (some ⟨k,o,none⟩))).run P w=.ok (.agg vs.toArray) w:=by
 obtain⟨i,hi,hs⟩: ∃i,P.info? T=some i∧i.size=vs.length:=by
  cases h:P.info? T with
  | none=>rw [h]at hi;cases hi
  | some i=>rw [h]at hi;exact⟨i,rfl,by simpa using hi⟩
 obtain⟨fs,hu⟩:=hu
 have hld:=run_loadCells_list (P:=P) (w:=w) ⟨k,o,none⟩ vs (fun j v hv=>by rw [add_lit];exact hw.cell hv)
 simp [Instr.loadAt,loadVar,Instr.sureAddr,asAddr,isAgg,run_underlying hu,sizeOf,typeInfo,hi,hs,hld,Result.andThen]
theorem wp_store_win {w:World}{op:Oper}{a:Act}{K:Act→World→Prop}{Q:Exit→Act→World→Prop}(p x:Operand)(ho:op.op=.store T p x){k:Nat}{old vs:List Value}(hp:a.eval p=.pointer (some ⟨k,o,none⟩))(hx:a.eval x=.agg vs.toArray)
  (hi:(P.info? T).map (·.size)=some vs.length) (hw:Win T0 pre post o w k old) (hl:old.length=vs.length) (h1: ∀v∈vs,v.oneCell'=true) (h: ∀w',Win T0 pre post o w' k vs→Draw.Kept k w w'→K (a.put op.dst undef) w'):op.wp P a w K Q:=by
 obtain⟨w',hr,h2,h3⟩:=run_store_win (P:=P) (T:=T) hi hw hl h1
 unfold Oper.wp
 simp [execOp,ho,hp,hx,hr,Result.andThen,Oper.upon]
 exact h w' h2 h3
theorem wp_load_win {w:World}{op:Oper}{a:Act}{K:Act→World→Prop}{Q:Exit→Act→World→Prop}(p:Operand)(ho:op.op=.load T p){k:Nat}{vs:List Value}(hp:a.eval p=.pointer (some ⟨k,o,none⟩))
  (hi:(P.info? T).map (·.size)=some vs.length) (hu: ∃fs,P.underlying T=some (.struct fs)) (hw:Win T0 pre post o w k vs) (h:K (a.put op.dst (.agg vs.toArray)) w):op.wp P a w K Q:=by
 have hr:=run_load_win (P:=P) (T:=T) hi hu hw
 unfold Oper.wp
 simp [execOp,ho,hp,hr,Result.andThen,Oper.upon]
 exact h
theorem step_store_win {w:World}{op:Oper}{a:Act}{K:Act→World→Prop}{Q:Exit→Act→World→Prop}{X:Prop}{ops:Array Oper}(hgd:op.guard=none)(p x:Operand)(ho:op.op=.store T p x){k:Nat}{old vs:List Value}(hp:a.eval p=.pointer (some ⟨k,o,none⟩))(hx:a.eval x=.agg vs.toArray)
  (hi:(P.info? T).map (·.size)=some vs.length) (hw:Win T0 pre post o w k old) (hl:old.length=vs.length) (h1: ∀v∈vs,v.oneCell'=true) (h: ∀w',Win T0 pre post o w' k vs→Draw.Kept k w w'→K (a.put op.dst undef) w'):if Region.wanted op (yielded ops a.tmps)=true then Oper.wp P op a w K Q else X:=by
 rw [if_pos (by simp [Region.wanted,hgd])]
 exact wp_store_win p x ho hp hx hi hw hl h1 h
theorem step_load_win {w:World}{op:Oper}{a:Act}{K:Act→World→Prop}{Q:Exit→Act→World→Prop}{X:Prop}{ops:Array Oper}(hgd:op.guard=none)(p:Operand)(ho:op.op=.load T p){k:Nat}{vs:List Value}(hp:a.eval p=.pointer (some ⟨k,o,none⟩))
  (hi:(P.info? T).map (·.size)=some vs.length) (hu: ∃fs,P.underlying T=some (.struct fs)) (hw:Win T0 pre post o w k vs) (h:K (a.put op.dst (.agg vs.toArray)) w):if Region.wanted op (yielded ops a.tmps)=true then Oper.wp P op a w K Q else X:=by
 rw [if_pos (by simp [Region.wanted,hgd])]
 exact wp_load_win p ho hp hi hu hw h
theorem run_load_cells {w:World}{k:Nat}{vs:List Value}(hi:(P.info? T).map (·.size)=some vs.length)(hu: ∃fs,P.underlying T=some (.struct fs))(hw: ∀j v,vs[j]? =some v→w.cell? ⟨k,o+j,none⟩=some v):
  (Instr.loadAt T (.pointer (some ⟨k,o,none⟩))).run P w=.ok (.agg vs.toArray) w:=by
 obtain⟨i,hi,hs⟩: ∃i,P.info? T=some i∧i.size=vs.length:=by
  cases h:P.info? T with
  | none=>rw [h]at hi;cases hi
  | some i=>rw [h]at hi;exact⟨i,rfl,by simpa using hi⟩
 obtain⟨fs,hu⟩:=hu
 have hld:=run_loadCells_list (P:=P) (w:=w) ⟨k,o,none⟩ vs (fun j v hv=>by rw [add_lit];exact hw j v hv)
 simp [Instr.loadAt,loadVar,Instr.sureAddr,asAddr,isAgg,run_underlying hu,sizeOf,typeInfo,hi,hs,hld,Result.andThen]
theorem step_load_cells {w:World}{op:Oper}{a:Act}{K:Act→World→Prop}{Q:Exit→Act→World→Prop}{X:Prop}{ops:Array Oper}(hgd:op.guard=none)(p:Operand)(ho:op.op=.load T p){k:Nat}{vs:List Value}(hp:a.eval p=.pointer (some ⟨k,o,none⟩))
  (hi:(P.info? T).map (·.size)=some vs.length) (hu: ∃fs,P.underlying T=some (.struct fs)) (hw: ∀j v,vs[j]? =some v→w.cell? ⟨k,o+j,none⟩=some v) (h:K (a.put op.dst (.agg vs.toArray)) w):if Region.wanted op (yielded ops a.tmps)=true then Oper.wp P op a w K Q else X:=by
 rw [if_pos (by simp [Region.wanted,hgd])]
 have hr:=run_load_cells (P:=P) (T:=T) hi hu hw
 unfold Oper.wp
 simp [execOp,ho,hp,hr,Result.andThen,Oper.upon]
 exact h
theorem El.Lies.cells {α:Type}{E:El α}{w:World}{b off:Nat}{l:List α}(h:E.Lies w (some ⟨b,off,Option.none⟩) l){i:Nat}{x:α}(hx:l[i]? =some x): ∀j v,(E.enc x)[j]? =some v→w.cell? ⟨b,off+i*E.size+j,Option.none⟩=some v:=by
 intro j v hv
 rcases h with h|⟨b',off',he,h⟩
 ·subst h;simp at hx
 ·cases he
  rw [Nat.add_assoc]
  exact El.Lies.cell h hx hv
end Go.Proofs.YtfmcahjdhoabcaaGreat.RowG
namespace Go.Proofs.YtfmcahjdhoabcaaGreat.RegJ
open Go.RowKit
abbrev Tie:=Nat×Nat×(Value→World→Prop)
def ValP (vs:List (Option Value))(ps:List Tie)(d:Nat→Bool)(j:Nat)(v:Value)(w:World):Prop:=Val vs d j v w∧ ∀q∈ps,j=q.1→d q.2.1=false→q.2.2 v w
theorem ValP.keep {vs:List (Option Value)}{ps:List Tie}{d:Nat→Bool}{x:Nat→Value}{w w':World}{i:Nat}(h: ∀q∈ps,i=q.1∨i=q.2.1∨d q.2.1=true∨ ∀v,q.2.2 v w→q.2.2 v w'):
  ∀j,j≠i→ValP vs ps d j (x j) w→ValP vs ps (fun j=>j==i||d j) j (x j) w':=fun j hj hv=>
 ⟨Val.keep j hj hv.1,fun q hq he hz=>by
  have hz':(q.2.1==i)=false∧d q.2.1=false:=by simpa using hz
  rcases h q hq with h1|h1|h1|h1
  ·exact absurd (he.trans h1.symm) hj
  ·simp [h1]at hz'
  ·rw [hz'.2]at h1;cases h1
  ·exact h1 _ (hv.2 q hq he hz'.2)⟩
theorem ValP.same {vs:List (Option Value)}{ps:List Tie}{d:Nat→Bool}{x:Nat→Value}{w:World}{i:Nat}: ∀j,j≠i→ValP vs ps d j (x j) w→ValP vs ps (fun j=>j==i||d j) j (x j) w:=ValP.keep fun _ _=>.inr (.inr (.inr fun _ h=>h))
theorem ValP.this {vs:List (Option Value)}{ps:List Tie}{d:Nat→Bool}{w:World}{i:Nat}{v:Value}(h:vs[i]? =some (some v)∨vs[i]? =some none)(hp: ∀q∈ps,i=q.1→q.2.2 v w):ValP vs ps (fun j=>j==i||d j) i v w:=
 ⟨Val.this h,fun q hq he _=>hp q hq he⟩
theorem ValP.free {vs:List (Option Value)}{ps:List Tie}{d:Nat→Bool}{w:World}{i:Nat}{v:Value}(h:vs[i]? =some (some v)∨vs[i]? =some none)(hn:(ps.all fun q=>q.1 !=i)=true):ValP vs ps (fun j=>j==i||d j) i v w:=
 ValP.this h fun q hq he=>by
  simp only [List.all_eq_true]at hn
  have:=hn q hq
  simp [he]at this
theorem ValP.val {vs:List (Option Value)}{ps:List Tie}{d:Nat→Bool}{j:Nat}{v:Value}{w:World}(h:ValP vs ps d j v w){u:Value}(hu:vs[j]? =some (some u)):v=u:=h.1.2 u hu
theorem ValP.done {vs:List (Option Value)}{ps:List Tie}{d:Nat→Bool}{j:Nat}{v:Value}{w:World}(h:ValP vs ps d j v w):d j=true:=h.1.1
theorem ValP.tie {vs:List (Option Value)}{ps:List Tie}{d:Nat→Bool}{j:Nat}{v:Value}{w:World}(h:ValP vs ps d j v w)(q:Tie)(hq:q∈ps)(he:j=q.1)(hz:d q.2.1=false):q.2.2 v w:=h.2 q hq he hz
end Go.Proofs.YtfmcahjdhoabcaaGreat.RegJ
namespace Go.Proofs.YtfmcahjdhoabcaaGreat.Lin
open Go.RowKit RowG Hop
structure RL (w:World)(x:Ha):Prop where
 p:Tak.partE.Lies w x.aT x.h.t.l
 l:letE.Lies w x.aW x.h.ws
 np:x.aT=none→x.cT=0
 nl:x.aW=none→x.cW=0
structure LL (w:World)(a:Option Addr)(xs:List Ha):Prop where
 row:hopE.Lies w a xs
 rows: ∀x∈xs,RL w x
theorem RL.later {w w':World}{x:Ha}(h:RL w x)(b:Below w.heap.size w w'):RL w' x:=⟨h.p.later b,h.l.later b,h.np,h.nl⟩
theorem LL.later {w w':World}{a:Option Addr}{xs:List Ha}(h:LL w a xs)(b:Below w.heap.size w w'):LL w' a xs:=⟨h.row.later b,fun x hx=>(h.rows x hx).later b⟩
theorem LL.drew {w:World}{a:Option Addr}{xs:List Ha}(h:LL w a xs):LL w.drew a xs:=⟨h.row.drew,fun x hx=>⟨(h.rows x hx).p.drew,(h.rows x hx).l.drew,(h.rows x hx).np,(h.rows x hx).nl⟩⟩
theorem LineLay.ll {w:World}{B:Nat}{a:Option Addr}{c:Nat}{xs:List Ha}(L:LineLay w B a c xs):LL w a xs:=⟨L.row.lies,fun x hx=>⟨(L.rows x hx).p.lies,(L.rows x hx).l.lies,(L.rows x hx).p.none_cap,(L.rows x hx).l.none_cap⟩⟩
def Few (x:Ha):Prop:=x.h.t.l.length≤524288∧x.h.ws.length≤524288
structure CpW (w:World)(S0 k3:Nat)(l1 l2:List Value)(a:Option Addr)(xs:List Ha)(g' c'':Nat)(rs:List Roa.Rd)(k:Nat)(ao:Option Addr)(co:Nat)(ys:List Ha)(h:Hp)(d:Nat→Bool)(wr:World):Prop where
 v1:Var 27 wr w.heap.size l1
 v2:Var 27 wr (w.heap.size+1) l2
 L:LL wr a xs
 R:Roa.E.Own 100 wr w.heap.size (some ⟨g',0,none⟩) c'' rs
 b:Below w.heap.size w wr
 z:S0≤wr.heap.size
 old:d 9=false→LineLay wr w.heap.size ao co ys
 var:d 11=false→Var 27 wr k3 [.slice ao k co,.slice (some ⟨g',0,none⟩) rs.length c'']
 new:d 11=true→ ∃a' c' y,y.h=h∧Var 27 wr k3 [.slice a' (k+1) c',.slice (some ⟨g',0,none⟩) rs.length c'']∧LineLay wr w.heap.size a' c' (ys++[y])
def TieV (S:Nat)(h:Hp)(v:Value)(w:World):Prop:= ∃y:Ha,y.h=h∧v=.agg y.c.toArray∧Rows w S y
def TieS (S:Nat)(h:Hp)(v:Value)(w:World):Prop:= ∃(y:Ha) (m:Nat),S≤m∧y.h=h∧v=.slice (some ⟨m,0,none⟩) 1 1∧Var 53 w m y.c∧Rows w S y
def TieL (B:Nat)(n:Nat)(ys:List Ha)(h:Hp)(v:Value)(w:World):Prop:= ∃(y:Ha) (a:Option Addr) (c:Nat),y.h=h∧v=.slice a n c∧LineLay w B a c (ys++[y])
theorem TieV.later {S:Nat}{h:Hp}{v:Value}{w w':World}(t:TieV S h v w)(b:Below w.heap.size w w'):TieV S h v w':=by
 obtain⟨y,h1,h2,h3⟩:=t
 exact⟨y,h1,h2,h3.later b⟩
theorem TieS.later {S:Nat}{h:Hp}{v:Value}{w w':World}(t:TieS S h v w)(b:Below w.heap.size w w'):TieS S h v w':=by
 obtain⟨y,m,h0,h1,h2,h3,h4⟩:=t
 exact⟨y,m,h0,h1,h2,h3.later b,h4.later b⟩
theorem TieL.later {B n:Nat}{ys:List Ha}{h:Hp}{v:Value}{w w':World}(t:TieL B n ys h v w)(b:Below w.heap.size w w'):TieL B n ys h v w':=by
 obtain⟨y,a,c,h1,h2,h3⟩:=t
 exact⟨y,a,c,h1,h2,h3.later b⟩
theorem CpW.later {w:World}{S0 k3:Nat}{l1 l2:List Value}{a:Option Addr}{xs:List Ha}{g' c'':Nat}{rs:List Roa.Rd}{k:Nat}{ao:Option Addr}{co:Nat}{ys:List Ha}{h:Hp}{d d':Nat→Bool}{wr w':World}
  (q:CpW w S0 k3 l1 l2 a xs g' c'' rs k ao co ys h d wr) (b:Below wr.heap.size wr w') (h9:d' 9=d 9) (h11:d' 11=d 11):CpW w S0 k3 l1 l2 a xs g' c'' rs k ao co ys h d' w':=
 ⟨q.v1.later b,q.v2.later b,q.L.later b,q.R.later b,q.b.trans (b.mono q.b.size),Nat.le_trans q.z b.size,fun e=>(q.old (h9▸e)).later b,fun e=>(q.var (h11▸e)).later b,fun e=>by
  obtain⟨a',c',y,h1,h2,h3⟩:=q.new (h11▸e)
  exact⟨a',c',y,h1,h2.later b,h3.later b⟩⟩
theorem LineLay.snoc {w w':World}{B S:Nat}{ao a':Option Addr}{co c':Nat}{ys:List Ha}{y:Ha}(L:LineLay w B ao co ys)(o:hopE.Own 53 w' B a' c' (ys++[y]))(g:w.grownBy w' (blk ao))(R:Rows w S y)(hS:B≤S)(hy: ∀z∈ys,∀p,z.aW=some p→p.block<S):LineLay w' B a' c' (ys++[y]):=by
 have hne: ∀ {α:Type} {E:El α} {T:TypeId} {B' c:Nat} {a:Option Addr} {l:List α},T≠53→E.Own T w B' a c l→E.Own T w' B' a c l:=by
  intro α E T B' c a l hT h
  refine h.grown g (fun x hx e=>?_)
  cases hao:ao with
  | none=>rw [hao]at e;cases e
  | some p=>
   rw [hao]at e
   simp only [blk,Option.map_some,Option.some.injEq]at e
   obtain⟨cs,h1⟩:=own_row h x hx
   obtain⟨cs',h2⟩:=own_row L.row p hao
   rw [e]at h1
   rw [h1]at h2
   injection h2 with h2
   injection h2 with _ h3 _
   exact hT h3
 refine⟨o,fun x hx=>?_,?_⟩
 ·rcases List.mem_append.1 hx with hx|hx
  ·exact⟨hne (by decide) (L.rows x hx).p,hne (by decide) (L.rows x hx).l⟩
  ·obtain rfl:x=y:=by simpa using hx
   exact⟨(hne (by decide) R.p).mono hS,(hne (by decide) R.l).mono hS⟩
 ·have key: ∀z∈ys,Off z y∧Off y z:=by
   intro z hz
   have:Off z y:=fun p q hp hq=>by
    have h1:=hy z hz p hp
    have h2:=(R.l.lt q hq).1
    omega
   exact⟨this,fun p q hp hq=>Ne.symm (this q p hq hp)⟩
  intro i j x z hij hx hz
  rcases Nat.lt_or_ge i ys.length with hi|hi <;>rcases Nat.lt_or_ge j ys.length with hj|hj
  ·rw [List.getElem?_append_left hi]at hx
   rw [List.getElem?_append_left hj]at hz
   exact L.off i j x z hij hx hz
  ·rw [List.getElem?_append_left hi]at hx
   rw [List.getElem?_append_right hj]at hz
   obtain rfl:z=y:=by
    rcases Nat.eq_zero_or_pos (j-ys.length)with e|e
    ·rw [e]at hz;simpa using hz.symm
    ·rw [List.getElem?_eq_none (by simp;omega)]at hz;cases hz
   exact(key x (List.mem_of_getElem? hx)).1
  ·rw [List.getElem?_append_right hi]at hx
   rw [List.getElem?_append_left hj]at hz
   obtain rfl:x=y:=by
    rcases Nat.eq_zero_or_pos (i-ys.length)with e|e
    ·rw [e]at hx;simpa using hx.symm
    ·rw [List.getElem?_eq_none (by simp;omega)]at hx;cases hx
   exact(key z (List.mem_of_getElem? hz)).2
  ·rw [List.getElem?_append_right hi]at hx
   rw [List.getElem?_append_right hj]at hz
   have h1:=(List.getElem?_eq_some_iff.1 hx).1
   have h2:=(List.getElem?_eq_some_iff.1 hz).1
   simp at h1 h2
   omega
theorem LineLay.keptV {T:TypeId}{w w':World}{B k:Nat}{a:Option Addr}{c:Nat}{xs:List Ha}{vs:List Value}(L:LineLay w B a c xs)(v:Var T w k vs)(h1:T≠53)(h2:T≠127)(h3:T≠80)(b:Draw.Kept k w w'):LineLay w' B a c xs:=
 ⟨L.row.kept b (own_win h1 L.row v.win),fun x hx=>⟨(L.rows x hx).p.kept b (own_win h2 (L.rows x hx).p v.win),(L.rows x hx).l.kept b (own_win h3 (L.rows x hx).l v.win)⟩,L.off⟩
theorem lies_var {w:World}{m:Nat}{y:Ha}(v:Var 53 w m y.c):hopE.Lies w (some ⟨m,0,none⟩) [y]:=by
 refine .inr ⟨m,0,rfl,fun j u hu=>?_⟩
 rw [El.vals_one]at hu
 rw [Nat.zero_add]
 exact v.cell hu
theorem or_ne {d:Nat→Bool}{n q:Nat}(h:n≠q):(n==q||d n)=d n:=by simp [h]
theorem LineLay.nil (w:World)(B:Nat):LineLay w B none 0 []:=⟨El.Own.none _ _,(fun x hx=>by simp at hx),(fun i j x y _ hx=>by simp at hx)⟩
theorem infoHop2:(Tryz.prog.info? 53).map (·.size)=some 13:=by kernel_rfl
theorem structHop2: ∃fs,Tryz.prog.underlying 53=some (.struct fs):=⟨_,Tryz.underlying53⟩
theorem l13Copy (a aR:Option Addr)(n m cH cR:Nat)(xs:List Ha)(rs:List Roa.Rd)(w:World)(hn:n=xs.length)(hm:m=rs.length)(L:LL w a xs)(R:Roa.E.Lies w aR rs)(hR:aR=none→cR=0)(hl:xs.length≤1000)(hr:rs.length≤1000)(hf: ∀x∈xs,Few x):
  Calls Tryz.prog 61 #[.agg #[.slice a n cH,.slice aR m cR]] w fun e w'=> ∃a' c' ys g' c'',e=.returned (.agg #[.slice a' n c',.slice (some ⟨g',0,none⟩) m c''])∧LineLay w' w.heap.size a' c' ys∧ys.map (·.h)=xs.map (·.h)∧Roa.E.Own 100 w' w.heap.size (some ⟨g',0,none⟩) c'' rs∧Below w.heap.size w w':=by
 subst hn hm
 have hmix:=Roa.mix
 have v1:Var 27 ((w.alloc (.cells #[.slice a xs.length cH,.slice aR rs.length cR] 27)).alloc (.cells #[.slice none 0 0,.slice none 0 0] 27)) w.heap.size [.slice a xs.length cH,.slice aR rs.length cR]:=(Var.new w _).alloc _
 have v2:Var 27 ((w.alloc (.cells #[.slice a xs.length cH,.slice aR rs.length cR] 27)).alloc (.cells #[.slice none 0 0,.slice none 0 0] 27)) (w.heap.size+1) [.slice none 0 0,.slice none 0 0]:=by
  have q:=Var.new (T:=27) (w.alloc (.cells #[.slice a xs.length cH,.slice aR rs.length cR] 27)) [.slice none 0 0,.slice none 0 0]
  simpa using q
 have b0:Below w.heap.size w ((w.alloc (.cells #[.slice a xs.length cH,.slice aR rs.length cR] 27)).alloc (.cells #[.slice none 0 0,.slice none 0 0] 27)):=((Below.refl _ _).alloc (Nat.le_refl _) _).alloc (by simp) _
 go_enter Tryz.func61,Tryz.ntmps61
 go_wp2_with fail
 generalize (w.alloc (.cells #[.slice a xs.length cH,.slice aR rs.length cR] 27)).alloc (.cells #[.slice none 0 0,.slice none 0 0] 27)=V at *
 have v2V:=v2.lt
 refine(Roa.l10Copy _ _ _ rs _ rfl (R.later b0) hR (by omega)).mono ?_
 rintro e w1 ⟨g',c'',rfl,oR,b1⟩
 replace v1:=v1.later b1
 replace v2:=v2.later b1
 have B1:=b0.trans (b1.mono b0.size)
 have hV:w.heap.size+1<V.heap.size:=v2V
 clear b0 b1
 have v3:Var 27 (w1.alloc (.cells #[.slice none 0 0,.slice (some ⟨g',0,none⟩) rs.length c''] 27)) w1.heap.size [.slice none 0 0,.slice (some ⟨g',0,none⟩) rs.length c'']:=Var.new w1 _
 have R1:=(El.Own.mono (E:=Roa.E) oR (Nat.le_of_lt (Nat.lt_of_lt_of_le (Nat.lt_succ_self _) (Nat.le_of_lt hV)))).alloc (.cells #[.slice none 0 0,.slice (some ⟨g',0,none⟩) rs.length c''] 27)
 have b2:=B1.alloc B1.size (.cells #[.slice none 0 0,.slice (some ⟨g',0,none⟩) rs.length c''] 27)
 replace v1:=v1.alloc (.cells #[.slice none 0 0,.slice (some ⟨g',0,none⟩) rs.length c''] 27)
 have hk2:=v2.lt
 replace v2:=v2.alloc (.cells #[.slice none 0 0,.slice (some ⟨g',0,none⟩) rs.length c''] 27)
 go_wp2_with fail
 generalize w1.alloc (.cells #[.slice none 0 0,.slice (some ⟨g',0,none⟩) rs.length c''] 27)=V3 at *
 generalize w1.heap.size=k3 at *
 clear B1 oR
 go_loopw [4] (fun iv wr=> ∃(k co:Nat) (ao:Option Addr) (ys:List Ha),k≤xs.length∧iv=.int .i64 k∧Hid (ys.map (·.h)=(xs.take k).map (·.h))∧Var 27 wr w.heap.size [.slice a xs.length cH,.slice aR rs.length cR]∧Var 27 wr (w.heap.size+1) [.slice none 0 0,.slice none 0 0]∧Var 27 wr k3 [.slice ao k co,.slice (some ⟨g',0,none⟩) rs.length c'']∧LineLay wr w.heap.size ao co ys∧Roa.E.Own 100 wr w.heap.size (some ⟨g',0,none⟩) c'' rs∧Below w.heap.size w wr) (fun iv _=>xs.length-(intOf iv).toNat)
 case atStart=>exact⟨0,0,none,[],by omega,rfl,rfl,v1,v2,v3,LineLay.nil _ _,R1,b2⟩
 case round=>
  clear v1 v2 v3 R1 b2
  obtain⟨k,co,ao,ys,hk,rfl,hmap,v1,v2,v3,L1,R1,B1⟩:=hrel
  have e1:=v1.cell (i:=0) rfl
  by_cases hkx:k<xs.length
  ·have i0:(k:Int)<(xs.length:Int):=by omega
   have i1:(0:Int)≤(k:Int):=by omega
   obtain⟨x0,hx⟩: ∃x,xs[k]? =some x:=⟨xs[k],List.getElem?_eq_getElem hkx⟩
   have hxm:=List.mem_of_getElem? hx
   have Lw:=L.later B1
   obtain⟨b,off,rfl⟩: ∃b off,a=some ⟨b,off,none⟩:=by
    rcases Lw.row with hs|⟨b,off,rfl,_⟩
    ·simp [hs]at hkx
    ·exact⟨b,off,rfl⟩
   have hkl:Hid (k=ys.length):=by
    show _=_
    have:=congrArg List.length hmap.out
    simp at this
    omega
   obtain⟨S0,hS0,hS1,hS2,hys⟩: ∃S0,S0≤wr.drew.heap.size∧k3<S0∧w.heap.size≤S0∧ ∀z∈ys,∀p,z.aW=some p→p.block<S0:=⟨wr.heap.size,Nat.le_refl _,v3.lt,B1.size,fun z hz p hp=>((L1.rows z hz).l.lt p hp).2⟩
   have hst: ∀q∈([(7,8,TieV S0 x0.h),(8,9,TieS S0 x0.h),(9,11,TieL w.heap.size (k+1) ys x0.h)]:List RegJ.Tie),∀v (w1 w2:World),Below w1.heap.size w1 w2→q.2.2 v w1→q.2.2 v w2:=by
    intro q hq v wa wb ba h
    simp only [List.mem_cons,List.not_mem_nil,or_false]at hq
    rcases hq with rfl|rfl|rfl
    ·exact TieV.later h ba
    ·exact TieS.later h ba
    ·exact TieL.later h ba
   have keepW: ∀(q:Nat) (d:Nat→Bool) (w':World),CpW w S0 k3 [.slice (some ⟨b,off,none⟩) xs.length cH,.slice aR rs.length cR] [.slice none 0 0,.slice none 0 0] (some ⟨b,off,none⟩) xs g' c'' rs k ao co ys x0.h d w'→q≠9∧q≠11→CpW w S0 k3 [.slice (some ⟨b,off,none⟩) xs.length cH,.slice aR rs.length cR] [.slice none 0 0,.slice none 0 0] (some ⟨b,off,none⟩) xs g' c'' rs k ao co ys x0.h (fun j=>j==q||d j) w':=fun q d w' h hq=>h.later (Below.refl _ _) (or_ne (Ne.symm hq.1)) (or_ne (Ne.symm hq.2))
   go_wp2_with fail
   refine RegJ.wp_region_J (W:=CpW w S0 k3 [.slice (some ⟨b,off,none⟩) xs.length cH,.slice aR rs.length cR] [.slice none 0 0,.slice none 0 0] (some ⟨b,off,none⟩) xs g' c'' rs k ao co ys x0.h) (RegJ.ValP [some (.pointer (some ⟨k3,0,none⟩)),some (.slice ao k co),some (.pointer (some ⟨w.heap.size,0,none⟩)),some (.slice (some ⟨b,off,none⟩) xs.length cH),some (.int .i64 (k:Int)),some (.pointer (some ⟨b,off+k*13,none⟩)),some (x0.h.v x0.aT x0.cT x0.aW x0.cW),none,none,none,some (.pointer (some ⟨k3,0,none⟩)),none] ([(7,8,TieV S0 x0.h),(8,9,TieS S0 x0.h),(9,11,TieL w.heap.size (k+1) ys x0.h)])) [some 16,some 17,some 18,some 19,some 20,some 21,some 22,some 23,some 24,some 25,some 26,none] (F:=?_) (is:=[0,1,2,3,4,5,6,7,8,9,10,11]) hmix (by kernel_rfl) (by kernel_rfl) (by kernel_rfl) (by kernel_rfl) (fun x=>?_) (⟨v1.drew,v2.drew,Lw.drew,R1.drew,B1.drew,hS0,fun _=>L1.drew,fun _=>v3.drew,fun e=>by cases e⟩) ?_ (fun dR xR wR hWR hdR hJR=>?_)
   rotate_left 1
   focus (simp only [RegJ.lay,Act.put,Nat.reduceAdd,Nat.zero_add,Draw.lays];rfl)
   focus
    iterate 12 (refine RegJ.Steps.cons (RegJ.StepAt.mk rfl (fun d x w1 hW1 hJ1 hx1 K hK=>?_)) ?_;simp only [Draw.lays]at hK;rotate_left 1)
    exact RegJ.Steps.nil
    ·go_simp;exact hK.out _ _ (keepW 0 d _ hW1 (by decide)) RegJ.ValP.same (RegJ.ValP.free (Or.inl rfl) rfl)
    ·have j0:x 0=_:=(hJ1.out 0 (by kernel_rfl)).val rfl;rw [j0]at hK;have c0:=(hW1.var (hx1.out 11 (.inr (by kernel_rfl))).1).cell (i:=0) rfl;go_simp;exact hK.out _ _ (keepW 1 d _ hW1 (by decide)) RegJ.ValP.same (RegJ.ValP.free (Or.inl rfl) rfl)
    ·go_simp;exact hK.out _ _ (keepW 2 d _ hW1 (by decide)) RegJ.ValP.same (RegJ.ValP.free (Or.inl rfl) rfl)
    ·have j2:x 2=_:=(hJ1.out 2 (by kernel_rfl)).val rfl;rw [j2]at hK;have c0:=hW1.v1.cell (i:=0) rfl;go_simp;exact hK.out _ _ (keepW 3 d _ hW1 (by decide)) RegJ.ValP.same (RegJ.ValP.free (Or.inl rfl) rfl)
    ·go_simp;exact hK.out _ _ (keepW 4 d _ hW1 (by decide)) RegJ.ValP.same (RegJ.ValP.free (Or.inl rfl) rfl)
    ·have j3:x 3=_:=(hJ1.out 3 (by kernel_rfl)).val rfl;rw [j3]at hK;have j4:x 4=_:=(hJ1.out 4 (by kernel_rfl)).val rfl;rw [j4]at hK;go_simp;exact hK.out _ _ (keepW 5 d _ hW1 (by decide)) RegJ.ValP.same (RegJ.ValP.free (Or.inl rfl) rfl)
    ·have j5:x 5=_:=(hJ1.out 5 (by kernel_rfl)).val rfl;exact step_load_cells (by rfl) _ (by rfl) (by exact j5) (vs:=x0.c) infoHop2 structHop2 (El.Lies.cells hW1.L.row hx) (hK.out _ _ (keepW 6 d _ hW1 (by decide)) RegJ.ValP.same (RegJ.ValP.free (Or.inl rfl) rfl))
    ·obtain⟨q1,q2,qL,qR,qb,qz,qo,qv,qn⟩:=id hW1;have j6:x 6=_:=(hJ1.out 6 (by kernel_rfl)).val rfl;rw [j6]at hK;go_simp;refine(Hop.l7Copy x0.h x0.aT x0.cT x0.aW x0.cW _ (qL.rows x0 hxm).p (qL.rows x0 hxm).l (qL.rows x0 hxm).np (qL.rows x0 hxm).nl (hf x0 hxm).1 (hf x0 hxm).2).mono ?_;rintro e wa ⟨aT,cT,aW,cW,rfl,oT,oW,ba⟩;go_simp;exact hK.out _ _ (hW1.later ba rfl rfl) (RegJ.ValP.keep (fun q hq=>.inr (.inr (.inr fun v h=>hst q hq v _ _ ba h)))) (RegJ.ValP.this (Or.inr rfl) (by intro q hq he;simp only [List.mem_cons,List.not_mem_nil,or_false]at hq;rcases hq with rfl|rfl|rfl;exact⟨⟨x0.h,aT,cT,aW,cW⟩,rfl,rfl,oT.mono qz,oW.mono qz⟩;cases he;cases he))
    ·obtain⟨y,hy,j7,Ry⟩:=(hJ1.out 7 (by kernel_rfl)).tie (7,8,TieV S0 x0.h) (by simp) rfl (hx1.out 8 (.inl rfl)).1;have HY:Hid (y.h=x0.h):=hy;clear hy;rw [j7]at hK;go_simp;have ba:=(Below.refl w1.heap.size w1).alloc (Nat.le_refl _) (.cells y.c.toArray 53);exact hK.out _ _ (hW1.later ba rfl rfl) (RegJ.ValP.keep (fun q hq=>.inr (.inr (.inr fun v h=>hst q hq v _ _ ba h)))) (RegJ.ValP.this (Or.inr rfl) (by intro q hq he;simp only [List.mem_cons,List.not_mem_nil,or_false]at hq;rcases hq with rfl|rfl|rfl;cases he;exact⟨y,w1.heap.size,hW1.z,HY.out,rfl,Var.new _ _,Ry.later ba⟩;cases he))
    ·obtain⟨q1,q2,qL,qR,qb,qz,qo,qv,qn⟩:=id hW1;have j1:x 1=_:=(hJ1.out 1 (by kernel_rfl)).val rfl;obtain⟨y,m,hm,hy,j8,vy,Ry⟩:=(hJ1.out 8 (by kernel_rfl)).tie (8,9,TieS S0 x0.h) (by simp) rfl (hx1.out 9 (.inl rfl)).1;have Lo:=qo (hx1.out 9 (.inl rfl)).1;have Vo:=qv (hx1.out 11 (.inr (by kernel_rfl))).1;refine step_app typ (by decide) (by rfl) _ _ (by rfl) w.heap.size ao co k ys [y] hkl.out (by exact j1) Lo.row qb.size (some ⟨m,0,none⟩) 1 1 rfl (by exact j8) (lies_var vy) (fun e=>by cases e) (by rw [←hkl.out];simp;omega) ?_;intro a' c' wa oa ga;have La:=Lo.snoc oa ga Ry (by omega) hys;have hgk: ∀g,blk ao=some g→w.heap.size≤g:=blk_ge Lo.row;have ba:=grown_below qb (Nat.le_refl _) hgk ga;have nv: ∀ {T:TypeId} {kk:Nat} {vs:List Value},T≠53→Var T w1 kk vs→Var T wa kk vs:=(fun {T kk vs} hT v=>v.grown ga (fun g hg e=>by cases hao:ao with|none=>rw [hao]at hg;cases hg|some p=>(rw [hao]at hg;cases hg;exact own_win hT Lo.row v.win p hao e.symm)));exact hK.out _ _ ⟨nv (by decide) q1,nv (by decide) q2,L.later ba,qR.grown ga (fun y' hy' e=>by cases hao:ao with|none=>rw [hao]at e;cases e|some p=>(rw [hao]at e;simp only [blk,Option.map_some,Option.some.injEq]at e;cases hy';exact own_two (by decide) qR Lo.row _ rfl (by rw [hao];simp only [blk,Option.map_some,Option.some.injEq];exact e))),ba,Nat.le_trans qz ga.size,fun e=>absurd e (by simp),fun e=>nv (by decide) (qv (by simpa using e)),fun e=>absurd e (by simp [(hx1.out 11 (.inr (by kernel_rfl))).1])⟩ (RegJ.ValP.keep (by intro q hq;simp only [List.mem_cons,List.not_mem_nil,or_false]at hq;rcases hq with rfl|rfl|rfl;exact .inr (.inr (.inl (hJ1.out 8 (by kernel_rfl)).done));exact .inr (.inl rfl);exact .inl rfl)) (RegJ.ValP.this (Or.inr rfl) (by intro q hq he;simp only [List.mem_cons,List.not_mem_nil,or_false]at hq;rcases hq with rfl|rfl|rfl;cases he;cases he;exact⟨y,a',c',hy,rfl,La⟩))
    ·go_simp;exact hK.out _ _ (keepW 10 d _ hW1 (by decide)) RegJ.ValP.same (RegJ.ValP.free (Or.inl rfl) rfl)
    ·obtain⟨q1,q2,qL,qR,qb,qz,qo,qv,qn⟩:=id hW1;have j10:x 10=_:=(hJ1.out 10 (by kernel_rfl)).val rfl;rw [j10]at hK;obtain⟨y,a',c',hy,j9,La⟩:=(hJ1.out 9 (by kernel_rfl)).tie (9,11,TieL w.heap.size (k+1) ys x0.h) (by simp) rfl (hx1.out 11 (.inl rfl)).1;have HY:Hid (y.h=x0.h):=hy;clear hy;rw [j9]at hK;have Vo:=qv (hx1.out 11 (.inl rfl)).1;have c0:=Vo.cell (i:=0) rfl;have f0:=Vo.free 0;go_simp;have ka:Draw.Kept k3 w1 (w1.setCell ⟨k3,0,none⟩ (.slice a' (k+1) c')):=(Draw.Kept.refl _ _).setCell (p:=⟨k3,0,none⟩) (.inl rfl) _;have ba:=qb.trans (ka.below (by omega) qb.size);exact hK.out undef _ ⟨q1.kept ka (by omega),q2.kept ka (by omega),L.later ba,qR.kept ka (own_win (by decide) qR Vo.win),ba,Nat.le_trans qz ka.size,fun e=>absurd e (by simp [(hJ1.out 9 (by kernel_rfl)).done]),fun e=>absurd e (by simp),fun _=>⟨a',c',y,HY.out,Vo.set 0 _,La.keptV Vo (by decide) (by decide) (by decide) ka⟩⟩ (RegJ.ValP.keep (by intro q hq;simp only [List.mem_cons,List.not_mem_nil,or_false]at hq;rcases hq with rfl|rfl|rfl;exact .inr (.inr (.inl (hJ1.out 8 (by kernel_rfl)).done));exact .inr (.inr (.inl (hJ1.out 9 (by kernel_rfl)).done));exact .inr (.inl rfl))) (RegJ.ValP.free (Or.inr rfl) rfl)
   obtain⟨a',c',y,hy,v3',L3⟩:=hWR.new (hdR 11 (by simp))
   have hmap':(ys++[y]).map (·.h)=(xs.take (k+1)).map (·.h):=by
    rw [List.map_append,hmap.out,List.take_add_one,hx,List.map_append]
    simp [hy]
   have q1:=hWR.v1
   have q2:=hWR.v2
   have qR:=hWR.R
   have qb:=hWR.b
   clear hWR hJR hdR hst keepW v1 v2 v3 L1 R1 B1 e1 hmap
   have HM:Hid _:=hmap'
   clear hmap'
   go_wp2_with fail
   go_roundw
   case rel=>exact⟨k+1,c',a',ys++[y],by omega,by simp,HM.out,q1,q2,v3',L3,qR,qb⟩
   case measure=>simp [intOf];omega
  ·obtain rfl:k=xs.length:=by omega
   have i0: ¬(xs.length:Int)<(xs.length:Int):=by omega
   have f0:=v2.free 0
   have f1:=v2.free 1
   have z0:=v2.cell (i:=0) rfl
   have z1:=v2.cell (i:=1) rfl
   have y0:=v3.cell (i:=0) rfl
   have y1:=v3.cell (i:=1) rfl
   have ka:Draw.Kept (w.heap.size+1) wr ((wr.setCell ⟨w.heap.size+1,0,none⟩ (.slice ao xs.length co)).setCell ⟨w.heap.size+1,1,none⟩ (.slice (some ⟨g',0,none⟩) rs.length c'')):=((Draw.Kept.refl _ _).setCell (p:=⟨w.heap.size+1,0,none⟩) (.inl rfl) _).setCell (p:=⟨w.heap.size+1,1,none⟩) (.inl rfl) _
   have LZ:=L1.keptV v2 (by decide) (by decide) (by decide) ka
   have RZ:=R1.kept ka (own_win (by decide) R1 v2.win)
   have BZ:=B1.trans (ka.below (by omega) B1.size)
   have hm:=hmap.out
   rw [List.take_length]at hm
   have HM:Hid _:=hm
   clear hmap hm
   go_wp2_with fail
   refine bodyPost_ret (v:=.agg #[.slice ao xs.length co,.slice (some ⟨g',0,none⟩) rs.length c'']) (by rw [Hop.res_one rfl];go_simp) rfl ⟨ao,co,ys,g',c'',rfl,LZ,HM.out,RZ,BZ⟩
end Go.Proofs.YtfmcahjdhoabcaaGreat.Lin
namespace Go.Proofs.YtfmcahjdhoabcaaGreat.Wor
open Go.RowKit RowG Hop Roa Pum
structure Wd where
 hs:List Hp
 rs:List Rd
 tx:ByteArray
 rd:Int
 en:Bool
 dn:Bool
 sn:Bool
structure Ac where
 kd:Int
 hp:Int
 ro:Int
 pl:Int
 n:Int
 tx:ByteArray
abbrev Ac.c (a:Ac):List Value:=[.int .i64 a.kd,.int .i64 a.hp,.int .i64 a.ro,.int .i64 a.pl,.int .i64 a.n,.string a.tx]
abbrev Ac.v (a:Ac):Value:=.agg #[.int .i64 a.kd,.int .i64 a.hp,.int .i64 a.ro,.int .i64 a.pl,.int .i64 a.n,.string a.tx]
def roadB (i:Nat)(rs:List Rd)(x:Lt):Bool:=if i=1 then decide (x.rd<(rs.length:Int))else decide (x.rd=0)
def hopsB (hs:List Hp)(rs:List Rd):Bool:=decide (hs.length=3)&&(roadsB rs&&((List.range 3).all fun i=>hopB (hs.getD i zeroH)&&(hs.getD i zeroH).ws.all (roadB i rs)))
def streamB (W:Wd):Bool:=decide (W.tx.size≤2000)&&(decide (0≤W.rd∧W.rd≤(W.tx.size:Int))&&((!W.sn||(W.en&&decide (W.rd=(W.tx.size:Int))))&&(!W.dn||W.en)))
def okW (W:Wd):Bool:=hopsB W.hs W.rs&&streamB W
def Wd.at (W:Wd)(i:Nat):Hp:=W.hs.getD i zeroH
def Wd.put (W:Wd)(i:Nat)(h:Hp):Wd:={W with hs:=W.hs.set i h}
def openB (rs:List Rd)(h road:Int):Bool:=if h=1 then hasB rs road&&(at' rs road.toNat).op else decide (road=0)
def mayB (W:Wd)(i:Nat):Bool:=(W.at i).t.en&&(decide (i=2)||(W.at (i+1)).g.dn)
def pumpW (W:Wd)(i:Nat)(n:Int):Wd×Bool:=
 let k:=moveN (W.at i).t (W.at (i+1)).g n
 let g':=moreG (W.at i).t (W.at (i+1)).g k
 ((W.put i {W.at i with t:=leftT (W.at i).t k}).put (i+1) {W.at (i+1)with g:=g'},decide (0<k)||(g'.en !=(W.at (i+1)).g.en))
def hopW (W:Wd)(a:Ac)(i:Nat):Wd×Bool:=
 if a.kd=3 then(if openB W.rs a.hp a.ro then(W.put i (sendH (W.at i) a.ro a.pl a.n).1,(sendH (W.at i) a.ro a.pl a.n).2)else(W,false))
 else if a.kd=4 then(if openB W.rs a.hp a.ro then(W.put i (tellH (W.at i) a.ro (mayB W i)).1,(tellH (W.at i) a.ro (mayB W i)).2)else(W,false))
 else if a.kd=5 then(match if 0≤a.n then(W.at i).ws[a.n.toNat]? else none with
  | none=>(W,false)
  | some x=>if openB W.rs a.hp x.rd then(W.put i (comeH (W.at i) a.n).1,(comeH (W.at i) a.n).2)else(W,false))
 else if a.kd=6 then(W.put i (outH (W.at i) a.n).1,(outH (W.at i) a.n).2.2)
 else if a.kd=7 then(match if 0≤a.n then(W.at i).ws[a.n.toNat]? else none with
  | none=>(W,false)
  | some x=>(W.put i (postH (W.at i) x),postB (W.at i) x))
 else if a.hp≤1∧0≤a.n∧a.n≤400 then pumpW W i a.n else(W,false)
def tellB (W:Wd)(seen:Bool):Bool:=W.en&& !(seen&&(W.sn||decide (W.rd<(W.tx.size:Int))))&& !(!seen&&W.dn)
def tellW (W:Wd)(seen:Bool):Wd:=if tellB W seen then(if seen then {W with sn:=true}else {W with dn:=true})else W
def readW (W:Wd)(n:Int):Wd×Bool:=
 if n<0 then(W,false)else
 let t:=(W.at 2).t
 let m:=min n (t.bs.size:Int)
 if (W.tx.size:Int)<W.rd+m∨W.tx.extract W.rd.toNat (W.rd+m).toNat≠t.bs.extract 0 m.toNat then(W,false)else
 let W1:Wd:={W.put 2 {W.at 2 with t:=leftT t m}with rd:=W.rd+m}
 let e:=t.en&&decide ((t.bs.size:Int)=m)
 if e then(tellW W1 true,decide (0<m)||tellB W1 true)else(W1,decide (0<m))
def doW (W:Wd)(a:Ac):Wd×Bool:=
 if a.kd=1 then
  let g:=(W.at 0).g
  let W1:=W.put 0 {W.at 0 with g:=(Giv.writeG g a.tx).1}
  let n:=(Giv.writeG g a.tx).2
  if 0<n then(if W.en||decide (2000<(W.tx.size:Int)+n)then(W1,false)else({W1 with tx:=W.tx++a.tx.extract 0 n.toNat},true))else(W1,false)
 else if a.kd=2 then
  if (W.at 0).g.en||W.en then(W,false)else({W.put 0 {W.at 0 with g:={(W.at 0).g with en:=true}}with en:=true},true)
 else if 3≤a.kd∧a.kd≤8 then(if 0≤a.hp∧a.hp≤2 then hopW W a a.hp.toNat else(W,false))
 else if a.kd=9 then readW W a.n
 else if a.kd=10 then({W with rs:=turnL W.rs a.ro (decide (a.n=1))},turnB W.rs a.ro (decide (a.n=1)))
 else if a.kd=11 then(if (W.at 0).g.dn then(tellW W false,tellB W false)else(W,false))
 else(W,false)
def happenW (W:Wd)(a:Ac):Wd×Bool:=if (doW W a).2 then doW W a else(W,false)
theorem hops_iff {hs:List Hp}{rs:List Rd}:hopsB hs rs=true↔hs.length=3∧roadsB rs=true∧ ∀i,i<3→hopB (hs.getD i zeroH)=true∧ ∀x∈(hs.getD i zeroH).ws,roadB i rs x=true:=by
 simp only [hopsB,Bool.and_eq_true,decide_eq_true_eq,List.all_eq_true,List.mem_range]
theorem getD_set {hs:List Hp}{i j:Nat}{h:Hp}(hi:i<hs.length):(hs.set i h).getD j zeroH=if i=j then h else hs.getD j zeroH:=by
 rw [List.getD_eq_getElem?_getD,List.getD_eq_getElem?_getD,List.getElem?_set]
 by_cases e:i=j
 ·rw [if_pos e,if_pos e,if_pos (by omega)]
  rfl
 ·rw [if_neg e,if_neg e]
theorem hops_put {hs:List Hp}{rs:List Rd}(H:hopsB hs rs=true){i:Nat}(hi:i<3){h:Hp}(h1:hopB h=true)(h2: ∀x∈h.ws,roadB i rs x=true):hopsB (hs.set i h) rs=true:=by
 obtain⟨a1,a2,a3⟩:=hops_iff.1 H
 refine hops_iff.2 ⟨by rw [List.length_set];exact a1,a2,fun j hj=>?_⟩
 rw [getD_set (by omega)]
 split
 ·rename_i e
  subst e
  exact⟨h1,h2⟩
 ·exact a3 j hj
end Go.Proofs.YtfmcahjdhoabcaaGreat.Wor
