/- Contracts of this seat's functions, and their mathematics (LinV RegE WorR RowB DrawS WorS DrawT). -/
import Derived.Test.YtfejobjgbadfjaaGreatK27
import Derived.Test.YtfejobjgbadfjaaGreatK29
import Derived.Test.YtfejobjgbadfjaaGreatK26
import Derived.Test.YtfejobjgbadfjaaGreatK1
import Derived.Laws.IdiomStrings
import Derived.Deep.AppendLies
set_option linter.unusedVariables false
set_option linter.unusedSimpArgs false
set_option maxRecDepth 10000
set_option maxHeartbeats 4000000
namespace Go.Proofs.YtfejobjgbadfjaaGreat.Wor
open Go.RowKit RowG Hop Roa Lin
def toHp (x:Int×Int):Hp:=⟨⟨0,⟨#[]⟩,x.1,0,false,false⟩,⟨0,⟨#[]⟩,[],x.2,-1,false⟩,[]⟩
def toHa (x:Int×Int):Ha:=⟨toHp x,none,0,none,0⟩
theorem vals_toHa (l:List (Int×Int)):hopE.vals (l.map toHa)=H0.vals l:=by
 induction l with
 | nil=>rfl
 | cons x l ih=>rw [List.map_cons,El.vals_cons,El.vals_cons,ih];rfl
theorem lay_new {w:World}{B:Nat}{a:Option Addr}{c:Nat}{l:List (Int×Int)}(h:H0.Own 47 w B a c l):LineLay w B a c (l.map toHa):=by
 refine⟨?_,fun x hx=>?_,fun i j x y _ hx _ p q hp _=>?_⟩
 ·unfold El.Own at h ⊢
  rw [vals_toHa,List.length_map]
  exact h
 ·obtain⟨z,_,rfl⟩:=List.mem_map.1 hx
  exact⟨El.Own.none _ _,El.Own.none _ _⟩
 ·obtain⟨z,_,rfl⟩:=List.mem_map.1 (List.mem_of_getElem? hx)
  cases hp
end Go.Proofs.YtfejobjgbadfjaaGreat.Wor
namespace Go.Proofs.YtfejobjgbadfjaaGreat.RegJ
open Go.RowKit
def ValE (vs:List (Option Value))(ps:List Tie)(d:Nat→Bool)(j:Nat)(v:Value)(w:World):Prop:=Val vs d j v w∧ ∀q∈ps,j=q.1→(q.2.1=q.1∨d q.2.1=false)→q.2.2 v w
theorem ValE.keep {vs:List (Option Value)}{ps:List Tie}{d:Nat→Bool}{x:Nat→Value}{w w':World}{i:Nat}(h: ∀q∈ps,i=q.1∨(q.2.1≠q.1∧(i=q.2.1∨d q.2.1=true))∨ ∀v,q.2.2 v w→q.2.2 v w'):
  ∀j,j≠i→ValE vs ps d j (x j) w→ValE vs ps (fun j=>j==i||d j) j (x j) w':=fun j hj hv=>
 ⟨Val.keep j hj hv.1,fun q hq he hz=>by
  have hz':q.2.1=q.1∨((q.2.1==i)=false∧d q.2.1=false):=by
   rcases hz with h1|h1
   ·exact .inl h1
   ·exact .inr (by simpa using h1)
  rcases h q hq with h1|⟨h1,h2⟩|h1
  ·exact absurd (he.trans h1.symm) hj
  ·rcases hz' with h3|⟨h3,h4⟩
   ·exact absurd h3 h1
   ·rcases h2 with h2|h2
    ·simp [h2]at h3
    ·rw [h4]at h2;cases h2
  ·exact h1 _ (hv.2 q hq he (hz'.imp id (·.2)))⟩
theorem ValE.same {vs:List (Option Value)}{ps:List Tie}{d:Nat→Bool}{x:Nat→Value}{w:World}{i:Nat}: ∀j,j≠i→ValE vs ps d j (x j) w→ValE vs ps (fun j=>j==i||d j) j (x j) w:=ValE.keep fun _ _=>.inr (.inr fun _ h=>h)
theorem ValE.this {vs:List (Option Value)}{ps:List Tie}{d:Nat→Bool}{w:World}{i:Nat}{v:Value}(h:vs[i]? =some (some v)∨vs[i]? =some none)(hp: ∀q∈ps,i=q.1→q.2.2 v w):ValE vs ps (fun j=>j==i||d j) i v w:=
 ⟨Val.this h,fun q hq he _=>hp q hq he⟩
theorem ValE.free {vs:List (Option Value)}{ps:List Tie}{d:Nat→Bool}{w:World}{i:Nat}{v:Value}(h:vs[i]? =some (some v)∨vs[i]? =some none)(hn:(ps.all fun q=>q.1 !=i)=true):ValE vs ps (fun j=>j==i||d j) i v w:=
 ValE.this h fun q hq he=>by
  simp only [List.all_eq_true]at hn
  have:=hn q hq
  simp [he]at this
theorem ValE.got {vs:List (Option Value)}{ps:List Tie}{d:Nat→Bool}{w:World}{i:Nat}{v:Value}(n:Nat)(z:Nat)(P:Value→World→Prop)(h:vs[i]? =some (some v)∨vs[i]? =some none)(hn:ps[n]? =some (i,z,P))(ho:((List.range ps.length).all fun k=>k==n||(ps.getD k (i,0,fun _ _=>True)).1 !=i)=true)(hp:P v w):ValE vs ps (fun j=>j==i||d j) i v w:=
 ValE.this h fun q hq he=>by
  obtain⟨k,hk,rfl⟩:=List.getElem_of_mem hq
  simp only [List.all_eq_true,List.mem_range]at ho
  have h1:=ho k hk
  have h2:ps.getD k (i,0,fun _ _=>True)=ps[k]:=by simp [List.getD,hk]
  rw [h2,←he]at h1
  have h3:k=n:=by simpa using h1
  subst h3
  rw [List.getElem?_eq_getElem hk]at hn
  injection hn with hn
  rw [hn]
  exact hp
theorem ValE.val {vs:List (Option Value)}{ps:List Tie}{d:Nat→Bool}{j:Nat}{v:Value}{w:World}(h:ValE vs ps d j v w){u:Value}(hu:vs[j]? =some (some u)):v=u:=h.1.2 u hu
theorem ValE.done {vs:List (Option Value)}{ps:List Tie}{d:Nat→Bool}{j:Nat}{v:Value}{w:World}(h:ValE vs ps d j v w):d j=true:=h.1.1
theorem ValE.tie {vs:List (Option Value)}{ps:List Tie}{d:Nat→Bool}{j:Nat}{v:Value}{w:World}(h:ValE vs ps d j v w)(n:Nat){z:Nat}{P:Value→World→Prop}(hn:ps[n]? =some (j,z,P))(hz:z=j∨d z=false):P v w:=
 h.2 (j,z,P) (List.mem_of_getElem? hn) rfl hz
end Go.Proofs.YtfejobjgbadfjaaGreat.RegJ
namespace Go.Proofs.YtfejobjgbadfjaaGreat.Wor
open Go.RowKit RowG Hop Roa Pum Lin
def newW (l:List Int)(n:Int):Wd:=⟨(newHs l 3).map toHp,newRs n.toNat,⟨#[]⟩,0,false,false,false⟩
theorem caps_at {l:List Int}{n:Int}(h:capsB l n=true):(∀j,j<6→Tak.capB (capAt l j)=true)∧1≤n∧n≤4:=by
 simp only [capsB,Bool.and_eq_true,decide_eq_true_eq,List.all_eq_true]at h
 refine⟨fun j hj=>?_,h.2.1⟩
 have e:capAt l j=l[j]'(by omega):=by simp [capAt,show j<l.length by omega]
 rw [e]
 exact h.2.2 _ (List.getElem_mem _)
theorem ok_new {l:List Int}{n:Int}(h:capsB l n=true):okW (newW l n)=true:=by
 obtain⟨hc,h1,h4⟩:=caps_at h
 refine ok_parts.2 ⟨hops_iff.2 ⟨by simp [newW,newHs_len],?_,fun i hi=>?_⟩,?_⟩
 ·simp only [newW,roadsB,newRs_len,Bool.and_eq_true,decide_eq_true_eq,List.all_eq_true]
  refine⟨fun x hx=>?_,by omega⟩
  obtain⟨i,hi,rfl⟩:=List.mem_map.1 hx
  simp at hi
  simp only [rdB,Num.plB,Bool.and_eq_true,decide_eq_true_eq]
  omega
 ·have e:(newW l n).hs.getD i zeroH=toHp (capAt l (2*i),capAt l (2*i+1)):=by
   simp [newW,newHs,List.getD,hi]
  rw [e]
  exact⟨newH_ok (hc _ (by omega)) (hc _ (by omega)),fun x hx=>by cases hx⟩
 ·rfl
theorem specNewWorld (a:Option Addr)(cap:Nat)(l:List Int)(n:Int)(w:World)(h:Roa.EI.Lies w a l)(hl:l.length≤2097152)(hc:capsB l n=true):
  Calls Tryz.prog 27 #[.slice a l.length cap,.int .i64 n] w fun e w'=> ∃v,e=.returned (.tuple #[v,.bool true])∧WHold w' w.heap.size v (newW l n)∧Below w.heap.size w w':=by
 have hmix:=Roa.mix
 obtain⟨V,hV⟩: ∃z,Hid (z=w.alloc (.cells #[.slice none 0 0,.slice none 0 0,.string ⟨#[]⟩,.int .i64 0,.bool false,.bool false,.bool false] 33)):=⟨_,rfl⟩
 have v0:Var 33 V w.heap.size [.slice none 0 0,.slice none 0 0,.string ⟨#[]⟩,.int .i64 0,.bool false,.bool false,.bool false]:=by rw [hV.out];exact Var.new w _
 have b0:Below w.heap.size w V:=by rw [hV.out];exact(Below.refl _ _).alloc (Nat.le_refl _) _
 go_enter Tryz.func27,Tryz.ntmps27
 go_wp2_with fail
 rw [←hV.out]
 clear hV
 refine(specNewLine a cap l n _ (h.later b0) hl).mono ?_
 rintro x w1 ⟨b1,hx⟩
 obtain⟨g,c,g',c',rfl,oH,oR⟩: ∃g c g' c',x=.returned (.tuple #[.agg #[.slice (some ⟨g,0,none⟩) 3 c,.slice (some ⟨g',0,none⟩) n.toNat c'],.bool true])∧H0.Own 47 w1 V.heap.size (some ⟨g,0,none⟩) c (newHs l 3)∧Roa.E.Own 95 w1 V.heap.size (some ⟨g',0,none⟩) c' (newRs n.toNat):=by
  rcases hx with⟨hc',_⟩|⟨_,h⟩
  ·rw [hc]at hc';cases hc'
  ·exact h
 have zV:=b0.size
 replace v0:=(v0.later b1).alloc (.cells #[.slice (some ⟨g,0,none⟩) 3 c,.slice (some ⟨g',0,none⟩) n.toNat c'] 27)
 have B1:=b0.trans (b1.mono b0.size)
 replace B1:=B1.alloc B1.size (.cells #[.slice (some ⟨g,0,none⟩) 3 c,.slice (some ⟨g',0,none⟩) n.toNat c'] 27)
 obtain⟨V1,hV1⟩: ∃z,Hid (z=w1.alloc (.cells #[.slice (some ⟨g,0,none⟩) 3 c,.slice (some ⟨g',0,none⟩) n.toNat c'] 27)):=⟨_,rfl⟩
 have A:WAs V1 w.heap.size g c ((newHs l 3).map toHa) (some ⟨g',0,none⟩) c' (newW l n):=by rw [hV1.out];exact⟨((lay_new oH).alloc _).mono zV,by simp [newW,toHa],(oR.alloc _).mono zV,ok_new hc⟩
 have v1:Var 27 V1 w1.heap.size [.slice (some ⟨g,0,none⟩) 3 c,.slice (some ⟨g',0,none⟩) n.toNat c']:=by rw [hV1.out];exact Var.new w1 _
 have e0:=v1.cell (i:=0) rfl
 have e1:=v1.cell (i:=1) rfl
 obtain⟨c0,c1,c2,c3,c4,c5,c6⟩:=v0.c7
 obtain⟨y0,y1,y2,y3,y4,y5,y6⟩:=v0.f7
 go_wp2_with fail
 have hV1o:=hV1.out
 clear hV1
 subst hV1o
 generalize w1.alloc (.cells #[.slice (some ⟨g,0,none⟩) 3 c,.slice (some ⟨g',0,none⟩) n.toNat c'] 27)=V1 at *
 obtain⟨WZ,hWZ⟩: ∃z,Hid (z=((((((V1.setCell ⟨w.heap.size,0,none⟩ (.slice (some ⟨g,0,none⟩) 3 c)).setCell ⟨w.heap.size,1,none⟩ (.slice (some ⟨g',0,none⟩) n.toNat c')).setCell ⟨w.heap.size,2,none⟩ (.string ⟨#[]⟩)).setCell ⟨w.heap.size,3,none⟩ (.int .i64 0)).setCell ⟨w.heap.size,4,none⟩ (.bool false)).setCell ⟨w.heap.size,5,none⟩ (.bool false)).setCell ⟨w.heap.size,6,none⟩ (.bool false)):=⟨_,rfl⟩
 have ka:Draw.Kept w.heap.size V1 WZ:=by rw [hWZ.out];exact kept7 _ _ _ _ _ _ _ _ _
 have B3:=B1.trans (ka.below (by omega) B1.size)
 have vv:Var 33 WZ w.heap.size [.slice (some ⟨g,0,none⟩) 3 c,.slice (some ⟨g',0,none⟩) n.toNat c',.string ⟨#[]⟩,.int .i64 0,.bool false,.bool false,.bool false]:=by rw [hWZ.out];exact var7 v0 _ _ _ _ _ _ _
 have A6:=A.keptV v0 (by decide) (by decide) (by decide) (by decide) ka
 clear ka A v0 B1 e0 e1 c0 c1 c2 c3 c4 c5 c6 y0 y1 y2 y3 y4 y5 y6
 have hWZo:=hWZ.out
 clear hWZ
 subst hWZo
 generalize (((((((V1.setCell ⟨w.heap.size,0,none⟩ (.slice (some ⟨g,0,none⟩) 3 c)).setCell ⟨w.heap.size,1,none⟩ (.slice (some ⟨g',0,none⟩) n.toNat c')).setCell ⟨w.heap.size,2,none⟩ (.string ⟨#[]⟩)).setCell ⟨w.heap.size,3,none⟩ (.int .i64 0)).setCell ⟨w.heap.size,4,none⟩ (.bool false)).setCell ⟨w.heap.size,5,none⟩ (.bool false)).setCell ⟨w.heap.size,6,none⟩ (.bool false))=WZ at *
 obtain⟨c0,c1,c2,c3,c4,c5,c6⟩:=vv.c7
 have hrl:(newW l n).rs.length=n.toNat:=newRs_len _
 refine bodyPost_ret (v:=.tuple #[.agg #[.slice (some ⟨g,0,none⟩) 3 c,.slice (some ⟨g',0,none⟩) n.toNat c',.string ⟨#[]⟩,.int .i64 0,.bool false,.bool false,.bool false],.bool true]) (by rw [Tak.res_cell_tmp rfl];go_simp) rfl ⟨_,rfl,⟨g,c,_,_,c',by rw [hrl];rfl,A6⟩,B3⟩
end Go.Proofs.YtfejobjgbadfjaaGreat.Wor
namespace Go.Proofs.YtfejobjgbadfjaaGreat.Draw
open Go.RowKit
def Row (w:World)(g:Nat)(l:List UInt8):Prop:= ∀j (hj:j<l.length),w.cell? ⟨g,j,none⟩=some (.int .u8 (l[j].toNat:Int))∧w.frozen? ⟨g,j,none⟩=false
theorem Row.same {w w':World}{g:Nat}{l:List UInt8}(h:Row w g l)(e:w'.heap[g]? =w.heap[g]?):Row w' g l:=fun j hj=>
 ⟨(World.cell?_of_block (w:=w) (a:=⟨g,j,none⟩) e).trans (h j hj).1,(World.frozen?_of_block (w:=w) (a:=⟨g,j,none⟩) e).trans (h j hj).2⟩
theorem Row.below {w w':World}{g B:Nat}{l:List UInt8}(h:Row w g l)(k:Below B w w')(hg:g<B):Row w' g l:=h.same (k.block g hg)
theorem Row.lt {w:World}{g:Nat}{l:List UInt8}(h:Row w g l)(h0:0<l.length):g<w.heap.size:=lt_of_cell (h 0 h0).1
theorem text_byteRow {w:World}{g:Nat}{l:List UInt8}(h:Row w g l)(n cap:Nat)(hn:n=l.length):(convert 22 9 (.slice (some ⟨g,0,none⟩) n cap)).run Tryz.prog w=.ok (.string ⟨l.toArray⟩) w:=by
 subst hn
 refine run_convert_bytes_back w 22 9 5 ⟨g,0,none⟩ cap l Tryz.underlying22 Tryz.underlying5 Tryz.underlying9 fun j hj=>?_
 have e:(⟨g,0,none⟩:Addr).add j=⟨g,j,none⟩:=by unfold Addr.add;split <;>simp_all
 rw [e]
 exact(h j hj).1
theorem Row.ofOwn {w:World}{B g n cap:Nat}{l:List UInt8}(h:w.ownsRow B 5 1 (.slice (some ⟨g,0,none⟩) n cap) n (l.map fun b=>Value.int .u8 (b.toNat:Int))):n=l.length∧B≤g∧Row w g l:=by
 have hl:n=l.length:=by have:=h.1;simpa using this.symm
 refine⟨hl,(h.lt g rfl).1,fun j hj=>⟨?_,?_⟩⟩
 ·have hc:=h.cells (g:=g) rfl j (.int .u8 (l[j].toNat:Int)) (by simp [hj])
  have e:(⟨g,0,none⟩:Addr).add j=⟨g,j,none⟩:=by unfold Addr.add;split <;>simp_all
  rw [←e];exact hc
 ·rcases h.2 with⟨hv,_⟩|⟨g',cap',cur,hv,_,hb,_⟩
  ·simp at hv
  ·simp at hv
   obtain⟨rfl,rfl⟩:=hv
   simp [World.frozen?,hb]
end Go.Proofs.YtfejobjgbadfjaaGreat.Draw
namespace Go.Proofs.YtfejobjgbadfjaaGreat.Draw
open Go.RowKit
theorem infoU8:(Tryz.prog.info? 5).map (fun i=>(i.zero,i.size,i.bytes))=some (some (.int .u8 0),1,1):=by kernel_rfl
theorem one_u8 (z:Int): ∀u∈ [Value.int .u8 z],u.oneCell'=true:=by
 intro u hu
 simp at hu
 subst hu
 rfl
theorem own_kept {w w':World}{B c g n cap k:Nat}{T:TypeId}{xs:List Value}(h:w.ownsRow B T k (.slice (some ⟨g,0,none⟩) n cap) n xs)(hk:Kept c w w')(hc:c<B):w'.ownsRow B T k (.slice (some ⟨g,0,none⟩) n cap) n xs:=by
 refine h.kept (row:=some c) ⟨hk.os,hk.tape,hk.output,hk.size,fun i hi hne=>hk.block i hi (fun e=>hne (by rw [e]))⟩ (.inr ?_)
 have:=(h.lt g rfl).1
 simp [Value.ownBlock]
 omega
theorem Kept.grownBy {c g n cap:Nat}{a w w':World}(h:Kept c a w)(hg:w.grownBy w' (Value.slice (some ⟨g,0,none⟩) n cap).ownBlock)(hs:a.heap.size≤g):Kept c a w':=
 ⟨hg.os.trans h.os,hg.tape.trans h.tape,hg.output.trans h.output,Nat.le_trans h.size hg.size,fun k hk hne=>(hg.block k (Nat.lt_of_lt_of_le hk h.size) (by intro e;simp [Value.ownBlock]at e;omega)).trans (h.block k hk hne)⟩
theorem Cur.grownBy {c g n cap:Nat}{w w':World}(h:Cur w c)(hg:w.grownBy w' (Value.slice (some ⟨g,0,none⟩) n cap).ownBlock)(hs:c<g):Cur w' c:=
 h.upto fun i hi=>hg.block i (Nat.lt_of_le_of_lt hi h.lt) (by intro e;simp [Value.ownBlock]at e;omega)
theorem Cur.alloc {c:Nat}{w:World}(h:Cur w c)(o:Obj):Cur (w.alloc o) c:=
 h.upto fun i hi=>Below.heap_alloc _ _ _ (Nat.lt_of_le_of_lt hi h.lt)
theorem u8_of {x:Int}(h0:0≤x)(h1:x≤255):((UInt8.ofNat x.toNat).toNat:Int)=x:=by
 simp;omega
theorem bytes_snoc (l:List UInt8)(b:UInt8):(l.map fun b=>Value.int .u8 (b.toNat:Int))++[Value.int .u8 (b.toNat:Int)]=(l++[b]).map fun b=>Value.int .u8 (b.toNat:Int):=by simp
theorem four (a b c d:Int)(x:Int)(h0:0≤x)(h1:x<4): ∃v:Int,(#[.int .i64 a,.int .i64 b,.int .i64 c,.int .i64 d]:Array Value)[x.toNat]? =some (.int .i64 v)∧ ∀h,([.int .i64 a,.int .i64 b,.int .i64 c,.int .i64 d]:List Value)[x.toNat]'h=.int .i64 v:=by
 have h:x=0∨x=1∨x=2∨x=3:=by omega
 rcases h with rfl|rfl|rfl|rfl
 ·exact⟨a,rfl,fun _=>rfl⟩
 ·exact⟨b,rfl,fun _=>rfl⟩
 ·exact⟨c,rfl,fun _=>rfl⟩
 ·exact⟨d,rfl,fun _=>rfl⟩
end Go.Proofs.YtfejobjgbadfjaaGreat.Draw
namespace Go.Proofs.YtfejobjgbadfjaaGreat.Wor
open Go.RowKit RowG Hop Roa Pum Lin
theorem curG {w w':World}{c r:Nat}(h:Draw.Cur w c)(g:w.grownBy w' (some r))(hr:c<r):Draw.Cur w' c:=h.upto fun i hi=>g.block i (by have:=h.lt;omega) (by simp;omega)
theorem keptG {w0 w w':World}{c r:Nat}(h:Draw.Kept c w0 w)(g:w.grownBy w' (some r))(hr:w0.heap.size≤r):Draw.Kept c w0 w':=
 ⟨g.os.trans h.os,g.tape.trans h.tape,g.output.trans h.output,Nat.le_trans h.size g.size,fun k hk hc=>(g.block k (Nat.lt_of_lt_of_le hk h.size) (by simp;omega)).trans (h.block k hk hc)⟩
theorem l16New (c:Nat)(w:World)(hc:Draw.Cur w c):
  Calls Tryz.prog 21 #[.pointer (some ⟨c,0,none⟩)] w fun e w'=> ∃(l:List Int) (n:Int) (v:Value),capsB l n=true∧e=.returned v∧WHold w' w.heap.size v (newW l n)∧Draw.Cur w' c∧Draw.Kept c w w':=by
 have hmix:=Roa.mix
 have hcl:=hc.lt
 have v0:Var 33 ((w.alloc (.cells #[.slice none 0 0,.slice none 0 0,.string ⟨#[]⟩,.int .i64 0,.bool false,.bool false,.bool false] 33)).alloc (.cells #[] 2)) w.heap.size [.slice none 0 0,.slice none 0 0,.string ⟨#[]⟩,.int .i64 0,.bool false,.bool false,.bool false]:=(Var.new w _).alloc _
 have cu0:=(hc.alloc (.cells #[.slice none 0 0,.slice none 0 0,.string ⟨#[]⟩,.int .i64 0,.bool false,.bool false,.bool false] 33)).alloc (.cells #[] 2)
 have K0:=((Draw.Kept.refl c w).alloc (.cells #[.slice none 0 0,.slice none 0 0,.string ⟨#[]⟩,.int .i64 0,.bool false,.bool false,.bool false] 33)).alloc (.cells #[] 2)
 have o0:Roa.EI.Own 2 ((w.alloc (.cells #[.slice none 0 0,.slice none 0 0,.string ⟨#[]⟩,.int .i64 0,.bool false,.bool false,.bool false] 33)).alloc (.cells #[] 2)) (w.heap.size+1) (some ⟨w.heap.size+1,0,none⟩) 0 []:=by
  have q:=Roa.ownI_empty (w.alloc (.cells #[.slice none 0 0,.slice none 0 0,.string ⟨#[]⟩,.int .i64 0,.bool false,.bool false,.bool false] 33))
  simpa using q
 go_enter Tryz.func21,Tryz.ntmps21
 go_wp2_with fail
 generalize (w.alloc (.cells #[.slice none 0 0,.slice none 0 0,.string ⟨#[]⟩,.int .i64 0,.bool false,.bool false,.bool false] 33)).alloc (.cells #[] 2)=V at *
 go_loopw [3,4] (fun lv iv wr=> ∃(k g cap:Nat) (L:List Int),k≤6∧iv=.int .i64 k∧lv=.slice (some ⟨g,0,none⟩) k cap∧Hid (L.length=k∧L.all Tak.capB=true)∧Roa.EI.Own 2 wr (w.heap.size+1) (some ⟨g,0,none⟩) cap L∧Var 33 wr w.heap.size [.slice none 0 0,.slice none 0 0,.string ⟨#[]⟩,.int .i64 0,.bool false,.bool false,.bool false]∧Draw.Cur wr c∧Draw.Kept c w wr) (fun _ iv _=>6-(intOf iv).toNat)
 case atStart=>exact⟨0,_,0,[],by omega,rfl,rfl,⟨rfl,rfl⟩,o0,v0,cu0,K0⟩
 case round=>
  clear o0 v0 cu0 K0
  obtain⟨k,g,cap,L,hk,rfl,rfl,HL,o1,v1,cu1,K1⟩:=hrel
  by_cases hk6:k<6
  ·have i0:(k:Int)<6:=by omega
   have hb1:c<wr.heap.size:=cu1.lt
   have vb:Var 2 (wr.alloc (.cells #[.int .i64 3,.int .i64 8,.int .i64 20,.int .i64 60] 2)) wr.heap.size ([3,8,20,60].map (Value.int .i64)):=Var.new wr _
   replace o1:=o1.alloc (.cells #[.int .i64 3,.int .i64 8,.int .i64 20,.int .i64 60] 2)
   replace v1:=v1.alloc (.cells #[.int .i64 3,.int .i64 8,.int .i64 20,.int .i64 60] 2)
   replace cu1:=cu1.alloc (.cells #[.int .i64 3,.int .i64 8,.int .i64 20,.int .i64 60] 2)
   replace K1:=K1.alloc (.cells #[.int .i64 3,.int .i64 8,.int .i64 20,.int .i64 60] 2)
   go_wp2_with fail
   generalize wr.alloc (.cells #[.int .i64 3,.int .i64 8,.int .i64 20,.int .i64 60] 2)=V1 at *
   generalize wr.heap.size=b at *
   refine(Draw.l1Below _ _ _ cu1).mono ?_
   rintro e w2 ⟨y,y0,y1,rfl,cu2,k2⟩
   replace y1:y<4:=by omega
   replace vb:=vb.kept k2 (by omega)
   replace o1:=o1.kept k2 (fun x hx=>by have:=(o1.lt x hx).1;omega)
   replace v1:=v1.kept k2 (by omega)
   replace K1:=K1.trans k2
   clear cu1 k2
   obtain⟨n,hn,hcell⟩:=RegJ.int_sat (ns:=[3,8,20,60]) vb (i:=y.toNat) (by simp;omega)
   have o2:=o1.alloc (.cells #[.int .i64 n] 2)
   have v2:=v1.alloc (.cells #[.int .i64 n] 2)
   have cu3:=cu2.alloc (.cells #[.int .i64 n] 2)
   have K2:=K1.alloc (.cells #[.int .i64 n] 2)
   have hz:w.heap.size+1≤(w2.alloc (.cells #[.int .i64 n] 2)).heap.size:=by have:=v2.lt;omega
   have L5:Roa.EI.Lies (w2.alloc (.cells #[.int .i64 n] 2)) (some ⟨w2.heap.size,0,none⟩) [n]:=El.lies_new rfl
   have hg:=(o2.lt _ rfl).1
   simp only at hg
   have hlen:=HL.out.1
   go_wp2_with (at_builtin;refine wpList_appS Roa.tyI (by decide) (by rfl) _ _ (by rfl) (w.heap.size+1) g cap k L [n] hlen.symm (by rfl) o2 hz (some ⟨w2.heap.size,0,none⟩) 1 1 rfl (by rfl) L5 (fun e=>by cases e) (by rw [hlen];simp;omega) ?_;intro g6 cap6 w6 o6 gr6)
   have cu6:=curG cu3 gr6 (by omega)
   have K6:=keptG K2 gr6 (by omega)
   have v6:=v2.grown gr6 (fun x hx=>by cases hx;omega)
   have HL6:Hid ((L++[n]).length=k+1∧(L++[n]).all Tak.capB=true):=by
    refine⟨by simp [hlen],?_⟩
    rw [List.all_append,HL.out.2]
    simp at hn
    rcases hn with rfl|rfl|rfl|rfl <;>rfl
   clear hlen
   go_roundw
   case rel=>exact⟨k+1,g6,cap6,L++[n],by omega,by simp,rfl,HL6,o6,v6,cu6,K6⟩
   case measure=>simp [intOf];omega
  ·obtain rfl:k=6:=by omega
   have i0: ¬((6:Nat):Int)<6:=by decide
   go_wp2_with fail
   refine(Draw.l1Below _ _ _ cu1).mono ?_
   rintro e w2 ⟨y,y0,y1,rfl,cu2,k2⟩
   have hb1:c<wr.heap.size:=cu1.lt
   replace o1:=o1.kept k2 (fun x hx=>by have:=(o1.lt x hx).1;omega)
   replace v1:=v1.kept k2 (by omega)
   replace K1:=K1.trans k2
   have hcaps:capsB L (1+y)=true:=by
    have:=HL.out
    have h1:1≤1+y∧1+y≤4:=by omega
    simp [capsB,this.1,this.2,h1]
   have HC:Hid _:=hcaps
   clear hcaps cu1 k2
   go_wp2_with fail
   have hNW:=specNewWorld (some ⟨g,0,none⟩) cap L (1+y) w2 o1.lies (by rw [HL.out.1];decide) HC.out
   rw [HL.out.1]at hNW
   refine hNW.mono ?_
   rintro e w3 ⟨v,rfl,hold,b3⟩
   clear hNW
   have cu3:=cu2.below b3 (Nat.le_refl _)
   have K3:=K1.trans (Draw.Kept.ofBelow b3 (Nat.le_refl _))
   replace v1:=v1.later b3
   have z2:w.heap.size≤w2.heap.size:=K1.size
   clear cu2 K1 o1 b3
   obtain⟨W,hW⟩: ∃W,newW L (1+y)=W:=⟨_,rfl⟩
   rw [hW]at hold
   have HW:Hid (newW L (1+y)=W):=hW
   clear hW
   obtain⟨g2,h2,xs2,a2,r2,rfl,A2⟩:=hold
   replace A2:=A2.later ((Below.refl _ _).alloc (Nat.le_refl _) (.cells #[.slice (some ⟨g2,0,none⟩) 3 h2,.slice a2 W.rs.length r2,.string W.tx,.int .i64 W.rd,.bool W.en,.bool W.dn,.bool W.sn] 33))
   replace v1:=v1.alloc (.cells #[.slice (some ⟨g2,0,none⟩) 3 h2,.slice a2 W.rs.length r2,.string W.tx,.int .i64 W.rd,.bool W.en,.bool W.dn,.bool W.sn] 33)
   replace cu3:=cu3.alloc (.cells #[.slice (some ⟨g2,0,none⟩) 3 h2,.slice a2 W.rs.length r2,.string W.tx,.int .i64 W.rd,.bool W.en,.bool W.dn,.bool W.sn] 33)
   replace K3:=K3.alloc (.cells #[.slice (some ⟨g2,0,none⟩) 3 h2,.slice a2 W.rs.length r2,.string W.tx,.int .i64 W.rd,.bool W.en,.bool W.dn,.bool W.sn] 33)
   have v2:Var 33 (w3.alloc (.cells #[.slice (some ⟨g2,0,none⟩) 3 h2,.slice a2 W.rs.length r2,.string W.tx,.int .i64 W.rd,.bool W.en,.bool W.dn,.bool W.sn] 33)) w3.heap.size [.slice (some ⟨g2,0,none⟩) 3 h2,.slice a2 W.rs.length r2,.string W.tx,.int .i64 W.rd,.bool W.en,.bool W.dn,.bool W.sn]:=Var.new w3 _
   obtain⟨e0,e1,e2,e3,e4,e5,e6⟩:=v1.c7
   obtain⟨d0,d1,d2,d3,d4,d5,d6⟩:=v2.c7
   obtain⟨f0,f1,f2,f3,f4,f5,f6⟩:=v1.f7
   go_wp2_with fail
   generalize w3.alloc (.cells #[.slice (some ⟨g2,0,none⟩) 3 h2,.slice a2 W.rs.length r2,.string W.tx,.int .i64 W.rd,.bool W.en,.bool W.dn,.bool W.sn] 33)=V3 at *
   obtain⟨WZ,hWZ⟩: ∃z,Hid (z=((((((V3.setCell ⟨w.heap.size,0,none⟩ (.slice (some ⟨g2,0,none⟩) 3 h2)).setCell ⟨w.heap.size,1,none⟩ (.slice a2 W.rs.length r2)).setCell ⟨w.heap.size,2,none⟩ (.string W.tx)).setCell ⟨w.heap.size,3,none⟩ (.int .i64 W.rd)).setCell ⟨w.heap.size,4,none⟩ (.bool W.en)).setCell ⟨w.heap.size,5,none⟩ (.bool W.dn)).setCell ⟨w.heap.size,6,none⟩ (.bool W.sn)):=⟨_,rfl⟩
   have ka:Draw.Kept w.heap.size V3 WZ:=by rw [hWZ.out];exact kept7 _ _ _ _ _ _ _ _ _
   have vv:Var 33 WZ w.heap.size [.slice (some ⟨g2,0,none⟩) 3 h2,.slice a2 W.rs.length r2,.string W.tx,.int .i64 W.rd,.bool W.en,.bool W.dn,.bool W.sn]:=by rw [hWZ.out];exact var7 v1 _ _ _ _ _ _ _
   have A6:=A2.keptV v1 (by decide) (by decide) (by decide) (by decide) ka
   have cu6:Draw.Cur WZ c:=cu3.upto (fun i hi=>ka.block i (by have:=cu3.lt;omega) (by omega))
   have K6:Draw.Kept c w WZ:=⟨ka.os.trans K3.os,ka.tape.trans K3.tape,ka.output.trans K3.output,Nat.le_trans K3.size ka.size,fun i hi hc=>(ka.block i (Nat.lt_of_lt_of_le hi K3.size) (by omega)).trans (K3.block i hi hc)⟩
   clear ka A2 v1 v2 cu3 K3 e0 e1 e2 e3 e4 e5 e6 d0 d1 d2 d3 d4 d5 d6 f0 f1 f2 f3 f4 f5 f6
   have hWZo:=hWZ.out
   clear hWZ
   subst hWZo
   generalize (((((((V3.setCell ⟨w.heap.size,0,none⟩ (.slice (some ⟨g2,0,none⟩) 3 h2)).setCell ⟨w.heap.size,1,none⟩ (.slice a2 W.rs.length r2)).setCell ⟨w.heap.size,2,none⟩ (.string W.tx)).setCell ⟨w.heap.size,3,none⟩ (.int .i64 W.rd)).setCell ⟨w.heap.size,4,none⟩ (.bool W.en)).setCell ⟨w.heap.size,5,none⟩ (.bool W.dn)).setCell ⟨w.heap.size,6,none⟩ (.bool W.sn))=WZ at *
   obtain⟨e0,e1,e2,e3,e4,e5,e6⟩:=vv.c7
   refine bodyPost_ret (v:=.agg #[.slice (some ⟨g2,0,none⟩) 3 h2,.slice a2 W.rs.length r2,.string W.tx,.int .i64 W.rd,.bool W.en,.bool W.dn,.bool W.sn]) (by rw [Hop.res_one rfl];go_simp) rfl ⟨L,1+y,_,HC.out,rfl,?_,cu6,K6⟩
   rw [HW.out]
   exact⟨g2,h2,xs2,a2,r2,rfl,⟨A6.L.mono z2,A6.hs,A6.R.mono z2,A6.ok⟩⟩
end Go.Proofs.YtfejobjgbadfjaaGreat.Wor
namespace Go.Proofs.YtfejobjgbadfjaaGreat.Draw
open Go.RowKit
theorem stand {p:Prop}(h:Hid p):p:=h.out
theorem l5Text (p n:Int)(w:World)(hp:0≤p)(hp1:p≤4000000000)(hn:0≤n)(hn1:n≤4096):
  Calls Tryz.prog 62 #[.int .i64 p,.int .i64 n] w fun e w'=> ∃s:ByteArray,(s.size:Int)=n∧e=.returned (.string s)∧Below w.heap.size w w':=by
 obtain⟨i,hi,hz0,hz1,hz2⟩:=info_parts infoU8
 have hown:(w.alloc (.cells #[] 5)).ownsRow w.heap.size 5 1 (.slice (some ⟨w.heap.size,0,none⟩) 0 0) 0 []:=World.ownsRow_made w #[] 0 (Nat.le_refl _) (Nat.zero_le _) rfl
 have hb0:Below w.heap.size w (w.alloc (.cells #[] 5)):=(Below.refl _ _).alloc (Nat.le_refl _) _
 go_enter Tryz.func62,Tryz.ntmps62
 go_wp2_with fail
 go_loopw [5,6] (fun v kv wr=> ∃(l:List UInt8) (g cap:Nat),(l.length:Int)≤n∧v=.slice (some ⟨g,0,none⟩) l.length cap∧kv=.int .i64 (p+l.length)∧wr.ownsRow w.heap.size 5 1 (.slice (some ⟨g,0,none⟩) l.length cap) l.length (l.map fun b=>Value.int .u8 (b.toNat:Int))∧Below w.heap.size w wr) (fun _ kv _=>(p+n-intOf kv).toNat)
 case atStart=>exact⟨[],w.heap.size,0,hn,rfl,by simp,hown,hb0⟩
 case round=>
  clear hown hb0
  obtain⟨l,g,cap,hln,rfl,rfl,hown,hB⟩:=hrel
  by_cases hm:(l.length:Int)<n
  ·have hm':p+(l.length:Int)<p+n:=by omega
   have n1:l.length+1≤maxLen:=by unfold maxLen;omega
   have n2:w.heap.size≤wr.heap.size+1:=by have:=hB.size;omega
   have n3:(l.length+1)*1≤140737488355328:=by omega
   have hg:=(hown.lt g rfl).1
   obtain⟨K,hK⟩: ∃K:Int,p+(l.length:Int)=K:=⟨_,rfl⟩
   have k0:0≤K:=by omega
   have k1:K≤5000000000:=by omega
   have HK:Hid _:=hK
   rw [hK]at hm' ⊢
   clear hK
   have x0:0≤97+(K*7+K / 26)%26:=by omega
   have x1:97+(K*7+K / 26)%26≤255:=by omega
   obtain⟨b,hb⟩: ∃b:UInt8,(b.toNat:Int)=97+(K*7+K / 26)%26:=⟨_,u8_of x0 x1⟩
   have HB:Hid _:=hb
   clear hb x0 x1
   go_wp2_with (at_builtin;refine wpList_append_lies _ (by rfl) _ _ 22 (by rfl) w.heap.size 5 i (.int .u8 0) 1 1 Tryz.underlying22 hi hz0 hz1 hz2 rfl (by decide) _ _ _ (by rfl) (hown.alloc _) ⟨wr.heap.size,0,none⟩ 1 1 [.int .u8 (97+(K*7+K / 26)%26)] (by rfl) rfl (World.news_of_block (heap_alloc_new wr _)) (one_u8 _) (by decide) n1 n3 (by simpa using n2) (wr.heap.size+1) (by simp) ?_;intro g1 cap1 w3 hown3 hgrow3 hat3 hlt3)
   have b3:Below w.heap.size w w3:=(hB.alloc hB.size _).trans ⟨hgrow3.os,hgrow3.tape,hgrow3.output,hgrow3.size,fun q hq=>hgrow3.block q (Nat.lt_of_lt_of_le hq (by have:=hB.size;simp;omega)) (fun e=>by simp [Value.ownBlock]at e;omega)⟩
   clear hgrow3 hat3 hlt3 hown
   go_roundw
   case rel=>
    rw [←HB.out,bytes_snoc]at hown3
    have hl:(l++[b]).length=l.length+1:=by simp
    exact⟨l++[b],g1,cap1,by rw [hl];omega,by rw [hl],by rw [hl,←HK.out];go_num,by rw [hl];exact hown3,b3⟩
   case measure=>have:=HK.out;simp [intOf];omega
  ·obtain⟨_,_,hrow⟩:=Row.ofOwn hown
   have hconv:=text_byteRow hrow l.length cap rfl
   have hm': ¬p+(l.length:Int)<p+n:=by omega
   have hle:(l.length:Int)=n:=by omega
   have HL:Hid _:=hle
   clear hle hown hrow
   go_wp2_with fail
   go_ret
   exact⟨⟨l.toArray⟩,HL.out,rfl,hB⟩
theorem l1DrawText (c:Nat)(sg:ByteArray)(most:Int)(w:World)(h:Cur w c)(hs0:0<sg.size)(hs1:sg.size≤4096)(m0:0<most)(m1:most≤4096):
  Calls Tryz.prog 77 #[.pointer (some ⟨c,0,none⟩),.string sg,.int .i64 most] w fun e w'=> ∃s:ByteArray,(s.size:Int)<most∧e=.returned (.string s)∧Cur w' c∧Kept c w w':=by
 have hlt:=h.lt
 obtain⟨i,hi,hz0,hz1,hz2⟩:=info_parts infoU8
 go_enter Tryz.func77,Tryz.ntmps77
 go_wp2_with fail
 refine(l1Below _ _ _ (h.alloc _)).mono ?_
 rintro e w1 ⟨n,n0,n1,rfl,c1,k1⟩
 have n2:n<most:=by omega
 have hown:w1.ownsRow w.heap.size 5 1 (.slice (some ⟨w.heap.size,0,none⟩) 0 0) 0 []:=own_kept (World.ownsRow_made w #[] 0 (Nat.le_refl _) (Nat.zero_le _) rfl) k1 hlt
 have hkept:Kept c w w1:=((Kept.refl c w).alloc _).trans k1
 clear k1 n1
 go_wp2_with fail
 go_loopw [7,8] (fun v nv wr=> ∃(l:List UInt8) (g cap:Nat) (m:Int),0≤m∧(l.length:Int)+m=n∧v=.slice (some ⟨g,0,none⟩) l.length cap∧nv=.int .i64 m∧wr.ownsRow w.heap.size 5 1 (.slice (some ⟨g,0,none⟩) l.length cap) l.length (l.map fun b=>Value.int .u8 (b.toNat:Int))∧Cur wr c∧Kept c w wr) (fun _ nv _=>(intOf nv).toNat)
 case atStart=>exact⟨[],w.heap.size,0,n,n0,by simp,rfl,rfl,hown,c1,hkept⟩
 case round=>
  clear hown c1 hkept
  obtain⟨l,g,cap,m,mm,hlm,rfl,rfl,hown,cr,kr⟩:=hrel
  by_cases hm:0<m
  ·go_wp2_with fail
   refine(l1Below _ _ _ cr).mono ?_
   rintro e w2 ⟨y,y0,y1,rfl,c2,k2⟩
   have y2:y<(sg.size:Int):=by omega
   have y3:y.toNat<sg.size:=by omega
   have hown2:=own_kept hown k2 hlt
   have kept2:=kr.trans k2
   have hg:=(hown.lt g rfl).1
   clear hown k2 kr cr
   obtain⟨b,hb⟩: ∃b:UInt8,sg[y.toNat]=b:=⟨_,rfl⟩
   have n1:l.length+1≤maxLen:=by unfold maxLen;omega
   have n2:w.heap.size≤w2.heap.size+1:=by have:=kept2.size;omega
   have n3:(l.length+1)*1≤140737488355328:=by omega
   have mn:m≤n:=by omega
   have HB:Hid _:=hb
   have HL:Hid _:=hlm
   clear hb hlm
   go_wp2_with (at_builtin;refine wpList_append_lies _ (by rfl) _ _ 22 (by rfl) w.heap.size 5 i (.int .u8 0) 1 1 Tryz.underlying22 hi hz0 hz1 hz2 rfl (by decide) _ _ _ (by rfl) (hown2.alloc _) ⟨w2.heap.size,0,none⟩ 1 1 [.int .u8 (sg[y.toNat].toNat:Int)] (by rfl) rfl (World.news_of_block (heap_alloc_new w2 _)) (one_u8 _) (by decide) n1 n3 (by simpa using n2) (w2.heap.size+1) (by simp) ?_;intro g1 cap1 w3 hown3 hgrow3 hat3 hlt3)
   have c3:=(c2.alloc _).grownBy hgrow3 (by omega)
   have k3:=(kept2.alloc _).grownBy hgrow3 hg
   clear hgrow3 hat3 hlt3 c2 kept2 hown2
   go_wp2_with fail
   go_roundw
   case rel=>
    rw [HB.out,bytes_snoc]at hown3
    have hl:(l++[b]).length=l.length+1:=by simp
    exact⟨l++[b],g1,cap1,m-1,by omega,by rw [hl];have:=HL.out;omega,by rw [hl],rfl,by rw [hl];exact hown3,c3,k3⟩
   case measure=>simp [intOf];omega
  ·obtain⟨_,_,hrow⟩:=Row.ofOwn hown
   have hconv:=text_byteRow hrow l.length cap rfl
   have HL:Hid _:=hlm
   clear hlm hown hrow
   go_wp2_with fail
   go_ret
   refine⟨⟨l.toArray⟩,?_,rfl,cr,kr⟩
   have:(⟨l.toArray⟩:ByteArray).size=l.length:=rfl
   rw [this]
   have:=HL.out
   omega
end Go.Proofs.YtfejobjgbadfjaaGreat.Draw
