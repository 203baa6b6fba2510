/- Contracts of this seat's functions, and their mathematics (LinV RegE WorR RowB DrawS). -/
import Derived.Test.YtfmcahjdhoabcaaGreatU19
import Derived.Test.YtfmcahjdhoabcaaGreatU34
import Derived.Test.YtfmcahjdhoabcaaGreatU32
import Derived.Test.YtfmcahjdhoabcaaGreatU1
import Derived.Laws.IdiomStrings
import Derived.Deep.AppendLies
set_option linter.unusedVariables false
set_option linter.unusedSimpArgs false
set_option maxRecDepth 10000
set_option maxHeartbeats 4000000
namespace Go.Proofs.YtfmcahjdhoabcaaGreat.Wor
open Go.RowKit RowG Hop Roa Lin
def toHp (x:Int×Int):Hp:=⟨⟨0,⟨#[]⟩,x.1,0,false,false⟩,⟨0,⟨#[]⟩,[],x.2,-1,false⟩,[]⟩
def toHa (x:Int×Int):Ha:=⟨toHp x,none,0,none,0⟩
theorem vals_toHa (l:List (Int×Int)):hopE.vals (l.map toHa)=H0.vals l:=by
 induction l with
 | nil=>rfl
 | cons x l ih=>rw [List.map_cons,El.vals_cons,El.vals_cons,ih];rfl
theorem lay_new {w:World}{B:Nat}{a:Option Addr}{c:Nat}{l:List (Int×Int)}(h:H0.Own 53 w B a c l):LineLay w B a c (l.map toHa):=by
 refine⟨?_,fun x hx=>?_,fun i j x y _ hx _ p q hp _=>?_⟩
 ·unfold El.Own at h ⊢
  rw [vals_toHa,List.length_map]
  exact h
 ·obtain⟨z,_,rfl⟩:=List.mem_map.1 hx
  exact⟨El.Own.none _ _,El.Own.none _ _⟩
 ·obtain⟨z,_,rfl⟩:=List.mem_map.1 (List.mem_of_getElem? hx)
  cases hp
end Go.Proofs.YtfmcahjdhoabcaaGreat.Wor
namespace Go.Proofs.YtfmcahjdhoabcaaGreat.RegJ
open Go.RowKit
def ValE (vs:List (Option Value))(ps:List Tie)(d:Nat→Bool)(j:Nat)(v:Value)(w:World):Prop:=Val vs d j v w∧ ∀q∈ps,j=q.1→(q.2.1=q.1∨d q.2.1=false)→q.2.2 v w
theorem ValE.keep {vs:List (Option Value)}{ps:List Tie}{d:Nat→Bool}{x:Nat→Value}{w w':World}{i:Nat}(h: ∀q∈ps,i=q.1∨(q.2.1≠q.1∧(i=q.2.1∨d q.2.1=true))∨ ∀v,q.2.2 v w→q.2.2 v w'):
  ∀j,j≠i→ValE vs ps d j (x j) w→ValE vs ps (fun j=>j==i||d j) j (x j) w':=fun j hj hv=>
 ⟨Val.keep j hj hv.1,fun q hq he hz=>by
  have hz':q.2.1=q.1∨((q.2.1==i)=false∧d q.2.1=false):=by
   rcases hz with h1|h1
   ·exact .inl h1
   ·exact .inr (by simpa using h1)
  rcases h q hq with h1|⟨h1,h2⟩|h1
  ·exact absurd (he.trans h1.symm) hj
  ·rcases hz' with h3|⟨h3,h4⟩
   ·exact absurd h3 h1
   ·rcases h2 with h2|h2
    ·simp [h2]at h3
    ·rw [h4]at h2;cases h2
  ·exact h1 _ (hv.2 q hq he (hz'.imp id (·.2)))⟩
theorem ValE.same {vs:List (Option Value)}{ps:List Tie}{d:Nat→Bool}{x:Nat→Value}{w:World}{i:Nat}: ∀j,j≠i→ValE vs ps d j (x j) w→ValE vs ps (fun j=>j==i||d j) j (x j) w:=ValE.keep fun _ _=>.inr (.inr fun _ h=>h)
theorem ValE.this {vs:List (Option Value)}{ps:List Tie}{d:Nat→Bool}{w:World}{i:Nat}{v:Value}(h:vs[i]? =some (some v)∨vs[i]? =some none)(hp: ∀q∈ps,i=q.1→q.2.2 v w):ValE vs ps (fun j=>j==i||d j) i v w:=
 ⟨Val.this h,fun q hq he _=>hp q hq he⟩
theorem ValE.free {vs:List (Option Value)}{ps:List Tie}{d:Nat→Bool}{w:World}{i:Nat}{v:Value}(h:vs[i]? =some (some v)∨vs[i]? =some none)(hn:(ps.all fun q=>q.1 !=i)=true):ValE vs ps (fun j=>j==i||d j) i v w:=
 ValE.this h fun q hq he=>by
  simp only [List.all_eq_true]at hn
  have:=hn q hq
  simp [he]at this
theorem ValE.got {vs:List (Option Value)}{ps:List Tie}{d:Nat→Bool}{w:World}{i:Nat}{v:Value}(n:Nat)(z:Nat)(P:Value→World→Prop)(h:vs[i]? =some (some v)∨vs[i]? =some none)(hn:ps[n]? =some (i,z,P))(ho:((List.range ps.length).all fun k=>k==n||(ps.getD k (i,0,fun _ _=>True)).1 !=i)=true)(hp:P v w):ValE vs ps (fun j=>j==i||d j) i v w:=
 ValE.this h fun q hq he=>by
  obtain⟨k,hk,rfl⟩:=List.getElem_of_mem hq
  simp only [List.all_eq_true,List.mem_range]at ho
  have h1:=ho k hk
  have h2:ps.getD k (i,0,fun _ _=>True)=ps[k]:=by simp [List.getD,hk]
  rw [h2,←he]at h1
  have h3:k=n:=by simpa using h1
  subst h3
  rw [List.getElem?_eq_getElem hk]at hn
  injection hn with hn
  rw [hn]
  exact hp
theorem ValE.val {vs:List (Option Value)}{ps:List Tie}{d:Nat→Bool}{j:Nat}{v:Value}{w:World}(h:ValE vs ps d j v w){u:Value}(hu:vs[j]? =some (some u)):v=u:=h.1.2 u hu
theorem ValE.done {vs:List (Option Value)}{ps:List Tie}{d:Nat→Bool}{j:Nat}{v:Value}{w:World}(h:ValE vs ps d j v w):d j=true:=h.1.1
theorem ValE.tie {vs:List (Option Value)}{ps:List Tie}{d:Nat→Bool}{j:Nat}{v:Value}{w:World}(h:ValE vs ps d j v w)(n:Nat){z:Nat}{P:Value→World→Prop}(hn:ps[n]? =some (j,z,P))(hz:z=j∨d z=false):P v w:=
 h.2 (j,z,P) (List.mem_of_getElem? hn) rfl hz
end Go.Proofs.YtfmcahjdhoabcaaGreat.RegJ
namespace Go.Proofs.YtfmcahjdhoabcaaGreat.Wor
open Go.RowKit RowG Hop Roa Pum Lin
def newW (l:List Int)(n:Int):Wd:=⟨(newHs l 3).map toHp,newRs n.toNat,⟨#[]⟩,0,false,false,false⟩
theorem caps_at {l:List Int}{n:Int}(h:capsB l n=true):(∀j,j<6→Tak.capB (capAt l j)=true)∧1≤n∧n≤4:=by
 simp only [capsB,Bool.and_eq_true,decide_eq_true_eq,List.all_eq_true]at h
 refine⟨fun j hj=>?_,h.2.1⟩
 have e:capAt l j=l[j]'(by omega):=by simp [capAt,show j<l.length by omega]
 rw [e]
 exact h.2.2 _ (List.getElem_mem _)
theorem ok_new {l:List Int}{n:Int}(h:capsB l n=true):okW (newW l n)=true:=by
 obtain⟨hc,h1,h4⟩:=caps_at h
 refine ok_parts.2 ⟨hops_iff.2 ⟨by simp [newW,newHs_len],?_,fun i hi=>?_⟩,?_⟩
 ·simp only [newW,roadsB,newRs_len,Bool.and_eq_true,decide_eq_true_eq,List.all_eq_true]
  refine⟨fun x hx=>?_,by omega⟩
  obtain⟨i,hi,rfl⟩:=List.mem_map.1 hx
  simp at hi
  simp only [rdB,Num.plB,Bool.and_eq_true,decide_eq_true_eq]
  omega
 ·have e:(newW l n).hs.getD i zeroH=toHp (capAt l (2*i),capAt l (2*i+1)):=by
   simp [newW,newHs,List.getD,hi]
  rw [e]
  exact⟨newH_ok (hc _ (by omega)) (hc _ (by omega)),fun x hx=>by cases hx⟩
 ·rfl
theorem specNewWorld (a:Option Addr)(cap:Nat)(l:List Int)(n:Int)(w:World)(h:Roa.EI.Lies w a l)(hl:l.length≤2097152)(hc:capsB l n=true):
  Calls Tryz.prog 39 #[.slice a l.length cap,.int .i64 n] w fun e w'=> ∃v,e=.returned (.tuple #[v,.bool true])∧WHold w' w.heap.size v (newW l n)∧Below w.heap.size w w':=by
 have hmix:=Roa.mix
 obtain⟨V,hV⟩: ∃z,Hid (z=w.alloc (.cells #[.slice none 0 0,.slice none 0 0,.string ⟨#[]⟩,.int .i64 0,.bool false,.bool false,.bool false] 31)):=⟨_,rfl⟩
 have v0:Var 31 V w.heap.size [.slice none 0 0,.slice none 0 0,.string ⟨#[]⟩,.int .i64 0,.bool false,.bool false,.bool false]:=by rw [hV.out];exact Var.new w _
 have b0:Below w.heap.size w V:=by rw [hV.out];exact(Below.refl _ _).alloc (Nat.le_refl _) _
 go_enter Tryz.func39,Tryz.ntmps39
 go_wp2_with fail
 rw [←hV.out]
 clear hV
 refine(specNewLine a cap l n _ (h.later b0) hl).mono ?_
 rintro x w1 ⟨b1,hx⟩
 obtain⟨g,c,g',c',rfl,oH,oR⟩: ∃g c g' c',x=.returned (.tuple #[.agg #[.slice (some ⟨g,0,none⟩) 3 c,.slice (some ⟨g',0,none⟩) n.toNat c'],.bool true])∧H0.Own 53 w1 V.heap.size (some ⟨g,0,none⟩) c (newHs l 3)∧Roa.E.Own 100 w1 V.heap.size (some ⟨g',0,none⟩) c' (newRs n.toNat):=by
  rcases hx with⟨hc',_⟩|⟨_,h⟩
  ·rw [hc]at hc';cases hc'
  ·exact h
 have zV:=b0.size
 replace v0:=(v0.later b1).alloc (.cells #[.slice (some ⟨g,0,none⟩) 3 c,.slice (some ⟨g',0,none⟩) n.toNat c'] 27)
 have B1:=b0.trans (b1.mono b0.size)
 replace B1:=B1.alloc B1.size (.cells #[.slice (some ⟨g,0,none⟩) 3 c,.slice (some ⟨g',0,none⟩) n.toNat c'] 27)
 obtain⟨V1,hV1⟩: ∃z,Hid (z=w1.alloc (.cells #[.slice (some ⟨g,0,none⟩) 3 c,.slice (some ⟨g',0,none⟩) n.toNat c'] 27)):=⟨_,rfl⟩
 have A:WAs V1 w.heap.size g c ((newHs l 3).map toHa) (some ⟨g',0,none⟩) c' (newW l n):=by rw [hV1.out];exact⟨((lay_new oH).alloc _).mono zV,by simp [newW,toHa],(oR.alloc _).mono zV,ok_new hc⟩
 have v1:Var 27 V1 w1.heap.size [.slice (some ⟨g,0,none⟩) 3 c,.slice (some ⟨g',0,none⟩) n.toNat c']:=by rw [hV1.out];exact Var.new w1 _
 have e0:=v1.cell (i:=0) rfl
 have e1:=v1.cell (i:=1) rfl
 obtain⟨c0,c1,c2,c3,c4,c5,c6⟩:=v0.c7
 obtain⟨y0,y1,y2,y3,y4,y5,y6⟩:=v0.f7
 go_wp2_with fail
 have hV1o:=hV1.out
 clear hV1
 subst hV1o
 generalize w1.alloc (.cells #[.slice (some ⟨g,0,none⟩) 3 c,.slice (some ⟨g',0,none⟩) n.toNat c'] 27)=V1 at *
 obtain⟨WZ,hWZ⟩: ∃z,Hid (z=((((((V1.setCell ⟨w.heap.size,0,none⟩ (.slice (some ⟨g,0,none⟩) 3 c)).setCell ⟨w.heap.size,1,none⟩ (.slice (some ⟨g',0,none⟩) n.toNat c')).setCell ⟨w.heap.size,2,none⟩ (.string ⟨#[]⟩)).setCell ⟨w.heap.size,3,none⟩ (.int .i64 0)).setCell ⟨w.heap.size,4,none⟩ (.bool false)).setCell ⟨w.heap.size,5,none⟩ (.bool false)).setCell ⟨w.heap.size,6,none⟩ (.bool false)):=⟨_,rfl⟩
 have ka:Draw.Kept w.heap.size V1 WZ:=by rw [hWZ.out];exact kept7 _ _ _ _ _ _ _ _ _
 have B3:=B1.trans (ka.below (by omega) B1.size)
 have vv:Var 31 WZ w.heap.size [.slice (some ⟨g,0,none⟩) 3 c,.slice (some ⟨g',0,none⟩) n.toNat c',.string ⟨#[]⟩,.int .i64 0,.bool false,.bool false,.bool false]:=by rw [hWZ.out];exact var7 v0 _ _ _ _ _ _ _
 have A6:=A.keptV v0 (by decide) (by decide) (by decide) (by decide) ka
 clear ka A v0 B1 e0 e1 c0 c1 c2 c3 c4 c5 c6 y0 y1 y2 y3 y4 y5 y6
 have hWZo:=hWZ.out
 clear hWZ
 subst hWZo
 generalize (((((((V1.setCell ⟨w.heap.size,0,none⟩ (.slice (some ⟨g,0,none⟩) 3 c)).setCell ⟨w.heap.size,1,none⟩ (.slice (some ⟨g',0,none⟩) n.toNat c')).setCell ⟨w.heap.size,2,none⟩ (.string ⟨#[]⟩)).setCell ⟨w.heap.size,3,none⟩ (.int .i64 0)).setCell ⟨w.heap.size,4,none⟩ (.bool false)).setCell ⟨w.heap.size,5,none⟩ (.bool false)).setCell ⟨w.heap.size,6,none⟩ (.bool false))=WZ at *
 obtain⟨c0,c1,c2,c3,c4,c5,c6⟩:=vv.c7
 have hrl:(newW l n).rs.length=n.toNat:=newRs_len _
 refine bodyPost_ret (v:=.tuple #[.agg #[.slice (some ⟨g,0,none⟩) 3 c,.slice (some ⟨g',0,none⟩) n.toNat c',.string ⟨#[]⟩,.int .i64 0,.bool false,.bool false,.bool false],.bool true]) (by rw [Tak.res_cell_tmp rfl];go_simp) rfl ⟨_,rfl,⟨g,c,_,_,c',by rw [hrl];rfl,A6⟩,B3⟩
end Go.Proofs.YtfmcahjdhoabcaaGreat.Wor
namespace Go.Proofs.YtfmcahjdhoabcaaGreat.Draw
open Go.RowKit
def Row (w:World)(g:Nat)(l:List UInt8):Prop:= ∀j (hj:j<l.length),w.cell? ⟨g,j,none⟩=some (.int .u8 (l[j].toNat:Int))∧w.frozen? ⟨g,j,none⟩=false
theorem Row.same {w w':World}{g:Nat}{l:List UInt8}(h:Row w g l)(e:w'.heap[g]? =w.heap[g]?):Row w' g l:=fun j hj=>
 ⟨(World.cell?_of_block (w:=w) (a:=⟨g,j,none⟩) e).trans (h j hj).1,(World.frozen?_of_block (w:=w) (a:=⟨g,j,none⟩) e).trans (h j hj).2⟩
theorem Row.below {w w':World}{g B:Nat}{l:List UInt8}(h:Row w g l)(k:Below B w w')(hg:g<B):Row w' g l:=h.same (k.block g hg)
theorem Row.lt {w:World}{g:Nat}{l:List UInt8}(h:Row w g l)(h0:0<l.length):g<w.heap.size:=lt_of_cell (h 0 h0).1
theorem text_byteRow {w:World}{g:Nat}{l:List UInt8}(h:Row w g l)(n cap:Nat)(hn:n=l.length):(convert 22 9 (.slice (some ⟨g,0,none⟩) n cap)).run Tryz.prog w=.ok (.string ⟨l.toArray⟩) w:=by
 subst hn
 refine run_convert_bytes_back w 22 9 5 ⟨g,0,none⟩ cap l Tryz.underlying22 Tryz.underlying5 Tryz.underlying9 fun j hj=>?_
 have e:(⟨g,0,none⟩:Addr).add j=⟨g,j,none⟩:=by unfold Addr.add;split <;>simp_all
 rw [e]
 exact(h j hj).1
theorem Row.ofOwn {w:World}{B g n cap:Nat}{l:List UInt8}(h:w.ownsRow B 5 1 (.slice (some ⟨g,0,none⟩) n cap) n (l.map fun b=>Value.int .u8 (b.toNat:Int))):n=l.length∧B≤g∧Row w g l:=by
 have hl:n=l.length:=by have:=h.1;simpa using this.symm
 refine⟨hl,(h.lt g rfl).1,fun j hj=>⟨?_,?_⟩⟩
 ·have hc:=h.cells (g:=g) rfl j (.int .u8 (l[j].toNat:Int)) (by simp [hj])
  have e:(⟨g,0,none⟩:Addr).add j=⟨g,j,none⟩:=by unfold Addr.add;split <;>simp_all
  rw [←e];exact hc
 ·rcases h.2 with⟨hv,_⟩|⟨g',cap',cur,hv,_,hb,_⟩
  ·simp at hv
  ·simp at hv
   obtain⟨rfl,rfl⟩:=hv
   simp [World.frozen?,hb]
end Go.Proofs.YtfmcahjdhoabcaaGreat.Draw
namespace Go.Proofs.YtfmcahjdhoabcaaGreat.Draw
open Go.RowKit
theorem infoU8:(Tryz.prog.info? 5).map (fun i=>(i.zero,i.size,i.bytes))=some (some (.int .u8 0),1,1):=by kernel_rfl
theorem one_u8 (z:Int): ∀u∈ [Value.int .u8 z],u.oneCell'=true:=by
 intro u hu
 simp at hu
 subst hu
 rfl
theorem own_kept {w w':World}{B c g n cap k:Nat}{T:TypeId}{xs:List Value}(h:w.ownsRow B T k (.slice (some ⟨g,0,none⟩) n cap) n xs)(hk:Kept c w w')(hc:c<B):w'.ownsRow B T k (.slice (some ⟨g,0,none⟩) n cap) n xs:=by
 refine h.kept (row:=some c) ⟨hk.os,hk.tape,hk.output,hk.size,fun i hi hne=>hk.block i hi (fun e=>hne (by rw [e]))⟩ (.inr ?_)
 have:=(h.lt g rfl).1
 simp [Value.ownBlock]
 omega
theorem Kept.grownBy {c g n cap:Nat}{a w w':World}(h:Kept c a w)(hg:w.grownBy w' (Value.slice (some ⟨g,0,none⟩) n cap).ownBlock)(hs:a.heap.size≤g):Kept c a w':=
 ⟨hg.os.trans h.os,hg.tape.trans h.tape,hg.output.trans h.output,Nat.le_trans h.size hg.size,fun k hk hne=>(hg.block k (Nat.lt_of_lt_of_le hk h.size) (by intro e;simp [Value.ownBlock]at e;omega)).trans (h.block k hk hne)⟩
theorem Cur.grownBy {c g n cap:Nat}{w w':World}(h:Cur w c)(hg:w.grownBy w' (Value.slice (some ⟨g,0,none⟩) n cap).ownBlock)(hs:c<g):Cur w' c:=
 h.upto fun i hi=>hg.block i (Nat.lt_of_le_of_lt hi h.lt) (by intro e;simp [Value.ownBlock]at e;omega)
theorem Cur.alloc {c:Nat}{w:World}(h:Cur w c)(o:Obj):Cur (w.alloc o) c:=
 h.upto fun i hi=>Below.heap_alloc _ _ _ (Nat.lt_of_le_of_lt hi h.lt)
theorem u8_of {x:Int}(h0:0≤x)(h1:x≤255):((UInt8.ofNat x.toNat).toNat:Int)=x:=by
 simp;omega
theorem bytes_snoc (l:List UInt8)(b:UInt8):(l.map fun b=>Value.int .u8 (b.toNat:Int))++[Value.int .u8 (b.toNat:Int)]=(l++[b]).map fun b=>Value.int .u8 (b.toNat:Int):=by simp
theorem four (a b c d:Int)(x:Int)(h0:0≤x)(h1:x<4): ∃v:Int,(#[.int .i64 a,.int .i64 b,.int .i64 c,.int .i64 d]:Array Value)[x.toNat]? =some (.int .i64 v)∧ ∀h,([.int .i64 a,.int .i64 b,.int .i64 c,.int .i64 d]:List Value)[x.toNat]'h=.int .i64 v:=by
 have h:x=0∨x=1∨x=2∨x=3:=by omega
 rcases h with rfl|rfl|rfl|rfl
 ·exact⟨a,rfl,fun _=>rfl⟩
 ·exact⟨b,rfl,fun _=>rfl⟩
 ·exact⟨c,rfl,fun _=>rfl⟩
 ·exact⟨d,rfl,fun _=>rfl⟩
end Go.Proofs.YtfmcahjdhoabcaaGreat.Draw
