/- Contracts of this seat's functions, and their mathematics (LinE). -/
import Derived.Test.YtfejobjgbadfjaaGreatK34
import Derived.Test.YtfejobjgbadfjaaGreatK39
import Derived.Test.YtfejobjgbadfjaaGreatK40
set_option linter.unusedVariables false
set_option linter.unusedSimpArgs false
set_option maxRecDepth 10000
set_option maxHeartbeats 4000000
namespace Go.Proofs.YtfejobjgbadfjaaGreat.Wor
open Go.RowKit RowG Hop Roa Pum Lin
def Ty (w:World)(T:TypeId)(a:Option Addr):Prop:= ∀x,a=some x→ ∃cs,w.heap[x.block]? =some (.cells cs T (0,0))
theorem Ty.lt {w:World}{T:TypeId}{a:Option Addr}(h:Ty w T a): ∀x,a=some x→x.block<w.heap.size:=fun x hx=>by
 obtain⟨cs,e⟩:=h x hx
 exact(Array.getElem?_eq_some_iff.1 e).1
theorem Ty.later {w w':World}{T:TypeId}{a:Option Addr}(h:Ty w T a)(b:Below w.heap.size w w'):Ty w' T a:=fun x hx=>by
 obtain⟨cs,e⟩:=h x hx
 exact⟨cs,(b.block x.block (h.lt x hx)).trans e⟩
theorem Ty.ne {w:World}{T T':TypeId}{a:Option Addr}{k:Nat}{vs:List Value}(h:Ty w T a)(v:Var T' w k vs)(hT:T≠T'): ∀x,a=some x→x.block≠k:=fun x hx e=>by
 obtain⟨cs,e1⟩:=h x hx
 have e2:w.heap[k]? =_:=v
 rw [e,e2]at e1
 injection e1 with e1
 injection e1 with _ e3 _
 exact hT e3.symm
theorem Ty.kept {w w':World}{T:TypeId}{a:Option Addr}{k:Nat}(h:Ty w T a)(hk:Draw.Kept k w w')(hne: ∀x,a=some x→x.block≠k):Ty w' T a:=fun x hx=>by
 obtain⟨cs,e⟩:=h x hx
 exact⟨cs,(hk.block x.block (h.lt x hx) (hne x hx)).trans e⟩
structure DL (w:World)(aH:Option Addr)(xs:List Ha)(aR:Option Addr)(rs:List Rd):Prop where
 L:LL w aH xs
 R:Roa.E.Lies w aR rs
 nr:rs.length≤8
 nx:xs.length≤3
 sm: ∀x∈xs,x.h.Sm
 tH:Ty w 47 aH
 tR:Ty w 95 aR
 tx: ∀x∈xs,Ty w 123 x.aT∧Ty w 75 x.aW
theorem DL.later {w w':World}{aH aR:Option Addr}{xs:List Ha}{rs:List Rd}(h:DL w aH xs aR rs)(b:Below w.heap.size w w'):DL w' aH xs aR rs:=⟨h.L.later b,h.R.later b,h.nr,h.nx,h.sm,h.tH.later b,h.tR.later b,fun x hx=>⟨(h.tx x hx).1.later b,(h.tx x hx).2.later b⟩⟩
theorem DL.kept {w w':World}{k:Nat}{aH aR:Option Addr}{xs:List Ha}{rs:List Rd}(h:DL w aH xs aR rs)(b:Draw.Kept k w w')(n1: ∀x,aH=some x→x.block≠k)(n2: ∀x,aR=some x→x.block≠k)(n3: ∀x∈xs,(∀y,x.aT=some y→y.block≠k)∧ ∀y,x.aW=some y→y.block≠k):DL w' aH xs aR rs:=
 ⟨⟨h.L.row.kept b n1,fun x hx=>⟨(h.L.rows x hx).p.kept b (n3 x hx).1,(h.L.rows x hx).l.kept b (n3 x hx).2,(h.L.rows x hx).np,(h.L.rows x hx).nl⟩⟩,h.R.kept b n2,h.nr,h.nx,h.sm,h.tH.kept b n1,h.tR.kept b n2,fun x hx=>⟨(h.tx x hx).1.kept b (n3 x hx).1,(h.tx x hx).2.kept b (n3 x hx).2⟩⟩
theorem DL.keptV {T:TypeId}{w w':World}{k:Nat}{vs:List Value}{aH aR:Option Addr}{xs:List Ha}{rs:List Rd}(h:DL w aH xs aR rs)(v:Var T w k vs)(hT:NT T)(b:Draw.Kept k w w'):DL w' aH xs aR rs:=
 h.kept b (h.tH.ne v (Ne.symm hT.h)) (h.tR.ne v (Ne.symm hT.r)) (fun x hx=>⟨(h.tx x hx).1.ne v (Ne.symm hT.p),(h.tx x hx).2.ne v (Ne.symm hT.l)⟩)
theorem LineLay.dl {w:World}{B B':Nat}{a:Option Addr}{c:Nat}{xs:List Ha}(L:LineLay w B a c xs){aR:Option Addr}{cR:Nat}{rs:List Rd}(R:Roa.E.Own 95 w B' aR cR rs)(hr:rs.length≤8)(hx:xs.length≤3)(hs: ∀x∈xs,x.h.Sm):DL w a xs aR rs:=
 ⟨L.ll,R.lies,hr,hx,hs,own_row L.row,own_row R,fun x hx=>⟨own_row (L.rows x hx).p,own_row (L.rows x hx).l⟩⟩
structure DLo (B:Nat)(aH:Option Addr)(xs:List Ha)(aR:Option Addr):Prop where
 h: ∀x,aH=some x→B≤x.block
 r: ∀x,aR=some x→B≤x.block
 x: ∀y∈xs,(∀x,y.aT=some x→B≤x.block)∧ ∀x,y.aW=some x→B≤x.block
theorem LineLay.lo {w:World}{B:Nat}{a:Option Addr}{c:Nat}{xs:List Ha}(L:LineLay w B a c xs){aR:Option Addr}{cR:Nat}{rs:List Rd}(R:Roa.E.Own 95 w B aR cR rs):DLo B a xs aR:=
 ⟨fun x hx=>(L.row.lt x hx).1,fun x hx=>(R.lt x hx).1,fun y hy=>⟨fun x hx=>((L.rows y hy).p.lt x hx).1,fun x hx=>((L.rows y hy).l.lt x hx).1⟩⟩
theorem lo_of {w:World}{B:Nat}{a:Option Addr}{c:Nat}{xs:List Ha}(L:hopE.Own 47 w B a c xs∧ ∀z∈xs,Lin.Rows w B z){aR:Option Addr}{cR:Nat}{rs:List Rd}(R:Roa.E.Own 95 w B aR cR rs):DLo B a xs aR:=
 ⟨fun x hx=>(L.1.lt x hx).1,fun x hx=>(R.lt x hx).1,fun y hy=>⟨fun x hx=>((L.2 y hy).p.lt x hx).1,fun x hx=>((L.2 y hy).l.lt x hx).1⟩⟩
theorem ntLine:NT 27:=⟨by decide,by decide,by decide,by decide⟩
structure DS (c k3:Nat)(w:World)(g cH:Nat)(xs:List Ha)(gR cR:Nat)(rs:List Rd)(wr:World):Prop where
 v3:Var 27 wr k3 [.slice (some ⟨g,0,none⟩) 3 cH,.slice (some ⟨gR,0,none⟩) rs.length cR]
 vR:Var 27 wr w.heap.size [.slice none 0 0,.slice none 0 0]
 L:LineLay wr w.heap.size (some ⟨g,0,none⟩) cH xs
 R:Roa.E.Own 95 wr w.heap.size (some ⟨gR,0,none⟩) cR rs
 cu:Draw.Cur wr c
 K:Draw.Kept c w wr
 h1:c<w.heap.size
 h2:w.heap.size<k3
theorem DS.drawn {c k3:Nat}{w wr wa:World}{g cH:Nat}{xs:List Ha}{gR cR:Nat}{rs:List Rd}(s:DS c k3 w g cH xs gR cR rs wr)(cua:Draw.Cur wa c)(ka:Draw.Kept c wr wa):DS c k3 w g cH xs gR cR rs wa:=
 ⟨s.v3.kept ka (by have:=s.h1;have:=s.h2;omega),s.vR.kept ka (by have:=s.h1;omega),s.L.kept ka s.h1,s.R.kept ka (fun x hx=>by have:=(s.R.lt x hx).1;have:=s.h1;omega),cua,s.K.trans ka,s.h1,s.h2⟩
theorem DS.drew {c k3:Nat}{w wr:World}{g cH:Nat}{xs:List Ha}{gR cR:Nat}{rs:List Rd}(s:DS c k3 w g cH xs gR cR rs wr):DS c k3 w g cH xs gR cR rs wr.drew:=⟨s.v3.drew,s.vR.drew,s.L.drew,s.R.drew,s.cu.drew,s.K.drew,s.h1,s.h2⟩
theorem DS.later {c k3:Nat}{w wr wa:World}{g cH:Nat}{xs:List Ha}{gR cR:Nat}{rs:List Rd}(s:DS c k3 w g cH xs gR cR rs wr)(b:Below wr.heap.size wr wa):DS c k3 w g cH xs gR cR rs wa:=
 ⟨s.v3.later b,s.vR.later b,s.L.later b,s.R.later b,s.cu.below b (Nat.le_refl _),s.K.trans (Draw.Kept.ofBelow b (Nat.le_refl _)),s.h1,s.h2⟩
structure DT (c k3:Nat)(w:World)(aH:Option Addr)(cH:Nat)(xs:List Ha)(aR:Option Addr)(cR:Nat)(rs:List Rd)(wr:World):Prop where
 v3:Var 27 wr k3 [.slice aH xs.length cH,.slice aR rs.length cR]
 vR:Var 27 wr w.heap.size [.slice none 0 0,.slice none 0 0]
 D:DL wr aH xs aR rs
 lo:DLo w.heap.size aH xs aR
 cu:Draw.Cur wr c
 K:Draw.Kept c w wr
 h1:c<w.heap.size
 h2:w.heap.size<k3
def DTx (c k3:Nat)(w wr:World):Prop:= ∃aH cH xs aR cR rs,DT c k3 w aH cH xs aR cR rs wr
theorem LineLay.putLL {w:World}{B g c:Nat}{xs:List Ha}(L:LineLay w B (some ⟨g,0,none⟩) c xs){i:Nat}{x y:Ha}(hx:xs[i]? =some x)(R:Lin.Rows w B y):
  ∃pre post,Win 47 pre post (i*13) w g x.c∧ ∀w',Win 47 pre post (i*13) w' g y.c→Draw.Kept g w w'→hopE.Own 47 w' B (some ⟨g,0,none⟩) c (xs.set i y)∧ ∀z∈xs.set i y,Lin.Rows w' B z:=by
 obtain⟨pre,post,v,back⟩:=L.row.win hx
 refine⟨pre,post,v,fun w' v' k=>⟨back w' y v',fun z hz=>?_⟩⟩
 have key: ∀ {z:Ha},Lin.Rows w B z→Lin.Rows w' B z:=fun {z} r=>
  ⟨r.p.kept k (own_win (by decide) r.p v),r.l.kept k (own_win (by decide) r.l v)⟩
 rcases List.mem_or_eq_of_mem_set hz with h|h
 ·exact key (L.rows z h)
 ·rw [h];exact key R
theorem dl_of {w:World}{B B':Nat}{a:Option Addr}{c:Nat}{xs:List Ha}(L:hopE.Own 47 w B a c xs∧ ∀z∈xs,Lin.Rows w B z){aR:Option Addr}{cR:Nat}{rs:List Rd}(R:Roa.E.Own 95 w B' aR cR rs)(hr:rs.length≤8)(hx:xs.length≤3)(hs: ∀x∈xs,x.h.Sm):DL w a xs aR rs:=
 ⟨⟨L.1.lies,fun x hx=>⟨(L.2 x hx).p.lies,(L.2 x hx).l.lies,(L.2 x hx).p.none_cap,(L.2 x hx).l.none_cap⟩⟩,R.lies,hr,hx,hs,own_row L.1,own_row R,fun x hx=>⟨own_row (L.2 x hx).p,own_row (L.2 x hx).l⟩⟩
def TieH (S:Nat)(v:Value)(w:World):Prop:= ∃y:Ha,y.h.Sm∧v=.agg y.c.toArray∧Lin.Rows w S y
theorem TieH.kept {S c:Nat}{v:Value}{w w':World}(t:TieH S v w)(k:Draw.Kept c w w')(hc:c<S):TieH S v w':=by
 obtain⟨y,h1,h2,h3⟩:=t
 exact⟨y,h1,h2,h3.p.kept k (fun x hx=>by have:=(h3.p.lt x hx).1;omega),h3.l.kept k (fun x hx=>by have:=(h3.l.lt x hx).1;omega)⟩
theorem keepN {vs:List (Option Value)}{ps:List RegJ.Tie}{d:Nat→Bool}{x:Nat→Value}{w w':World}{i:Nat}(h: ∀q∈ps,i=q.1∨d q.1=false∨ ∀v,q.2.2 v w→q.2.2 v w'):
  ∀j,j≠i→RegJ.ValE vs ps d j (x j) w→RegJ.ValE vs ps (fun j=>j==i||d j) j (x j) w':=fun j hj hv=>
 ⟨RegJ.Val.keep j hj hv.1,fun q hq he hz=>by
  have hz':q.2.1=q.1∨d q.2.1=false:=by
   rcases hz with h1|h1
   ·exact .inl h1
   ·exact .inr (by simp at h1;exact h1.2)
  rcases h q hq with h1|h1|h1
  ·exact absurd (he.trans h1.symm) hj
  ·rw [←he,hv.1.1]at h1;cases h1
  ·exact h1 _ (hv.2 q hq he hz')⟩
abbrev ltR (r:Int):Lt:=⟨true,r,0,⟨#[]⟩,false,0,false⟩
structure AP (c k3:Nat)(w:World)(g cH:Nat)(xs:List Ha)(gR cR:Nat)(rs:List Rd)(x0:Ha)(a':Option Addr)(c':Nat)(r:Int)(wr:World):Prop where
 v3:Var 27 wr k3 [.slice (some ⟨g,0,none⟩) 3 cH,.slice (some ⟨gR,0,none⟩) rs.length cR]
 vR:Var 27 wr w.heap.size [.slice none 0 0,.slice none 0 0]
 row:hopE.Own 47 wr w.heap.size (some ⟨g,0,none⟩) cH xs
 p0:Tak.partE.Own 123 wr w.heap.size x0.aT x0.cT x0.h.t.l
 l0:letE.Own 75 wr w.heap.size a' c' (x0.h.ws++[ltR r])
 rest: ∀i x,i≠0→xs[i]? =some x→Lin.Rows wr w.heap.size x
 R:Roa.E.Own 95 wr w.heap.size (some ⟨gR,0,none⟩) cR rs
 cu:Draw.Cur wr c
 K:Draw.Kept c w wr
 h1:c<w.heap.size
 h2:w.heap.size<k3
theorem DS.app {c k3:Nat}{w wr wa:World}{g cH:Nat}{xs:List Ha}{gR cR:Nat}{rs:List Rd}{x0:Ha}{a':Option Addr}{c':Nat}{r:Int}(s:DS c k3 w g cH xs gR cR rs wr)(hx:xs[0]? =some x0)(o:letE.Own 75 wa w.heap.size a' c' (x0.h.ws++[ltR r]))(ga:wr.grownBy wa (blk x0.aW)):AP c k3 w g cH xs gR cR rs x0 a' c' r wa:=by
 have Rx:=s.L.rows x0 (List.mem_of_getElem? hx)
 have hge:=blk_ge Rx.l
 have nv: ∀ {T:TypeId} {kk:Nat} {vs:List Value},T≠75→Var T wr kk vs→Var T wa kk vs:=fun {T kk vs} hT v=>v.grown ga (fun q hq e=>by
  cases hao:x0.aW with
  | none=>rw [hao]at hq;cases hq
  | some p=>
   rw [hao]at hq
   cases hq
   exact own_win hT Rx.l v.win p hao e.symm)
 refine⟨nv (by decide) s.v3,nv (by decide) s.vR,s.L.row.grown ga (own_two (by decide) s.L.row Rx.l),Rx.p.grown ga (own_two (by decide) Rx.p Rx.l),o,fun i x hi hxi=>?_,s.R.grown ga (own_two (by decide) s.R Rx.l),s.cu.upto (fun i hi=>ga.block i (by have:=s.cu.lt;omega) (fun e=>by have:=hge i e.symm;have:=s.h1;omega)),⟨ga.os.trans s.K.os,ga.tape.trans s.K.tape,ga.output.trans s.K.output,Nat.le_trans s.K.size ga.size,fun i hi hc=>(ga.block i (Nat.lt_of_lt_of_le hi s.K.size) (fun e=>by have:=hge i e.symm;omega)).trans (s.K.block i hi hc)⟩,s.h1,s.h2⟩
 have Ri:=s.L.rows x (List.mem_of_getElem? hxi)
 refine⟨Ri.p.grown ga (own_two (by decide) Ri.p Rx.l),Ri.l.grown ga (fun q hq e=>?_)⟩
 cases hao:x0.aW with
 | none=>rw [hao]at e;cases e
 | some p=>
  rw [hao]at e
  simp only [blk,Option.map_some,Option.some.injEq]at e
  exact s.L.off i 0 x x0 hi hxi hx q p hq hao e
theorem AP.done {c k3:Nat}{w wr:World}{g cH:Nat}{xs:List Ha}{gR cR:Nat}{rs:List Rd}{x0:Ha}{a':Option Addr}{c':Nat}{r:Int}(s:AP c k3 w g cH xs gR cR rs x0 a' c' r wr)(hx:xs[0]? =some x0)(sm: ∀x∈xs,x.h.Sm)(hw:x0.h.ws.length≤31)(hn:rs.length≤8)(h3:xs.length=3):
  wr.cell? ⟨g,12,none⟩=some (.slice x0.aW x0.h.ws.length x0.cW)∧wr.frozen? ⟨g,12,none⟩=false∧DTx c k3 w (wr.setCell ⟨g,12,none⟩ (.slice a' (x0.h.ws.length+1) c')):=by
 obtain⟨pre,post,v,back⟩:=s.row.win hx
 have e0:0*hopE.size=0:=by simp
 rw [e0]at v back
 have hlen:(x0.h.ws++[ltR r]).length=x0.h.ws.length+1:=by simp
 have v':Win 47 pre post 0 (wr.setCell ⟨g,12,none⟩ (.slice a' (x0.h.ws.length+1) c')) g (hopE.enc ⟨⟨x0.h.g,x0.h.t,x0.h.ws++[ltR r]⟩,x0.aT,x0.cT,a',c'⟩):=by
  have q:=v.set 12 (.slice a' (x0.h.ws.length+1) c') (by rw [hopE.len];decide)
  rw [Nat.zero_add]at q
  simp only [hopE,Ha.c,Hp.c,hlen]
  exact q
 have k:Draw.Kept g wr (wr.setCell ⟨g,12,none⟩ (.slice a' (x0.h.ws.length+1) c')):=(Draw.Kept.refl _ _).setCell (p:=⟨g,12,none⟩) (.inl rfl) _
 have key: ∀ {z:Ha},Lin.Rows wr w.heap.size z→Lin.Rows (wr.setCell ⟨g,12,none⟩ (.slice a' (x0.h.ws.length+1) c')) w.heap.size z:=fun {z} r=>⟨r.p.kept k (own_win (by decide) r.p v),r.l.kept k (own_win (by decide) r.l v)⟩
 have hg:w.heap.size≤g:=(s.row.lt ⟨g,0,none⟩ rfl).1
 have hx0:0<xs.length:=by omega
 refine⟨by have:=v.cell (i:=12) rfl;rw [Nat.zero_add]at this;exact this,by have:=v.free 12;rw [Nat.zero_add]at this;exact this,some ⟨g,0,none⟩,cH,xs.set 0 ⟨⟨x0.h.g,x0.h.t,x0.h.ws++[ltR r]⟩,x0.aT,x0.cT,a',c'⟩,some ⟨gR,0,none⟩,cR,rs,?_⟩
 have own3:=own_win (by decide) s.row s.v3.win ⟨g,0,none⟩ rfl
 have ownR:=own_win (by decide) s.row s.vR.win ⟨g,0,none⟩ rfl
 have Rk:=s.R.kept k (fun q hq e=>own_two (by decide) s.R s.row q hq (by rw [e];rfl))
 have Lk:hopE.Own 47 (wr.setCell ⟨g,12,none⟩ (.slice a' (x0.h.ws.length+1) c')) w.heap.size (some ⟨g,0,none⟩) cH (xs.set 0 ⟨⟨x0.h.g,x0.h.t,x0.h.ws++[ltR r]⟩,x0.aT,x0.cT,a',c'⟩)∧ ∀z∈xs.set 0 (⟨⟨x0.h.g,x0.h.t,x0.h.ws++[ltR r]⟩,x0.aT,x0.cT,a',c'⟩:Ha),Lin.Rows (wr.setCell ⟨g,12,none⟩ (.slice a' (x0.h.ws.length+1) c')) w.heap.size z:=by
  refine⟨back _ _ v',fun z hz=>?_⟩
  obtain⟨i,hi,rfl⟩:=List.getElem_of_mem hz
  have hi':i<xs.length:=by simpa using hi
  by_cases h0:i=0
  ·subst h0
   rw [List.getElem_set_self]
   exact key ⟨s.p0,s.l0⟩
  ·rw [List.getElem_set_ne (Ne.symm h0)]
   exact key (s.rest i _ h0 (List.getElem?_eq_getElem hi'))
 refine⟨?_,s.vR.kept k (Ne.symm ownR),dl_of Lk Rk hn (by simp [h3]) (fun z hz=>?_),lo_of Lk Rk,s.cu.upto (fun i hi=>k.block i (by have:=s.cu.lt;omega) (by have:=s.h1;omega)),s.K.setCell (p:=⟨g,12,none⟩) (.inr hg) _,s.h1,s.h2⟩
 ·have:=s.v3.kept k (Ne.symm own3)
  rw [List.length_set,h3]
  exact this
 ·rcases List.mem_or_eq_of_mem_set hz with h|h
  ·exact sm z h
  ·rw [h]
   have q:=sm x0 (List.mem_of_getElem? hx)
   exact⟨q.gb,q.tb,q.tl,q.bd,by simp;omega,fun y hy=>by
    rcases List.mem_append.1 hy with h|h
    ·exact q.wb y h
    ·simp at h;subst h;exact Nat.zero_le _⟩
theorem lies_let {w:World}{m:Nat}{r:Int}(v:Var 75 w m [.bool true,.int .i64 r,.int .i64 0,.string ⟨#[]⟩,.bool false,.int .i64 0,.bool false]):letE.Lies w (some ⟨m,0,none⟩) [ltR r]:=by
 refine .inr ⟨m,0,rfl,fun j u hu=>?_⟩
 rw [El.vals_one]at hu
 rw [Nat.zero_add]
 exact v.cell hu
theorem lies_tail {w:World}{g:Nat}{x0:Ha}{xs:List Ha}(h:hopE.Lies w (some ⟨g,0,none⟩) (x0::xs)):hopE.Lies w (some ⟨g,13,none⟩) xs:=by
 rcases h with h|⟨b,off,e,h⟩
 ·cases h
 ·cases e
  refine .inr ⟨g,13,rfl,fun j u hu=>?_⟩
  have hv:hopE.vals (x0::xs)=hopE.enc x0++hopE.vals xs:=by simp [El.vals]
  have hl:(hopE.enc x0).length=13:=hopE.len x0
  have:=h (13+j) u (by rw [hv,List.getElem?_append_right (by omega),hl];simpa using hu)
  simpa using this
theorem sms_of {W:Wd}(ok:okW W=true){xs:List Ha}(h:xs.map (·.h)=W.hs): ∀x∈xs,x.h.Sm∧x.h.ws.length≤31:=by
 intro x hx
 have hm:x.h∈W.hs:=by rw [←h];exact List.mem_map_of_mem hx
 obtain⟨i,hi,he⟩:=List.getElem_of_mem hm
 have h3:=hops_iff.1 (ok_parts.1 ok).1
 have hb:=(h3.2.2 i (by omega)).1
 have e:W.hs.getD i zeroH=x.h:=by rw [List.getD_eq_getElem?_getD,List.getElem?_eq_getElem hi,he];rfl
 rw [e]at hb
 exact⟨sm_ok hb,by have:=(hop_ok hb).1;omega⟩
theorem l13DrawAny (c:Nat)(w:World)(hc:Draw.Cur w c):
  Calls Tryz.prog 30 #[.pointer (some ⟨c,0,none⟩)] w fun e w'=> ∃(aH aR:Option Addr) (cH cR:Nat) (xs:List Ha) (rs:List Rd),e=.returned (.agg #[.slice aH xs.length cH,.slice aR rs.length cR])∧DL w' aH xs aR rs∧DLo w.heap.size aH xs aR∧Draw.Cur w' c∧Draw.Kept c w w':=by
 have hmix:=Roa.mix
 have hcl:=hc.lt
 have vR:Var 27 (w.alloc (.cells #[.slice none 0 0,.slice none 0 0] 27)) w.heap.size [.slice none 0 0,.slice none 0 0]:=Var.new w _
 have cu0:=hc.alloc (.cells #[.slice none 0 0,.slice none 0 0] 27)
 have K0:=(Draw.Kept.refl c w).alloc (.cells #[.slice none 0 0,.slice none 0 0] 27)
 go_enter Tryz.func30,Tryz.ntmps30
 go_wp2_with fail
 generalize w.alloc (.cells #[.slice none 0 0,.slice none 0 0] 27)=V at *
 have hzV:=vR.lt
 refine(l13Draw c _ cu0).mono ?_
 rintro e w1 ⟨W,g,cH,xs,gR,cR,rfl,A,cu1,k1⟩
 obtain⟨rs,hrs0⟩: ∃rs,rs=W.rs:=⟨_,rfl⟩
 have DSh:DS c w1.heap.size w g cH xs gR cR rs (w1.alloc (.cells #[.slice (some ⟨g,0,none⟩) 3 cH,.slice (some ⟨gR,0,none⟩) rs.length cR] 27)):=
  ⟨Var.new w1 _,(vR.kept k1 (by omega)).alloc _,(A.L.mono (Nat.le_of_lt hzV)).alloc _,(by rw [hrs0];exact(A.R.mono (Nat.le_of_lt hzV)).alloc _),cu1.alloc _,(K0.trans k1).alloc _,hcl,Nat.lt_of_lt_of_le hzV k1.size⟩
 have h3:xs.length=3:=A.len
 have hsm: ∀x∈xs,x.h.Sm:=fun x hx=>(sms_of A.ok A.hs x hx).1
 have hsw: ∀x∈xs,x.h.ws.length≤31:=fun x hx=>(sms_of A.ok A.hs x hx).2
 have hrs:rs.length≤8:=by rw [hrs0];have:=(roads_len (hops_iff.1 (ok_parts.1 A.ok).1).2.1).2;omega
 rw [←hrs0]
 clear hrs0 A cu1 k1 vR cu0 K0 hzV
 go_upto_region 2 with(fail)
 generalize w1.alloc (.cells #[.slice (some ⟨g,0,none⟩) 3 cH,.slice (some ⟨gR,0,none⟩) rs.length cR] 27)=V1 at *
 generalize w1.heap.size=k3 at *
 go_wp2_with fail
 refine(Draw.l1Once _ _ _ DSh.cu).mono ?_
 rintro e wa ⟨b1,rfl,cua,ka⟩
 replace DSh:=DSh.drawn cua ka
 clear cua ka
 have same: ∀ {wz:World},DS c k3 w g cH xs gR cR rs wz→DTx c k3 w wz:=fun {wz} q=>⟨some ⟨g,0,none⟩,cH,xs,some ⟨gR,0,none⟩,cR,rs,by rw [h3];exact q.v3,q.vR,LineLay.dl q.L q.R hrs (by omega) hsm,LineLay.lo q.L q.R,q.cu,q.K,q.h1,q.h2⟩
 go_upto_if 7 with(fail)
 go_cut []from 8 (fun wr=>DTx c k3 w wr)
 case first=>
  cases b1
  focus
   go_wp2_with fail
   go_meet
   exact same DSh
  focus
   go_wp2_with fail
   refine(Draw.l1Below _ 4 _ DSh.cu).mono ?_
   rintro e wa ⟨y,y0,y1,rfl,cua,ka⟩
   replace DSh:=DSh.drawn cua ka
   clear cua ka
   have hy:y=0∨y=1∨y=2∨y=3:=by omega
   clear y0 y1
   rcases hy with rfl|rfl|rfl|rfl
   focus
    have keepW: ∀(q:Nat) (d:Nat→Bool) (w':World),(fun d w'=>(d 7=false→DS c k3 w g cH xs gR cR rs w')∧(d 7=true→DTx c k3 w w')) d w'→q≠7→(fun d w'=>(d 7=false→DS c k3 w g cH xs gR cR rs w')∧(d 7=true→DTx c k3 w w')) (fun j=>j==q||d j) w':=fun q d w' h hq=>⟨fun e=>h.1 (by rw [←or_ne (d:=d) (Ne.symm hq)];exact e),fun e=>h.2 (by rw [←or_ne (d:=d) (Ne.symm hq)];exact e)⟩
    go_wp2_with fail
    refine RegJ.wp_region_J (W:=(fun d w'=>(d 7=false→DS c k3 w g cH xs gR cR rs w')∧(d 7=true→DTx c k3 w w'))) (RegJ.ValE [some (.pointer (some ⟨k3,0,none⟩)),some (.slice (some ⟨g,0,none⟩) 3 cH),some (.pointer (some ⟨c,0,none⟩)),none,some (.pointer (some ⟨c,0,none⟩)),none,none,none] ([(3,3,fun v _=> ∃i:Nat,i<3∧v=Value.int .i64 i),(5,7,TieH w.heap.size),(6,6,fun v _=> ∃i:Nat,i<3∧v=Value.pointer (some ⟨g,i*13,none⟩))])) [some 12,some 13,some 14,some 15,some 16,some 17,some 18,none] (F:=?_) (is:=[0,1,2,3,4,5,6,7]) hmix (by kernel_rfl) (by kernel_rfl) (by kernel_rfl) (by kernel_rfl) (fun x=>?_) (⟨fun _=>DSh.drew,fun e=>by cases e⟩) ?_ (fun dR xR wR hWR hdR hJR=>?_)
    rotate_left 1
    focus (simp only [RegJ.lay,Act.put,Nat.reduceAdd,Nat.zero_add,Draw.lays];rfl)
    focus
     iterate 8 (refine RegJ.Steps.cons (RegJ.StepAt.mk rfl (fun d x w1 hW1 hJ1 hx1 K hK=>?_)) ?_;simp only [Draw.lays]at hK;rotate_left 1)
     exact RegJ.Steps.nil
     ·go_simp;exact hK.out _ _ (keepW 0 d _ hW1 (by decide)) RegJ.ValE.same (RegJ.ValE.free (Or.inl rfl) rfl)
     ·have j0:x 0=_:=(hJ1.out 0 (by kernel_rfl)).val rfl;rw [j0]at hK;have e0:=(hW1.1 (hx1.out 7 (.inr (by kernel_rfl))).1).v3.cell (i:=0) rfl;go_simp;exact hK.out _ _ (keepW 1 d _ hW1 (by decide)) RegJ.ValE.same (RegJ.ValE.free (Or.inl rfl) rfl)
     ·go_simp;exact hK.out _ _ (keepW 2 d _ hW1 (by decide)) RegJ.ValE.same (RegJ.ValE.free (Or.inl rfl) rfl)
     ·have j2:x 2=_:=(hJ1.out 2 (by kernel_rfl)).val rfl;rw [j2]at hK;have q:=hW1.1 (hx1.out 7 (.inr (by kernel_rfl))).1;go_simp;refine(Draw.l1Below c 3 _ q.cu).mono ?_;rintro e wa ⟨y,y0,y1,rfl,cua,ka⟩;go_simp;obtain⟨i,rfl⟩:=Int.eq_ofNat_of_zero_le y0;have i3:i<3:=(by omega);exact hK.out _ _ ⟨fun _=>q.drawn cua ka,fun e=>absurd e (by simp [(hx1.out 7 (.inr (by kernel_rfl))).1])⟩ (keepN (by intro t ht;simp only [List.mem_cons,List.not_mem_nil,or_false]at ht;rcases ht with rfl|rfl|rfl;exact .inl rfl;exact .inr (.inr fun v h=>TieH.kept h ka q.h1);exact .inr (.inr fun v h=>h))) (RegJ.ValE.got 0 _ _ (Or.inr rfl) rfl rfl ⟨i,i3,rfl⟩)
     ·go_simp;exact hK.out _ _ (keepW 4 d _ hW1 (by decide)) RegJ.ValE.same (RegJ.ValE.free (Or.inl rfl) rfl)
     ·have j4:x 4=_:=(hJ1.out 4 (by kernel_rfl)).val rfl;rw [j4]at hK;have q:=hW1.1 (hx1.out 7 (.inr (by kernel_rfl))).1;go_simp;refine(Hop.l7DrawAny c _ q.cu).mono ?_;rintro e wa ⟨h,aT,cT,aW,cW,hsm,hw31,rfl,o1,o2,cua,ka⟩;go_simp;exact hK.out _ _ ⟨fun _=>q.drawn cua ka,fun e=>absurd e (by simp [(hx1.out 7 (.inr (by kernel_rfl))).1])⟩ (keepN (by intro t ht;simp only [List.mem_cons,List.not_mem_nil,or_false]at ht;rcases ht with rfl|rfl|rfl;exact .inr (.inr fun v h=>h);exact .inl rfl;exact .inr (.inr fun v h=>h))) (RegJ.ValE.got 1 _ _ (Or.inr rfl) rfl rfl ⟨⟨h,aT,cT,aW,cW⟩,hsm,rfl,o1.mono q.K.size,o2.mono q.K.size⟩)
     ·have j1:x 1=_:=(hJ1.out 1 (by kernel_rfl)).val rfl;rw [j1]at hK;obtain⟨i,i3,j3⟩:=((hJ1.out 3 (by kernel_rfl)).tie 0 rfl (.inl rfl));have j3:x 3=_:=j3;rw [j3]at hK;have i0:(0:Int)≤(i:Int):=(by omega);have i1:(i:Int)<3:=(by omega);go_simp;exact hK.out _ _ (keepW 6 d _ hW1 (by decide)) RegJ.ValE.same (RegJ.ValE.got 2 _ _ (Or.inr rfl) rfl rfl ⟨i,i3,rfl⟩)
     ·have q:=hW1.1 (hx1.out 7 (.inl rfl)).1;obtain⟨i,i3,j6⟩:=((hJ1.out 6 (by kernel_rfl)).tie 2 rfl (.inl rfl));have j6:x 6=_:=j6;obtain⟨y,ysm,j5,Ry⟩:=((hJ1.out 5 (by kernel_rfl)).tie 1 rfl (.inr (hx1.out 7 (.inl rfl)).1));have j5:x 5=_:=j5;obtain⟨x0,hx0⟩: ∃x0,xs[i]? =some x0:=⟨xs[i]'(by omega),List.getElem?_eq_getElem _⟩;obtain⟨pre,post,v,back⟩:=LineLay.putLL q.L hx0 Ry;refine step_store_win (by rfl) _ _ (by rfl) (by exact j6) (by exact j5) (vs:=y.c) infoHop2 v rfl (hopE.one y) ?_;intro wa va ka;exact hK.out undef _ ⟨fun e=>absurd e (by simp),fun _=>⟨some ⟨g,0,none⟩,cH,xs.set i y,some ⟨gR,0,none⟩,cR,rs,by have:=q.v3.kept ka (Ne.symm (own_win (by decide) q.L.row q.v3.win ⟨g,0,none⟩ rfl));rw [List.length_set,h3];exact this,q.vR.kept ka (Ne.symm (own_win (by decide) q.L.row q.vR.win ⟨g,0,none⟩ rfl)),dl_of (back wa va ka) (q.R.kept ka (fun p hp e=>own_two (by decide) q.R q.L.row p hp (by rw [e];rfl))) hrs (by simp [h3]) (fun z hz=>(List.mem_or_eq_of_mem_set hz).elim (hsm z) (fun e=>e▸ysm)),lo_of (back wa va ka) (q.R.kept ka (fun p hp e=>own_two (by decide) q.R q.L.row p hp (by rw [e];rfl))),q.cu.upto (fun i hi=>ka.block i (by have:=q.cu.lt;omega) (by have:=q.h1;have:=(q.L.row.lt ⟨g,0,none⟩ rfl).1;simp only at this;omega)),⟨ka.os.trans q.K.os,ka.tape.trans q.K.tape,ka.output.trans q.K.output,Nat.le_trans q.K.size ka.size,fun i hi hc=>(ka.block i (Nat.lt_of_lt_of_le hi q.K.size) (by have:=(q.L.row.lt ⟨g,0,none⟩ rfl).1;simp only at this;omega)).trans (q.K.block i hi hc)⟩,q.h1,q.h2⟩⟩ (RegJ.ValE.keep (by intro t ht;simp only [List.mem_cons,List.not_mem_nil,or_false]at ht;rcases ht with rfl|rfl|rfl;exact .inr (.inr fun v h=>h);exact .inr (.inl ⟨by simp,.inl rfl⟩);exact .inr (.inr fun v h=>h))) (RegJ.ValE.free (Or.inr rfl) rfl)
    have S:=hWR.2 (hdR 7 (by simp))
    clear hWR hdR hJR keepW
    go_wp2_with fail
    go_meet
    exact S
   focus
    go_wp2_with fail
    refine(Roa.l10Draw c _ DSh.cu).mono ?_
    rintro e wb ⟨gN,cN,rN,rfl,hN,oN,cub,kb⟩
    have hz:=DSh.K.size
    replace DSh:=DSh.drawn cub kb
    clear cub kb
    have e1:=DSh.v3.cell (i:=1) rfl
    have f1:=DSh.v3.free 1
    go_wp2_with fail
    have kf:Draw.Kept k3 wb (wb.setCell ⟨k3,1,none⟩ (.slice (some ⟨gN,0,none⟩) rN.length cN)):=(Draw.Kept.refl _ _).setCell (p:=⟨k3,1,none⟩) (.inl rfl) _
    have vf:Var 27 (wb.setCell ⟨k3,1,none⟩ (.slice (some ⟨gN,0,none⟩) rN.length cN)) k3 [.slice (some ⟨g,0,none⟩) 3 cH,.slice (some ⟨gN,0,none⟩) rN.length cN]:=DSh.v3.set 1 _
    have Lf:=DSh.L.keptV DSh.v3 (by decide) (by decide) (by decide) kf
    have Rf:=El.Own.kept (E:=Roa.E) oN kf (own_win (by decide) oN DSh.v3.win)
    go_meet
    exact⟨some ⟨g,0,none⟩,cH,xs,some ⟨gN,0,none⟩,cN,rN,by rw [h3];exact vf,DSh.vR.kept kf (by have:=DSh.h2;omega),LineLay.dl Lf Rf hN (by omega) hsm,LineLay.lo Lf (El.Own.mono (E:=Roa.E) Rf hz),DSh.cu.upto (fun i hi=>kf.block i (by have:=DSh.cu.lt;omega) (by have:=DSh.h1;have:=DSh.h2;omega)),DSh.K.setCell (p:=⟨k3,1,none⟩) (.inr (by have:=DSh.h2;simp only;omega)) _,DSh.h1,DSh.h2⟩
   focus
    have e0:=DSh.v3.cell (i:=0) rfl
    have f0:=DSh.v3.free 0
    have hcap:3≤cH:=by have:=DSh.L.row.cap;omega
    have hc1: ¬cH=1:=by omega
    have hc3:(3:Int)≤(cH:Int):=by omega
    have HCA:Hid (3≤cH):=hcap
    clear hcap
    go_wp2_with fail
    have kf:Draw.Kept k3 wa (wa.setCell ⟨k3,0,none⟩ (.slice (some ⟨g,13,none⟩) 2 (cH-1))):=(Draw.Kept.refl _ _).setCell (p:=⟨k3,0,none⟩) (.inl rfl) _
    have vf:Var 27 (wa.setCell ⟨k3,0,none⟩ (.slice (some ⟨g,13,none⟩) 2 (cH-1))) k3 [.slice (some ⟨g,13,none⟩) 2 (cH-1),.slice (some ⟨gR,0,none⟩) rs.length cR]:=DSh.v3.set 0 _
    obtain⟨x0,x1,x2,rfl⟩: ∃x0 x1 x2,xs=[x0,x1,x2]:=by
     match xs,h3 with
     | [a,b,d],_=>exact⟨a,b,d,rfl⟩
    have D0:=(LineLay.dl DSh.L DSh.R hrs (by simp) hsm).keptV DSh.v3 ntLine kf
    have D1:DL (wa.setCell ⟨k3,0,none⟩ (.slice (some ⟨g,13,none⟩) 2 (cH-1))) (some ⟨g,13,none⟩) [x1,x2] (some ⟨gR,0,none⟩) rs:=
     ⟨⟨lies_tail D0.L.row,fun z hz=>D0.L.rows z (List.mem_cons_of_mem _ hz)⟩,D0.R,D0.nr,by simp,fun z hz=>D0.sm z (List.mem_cons_of_mem _ hz),fun x hx=>by cases hx;exact D0.tH ⟨g,0,none⟩ rfl,D0.tR,fun z hz=>D0.tx z (List.mem_cons_of_mem _ hz)⟩
    go_meet
    exact⟨some ⟨g,13,none⟩,cH-1,[x1,x2],some ⟨gR,0,none⟩,cR,rs,vf,DSh.vR.kept kf (by have:=DSh.h2;omega),D1,⟨fun x hx=>by cases hx;exact(LineLay.lo DSh.L DSh.R).h ⟨g,0,none⟩ rfl,(LineLay.lo DSh.L DSh.R).r,fun y hy=>(LineLay.lo DSh.L DSh.R).x y (List.mem_cons_of_mem _ hy)⟩,DSh.cu.upto (fun i hi=>kf.block i (by have:=DSh.cu.lt;omega) (by have:=DSh.h1;have:=DSh.h2;omega)),DSh.K.setCell (p:=⟨k3,0,none⟩) (.inr (by have:=DSh.h2;simp only;omega)) _,DSh.h1,DSh.h2⟩
   focus
    obtain⟨x0,hx0⟩: ∃x0,xs[0]? =some x0:=⟨xs[0]'(by omega),List.getElem?_eq_getElem _⟩
    have hw31:=hsw x0 (List.mem_of_getElem? hx0)
    have keepW: ∀(q:Nat) (d:Nat→Bool) (w':World),(fun d w'=>(d 14=false→Var 27 w' k3 [.slice (some ⟨g,0,none⟩) 3 cH,.slice (some ⟨gR,0,none⟩) rs.length cR])∧(d 11=false→DS c k3 w g cH xs gR cR rs w')∧(d 14=true→DTx c k3 w w')) d w'→q≠11∧q≠14→(fun d w'=>(d 14=false→Var 27 w' k3 [.slice (some ⟨g,0,none⟩) 3 cH,.slice (some ⟨gR,0,none⟩) rs.length cR])∧(d 11=false→DS c k3 w g cH xs gR cR rs w')∧(d 14=true→DTx c k3 w w')) (fun j=>j==q||d j) w':=fun q d w' h hq=>⟨fun e=>h.1 (by rw [←or_ne (d:=d) (Ne.symm hq.2)];exact e),fun e=>h.2.1 (by rw [←or_ne (d:=d) (Ne.symm hq.1)];exact e),fun e=>h.2.2 (by rw [←or_ne (d:=d) (Ne.symm hq.2)];exact e)⟩
    go_wp2_with fail
    refine RegJ.wp_region_J (W:=(fun d w'=>(d 14=false→Var 27 w' k3 [.slice (some ⟨g,0,none⟩) 3 cH,.slice (some ⟨gR,0,none⟩) rs.length cR])∧(d 11=false→DS c k3 w g cH xs gR cR rs w')∧(d 14=true→DTx c k3 w w'))) (RegJ.ValE [some (.pointer (some ⟨k3,0,none⟩)),some (.slice (some ⟨g,0,none⟩) 3 cH),some (.pointer (some ⟨k3,0,none⟩)),some (.slice (some ⟨g,0,none⟩) 3 cH),some (.pointer (some ⟨g,0,none⟩)),some (.pointer (some ⟨g,12,none⟩)),some (.slice x0.aW x0.h.ws.length x0.cW),some (.pointer (some ⟨c,0,none⟩)),none,none,none,none,some (.pointer (some ⟨g,0,none⟩)),some (.pointer (some ⟨g,12,none⟩)),none] ([(8,8,fun v _=> ∃r:Int,v=Value.int .i64 r),(9,9,fun v _=> ∃r:Int,v=Value.agg #[.bool true,.int .i64 r,.int .i64 0,.string ⟨#[]⟩,.bool false,.int .i64 0,.bool false]),(10,11,fun v w'=> ∃(r:Int) (m:Nat),v=Value.slice (some ⟨m,0,none⟩) 1 1∧Var 75 w' m [.bool true,.int .i64 r,.int .i64 0,.string ⟨#[]⟩,.bool false,.int .i64 0,.bool false]),(11,14,fun v w'=> ∃a' c' r,v=Value.slice a' (x0.h.ws.length+1) c'∧AP c k3 w g cH xs gR cR rs x0 a' c' r w')])) [some 32,some 33,some 34,some 35,some 36,some 37,some 38,some 39,some 40,some 41,some 42,some 43,some 44,some 45,none] (F:=?_) (is:=[0,1,2,3,4,5,6,7,8,9,10,11,12,13,14]) hmix (by kernel_rfl) (by kernel_rfl) (by kernel_rfl) (by kernel_rfl) (fun x=>?_) (⟨fun _=>DSh.drew.v3,fun _=>DSh.drew,fun e=>by cases e⟩) ?_ (fun dR xR wR hWR hdR hJR=>?_)
    rotate_left 1
    focus (simp only [RegJ.lay,Act.put,Nat.reduceAdd,Nat.zero_add,Draw.lays];rfl)
    focus
     iterate 15 (refine RegJ.Steps.cons (RegJ.StepAt.mk rfl (fun d x w1 hW1 hJ1 hx1 K hK=>?_)) ?_;simp only [Draw.lays]at hK;rotate_left 1)
     exact RegJ.Steps.nil
     ·go_simp;exact hK.out _ _ (keepW 0 d _ hW1 (by decide)) RegJ.ValE.same (RegJ.ValE.free (Or.inl rfl) rfl)
     ·have j0:x 0=_:=(hJ1.out 0 (by kernel_rfl)).val rfl;rw [j0]at hK;have e0:=(hW1.1 (hx1.out 14 (.inr (by kernel_rfl))).1).cell (i:=0) rfl;go_simp;exact hK.out _ _ (keepW 1 d _ hW1 (by decide)) RegJ.ValE.same (RegJ.ValE.free (Or.inl rfl) rfl)
     ·go_simp;exact hK.out _ _ (keepW 2 d _ hW1 (by decide)) RegJ.ValE.same (RegJ.ValE.free (Or.inl rfl) rfl)
     ·have j2:x 2=_:=(hJ1.out 2 (by kernel_rfl)).val rfl;rw [j2]at hK;have e0:=(hW1.1 (hx1.out 14 (.inr (by kernel_rfl))).1).cell (i:=0) rfl;go_simp;exact hK.out _ _ (keepW 3 d _ hW1 (by decide)) RegJ.ValE.same (RegJ.ValE.free (Or.inl rfl) rfl)
     ·have j3:x 3=_:=(hJ1.out 3 (by kernel_rfl)).val rfl;rw [j3]at hK;go_simp;exact hK.out _ _ (keepW 4 d _ hW1 (by decide)) RegJ.ValE.same (RegJ.ValE.free (Or.inl rfl) rfl)
     ·have j4:x 4=_:=(hJ1.out 4 (by kernel_rfl)).val rfl;rw [j4]at hK;go_simp;exact hK.out _ _ (keepW 5 d _ hW1 (by decide)) RegJ.ValE.same (RegJ.ValE.free (Or.inl rfl) rfl)
     ·have j5:x 5=_:=(hJ1.out 5 (by kernel_rfl)).val rfl;rw [j5]at hK;have q:=hW1.2.1 (hx1.out 11 (.inr (by kernel_rfl))).1;obtain⟨pre,post,v,_⟩:=q.L.row.win hx0;have e12:w1.cell? ⟨g,12,none⟩=some (.slice x0.aW x0.h.ws.length x0.cW):=(by have:=v.cell (i:=12) rfl;simpa using this);go_simp;exact hK.out _ _ (keepW 6 d _ hW1 (by decide)) RegJ.ValE.same (RegJ.ValE.free (Or.inl rfl) rfl)
     ·go_simp;exact hK.out _ _ (keepW 7 d _ hW1 (by decide)) RegJ.ValE.same (RegJ.ValE.free (Or.inl rfl) rfl)
     ·have j7:x 7=_:=(hJ1.out 7 (by kernel_rfl)).val rfl;rw [j7]at hK;have q:=hW1.2.1 (hx1.out 11 (.inr (by kernel_rfl))).1;go_simp;refine(Draw.l1Below c 2 _ q.cu).mono ?_;rintro e wa ⟨y,y0,y1,rfl,cua,ka⟩;go_simp;exact hK.out _ _ ⟨fun _=>(q.drawn cua ka).v3,fun _=>q.drawn cua ka,fun e=>absurd e (by simp [(hx1.out 14 (.inr (by kernel_rfl))).1])⟩ (keepN (by intro t ht;simp only [List.mem_cons,List.not_mem_nil,or_false]at ht;rcases ht with rfl|rfl|rfl|rfl;exact .inl rfl;exact .inr (.inr fun v h=>h);exact .inr (.inl (hx1.out 10 (.inr (by kernel_rfl))).1);exact .inr (.inl (hx1.out 11 (.inr (by kernel_rfl))).1))) (RegJ.ValE.got 0 _ _ (Or.inr rfl) rfl rfl ⟨y,rfl⟩)
     ·obtain⟨r,j8⟩:=((hJ1.out 8 (by kernel_rfl)).tie 0 rfl (.inl rfl));have j8:x 8=_:=j8;rw [j8]at hK;go_simp;exact hK.out _ _ (keepW 9 d _ hW1 (by decide)) RegJ.ValE.same (RegJ.ValE.got 1 _ _ (Or.inr rfl) rfl rfl ⟨r,rfl⟩)
     ·obtain⟨r,j9⟩:=((hJ1.out 9 (by kernel_rfl)).tie 1 rfl (.inl rfl));have j9:x 9=_:=j9;rw [j9]at hK;have q:=hW1.2.1 (hx1.out 11 (.inr (by kernel_rfl))).1;go_simp;have ba:=(Below.refl w1.heap.size w1).alloc (Nat.le_refl _) (.cells #[.bool true,.int .i64 r,.int .i64 0,.string ⟨#[]⟩,.bool false,.int .i64 0,.bool false] 75);exact hK.out _ _ ⟨fun _=>(q.later ba).v3,fun _=>q.later ba,fun e=>absurd e (by simp [(hx1.out 14 (.inr (by kernel_rfl))).1])⟩ (keepN (by intro t ht;simp only [List.mem_cons,List.not_mem_nil,or_false]at ht;rcases ht with rfl|rfl|rfl|rfl;exact .inr (.inr fun v h=>h);exact .inr (.inr fun v h=>h);exact .inl rfl;exact .inr (.inl (hx1.out 11 (.inr (by kernel_rfl))).1))) (RegJ.ValE.got 2 _ _ (Or.inr rfl) rfl rfl ⟨r,w1.heap.size,rfl,Var.new w1 _⟩)
     ·have q:=hW1.2.1 (hx1.out 11 (.inl rfl)).1;have j6:x 6=_:=(hJ1.out 6 (by kernel_rfl)).val rfl;obtain⟨r,m,j10,vm⟩:=((hJ1.out 10 (by kernel_rfl)).tie 2 rfl (.inr (hx1.out 11 (.inl rfl)).1));have j10:x 10=_:=j10;have Rx:=q.L.rows x0 (List.mem_of_getElem? hx0);refine step_appL Hop.typ (by decide) (by rfl) _ _ (by rfl) w.heap.size x0.aW x0.cW x0.h.ws.length x0.h.ws [ltR r] rfl (by exact j6) Rx.l q.K.size (some ⟨m,0,none⟩) 1 1 rfl (by exact j10) (lies_let vm) (fun e=>by cases e) (by simp;omega) ?_;intro a' c' wa oa ga la;have A:=q.app hx0 oa ga;exact hK.out _ _ ⟨fun _=>A.v3,fun e=>absurd e (by simp),fun e=>absurd e (by simp [(hx1.out 14 (.inr (by kernel_rfl))).1])⟩ (RegJ.ValE.keep (by intro t ht;simp only [List.mem_cons,List.not_mem_nil,or_false]at ht;rcases ht with rfl|rfl|rfl|rfl;exact .inr (.inr fun v h=>h);exact .inr (.inr fun v h=>h);exact .inr (.inl ⟨by simp,.inl rfl⟩);exact .inl rfl)) (RegJ.ValE.got 3 _ _ (Or.inr rfl) rfl rfl ⟨a',c',r,rfl,A⟩)
     ·have j1:x 1=_:=(hJ1.out 1 (by kernel_rfl)).val rfl;rw [j1]at hK;go_simp;exact hK.out _ _ (keepW 12 d _ hW1 (by decide)) RegJ.ValE.same (RegJ.ValE.free (Or.inl rfl) rfl)
     ·have j12:x 12=_:=(hJ1.out 12 (by kernel_rfl)).val rfl;rw [j12]at hK;go_simp;exact hK.out _ _ (keepW 13 d _ hW1 (by decide)) RegJ.ValE.same (RegJ.ValE.free (Or.inl rfl) rfl)
     ·have j13:x 13=_:=(hJ1.out 13 (by kernel_rfl)).val rfl;rw [j13]at hK;obtain⟨a',c',r,j11,A⟩:=((hJ1.out 11 (by kernel_rfl)).tie 3 rfl (.inr (hx1.out 14 (.inl rfl)).1));have j11:x 11=_:=j11;rw [j11]at hK;obtain⟨y0,y1,y2⟩:=A.done hx0 hsm hw31 hrs h3;go_simp;exact hK.out undef _ ⟨fun e=>absurd e (by simp),fun e=>absurd e (by have:=(hJ1.out 11 (by kernel_rfl)).done;simp [this]),fun _=>y2⟩ (RegJ.ValE.keep (by intro t ht;simp only [List.mem_cons,List.not_mem_nil,or_false]at ht;rcases ht with rfl|rfl|rfl|rfl;exact .inr (.inr fun v h=>h);exact .inr (.inr fun v h=>h);exact .inr (.inl ⟨by simp,.inr (hJ1.out 11 (by kernel_rfl)).done⟩);exact .inr (.inl ⟨by simp,.inl rfl⟩))) (RegJ.ValE.free (Or.inr rfl) rfl)
    have S:=hWR.2.2 (hdR 14 (by simp))
    clear hWR hdR hJR keepW
    go_wp2_with fail
    go_meet
    exact S
 case rest=>
  clear DSh hsm hsw hrs h3
  obtain⟨aH,cH',xs',aR,cR',rs',S⟩:=hcut
  have e0:=S.v3.cell (i:=0) rfl
  have e1:=S.v3.cell (i:=1) rfl
  have r0:=S.vR.cell (i:=0) rfl
  have r1:=S.vR.cell (i:=1) rfl
  have f0:=S.vR.free 0
  have f1:=S.vR.free 1
  go_wp2_with fail
  obtain⟨WZ,hWZ⟩: ∃z,Hid (z=(wc.setCell ⟨w.heap.size,0,none⟩ (.slice aH xs'.length cH')).setCell ⟨w.heap.size,1,none⟩ (.slice aR rs'.length cR')):=⟨_,rfl⟩
  have ka:Draw.Kept w.heap.size wc WZ:=by rw [hWZ.out];exact((Draw.Kept.refl _ _).setCell (p:=⟨w.heap.size,0,none⟩) (.inl rfl) _).setCell (p:=⟨w.heap.size,1,none⟩) (.inl rfl) _
  have vv:Var 27 WZ w.heap.size [.slice aH xs'.length cH',.slice aR rs'.length cR']:=by rw [hWZ.out];exact(S.vR.set 0 _).set 1 _
  have DZ:=S.D.keptV S.vR ntLine ka
  have DLZ:=S.lo
  have cu6:=S.cu.upto (fun i hi=>ka.block i (by have:=S.cu.lt;omega) (by have:=S.h1;omega))
  have K6:Draw.Kept c w WZ:=⟨ka.os.trans S.K.os,ka.tape.trans S.K.tape,ka.output.trans S.K.output,Nat.le_trans S.K.size ka.size,fun i hi hc=>(ka.block i (Nat.lt_of_lt_of_le hi S.K.size) (by omega)).trans (S.K.block i hi hc)⟩
  clear ka e0 e1 r0 r1 f0 f1 S
  rw [←hWZ.out]
  clear hWZ
  have e0:=vv.cell (i:=0) rfl
  have e1:=vv.cell (i:=1) rfl
  refine bodyPost_ret (v:=.agg #[.slice aH xs'.length cH',.slice aR rs'.length cR']) (by rw [Hop.res_one rfl];go_simp) rfl ⟨aH,aR,cH',cR',xs',rs',rfl,DZ,DLZ,cu6,K6⟩
end Go.Proofs.YtfejobjgbadfjaaGreat.Wor
