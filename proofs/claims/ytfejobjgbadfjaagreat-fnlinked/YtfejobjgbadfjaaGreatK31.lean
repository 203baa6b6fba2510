/- Contracts of this seat's functions, and their mathematics (WorT). -/
import Derived.Test.YtfejobjgbadfjaaGreatK30
import Derived.Deep.CutBlock
set_option linter.unusedVariables false
set_option linter.unusedSimpArgs false
set_option maxRecDepth 20000
set_option maxHeartbeats 16000000
namespace Go.Proofs.YtfejobjgbadfjaaGreat.Wor
open Go.RowKit RowG Hop Roa Pum Lin
theorem WAs.keptC {w w':World}{B g cH c:Nat}{xs:List Ha}{aR:Option Addr}{cR:Nat}{W:Wd}(h:WAs w B g cH xs aR cR W)(k:Draw.Kept c w w')(hc:c<B):WAs w' B g cH xs aR cR W:=
 ⟨h.L.kept k hc,h.hs,h.R.kept k (fun x hx=>by have:=(h.R.lt x hx).1;omega),h.ok⟩
abbrev put6 (w:World)(k:Nat)(x0 x1 x2 x3 x4 x5:Value):World:=(((((w.setCell ⟨k,0,none⟩ x0).setCell ⟨k,1,none⟩ x1).setCell ⟨k,2,none⟩ x2).setCell ⟨k,3,none⟩ x3).setCell ⟨k,4,none⟩ x4).setCell ⟨k,5,none⟩ x5
theorem var6 {T:TypeId}{w:World}{k:Nat}{a0 a1 a2 a3 a4 a5:Value}(h:Var T w k [a0,a1,a2,a3,a4,a5])(x0 x1 x2 x3 x4 x5:Value):Var T (put6 w k x0 x1 x2 x3 x4 x5) k [x0,x1,x2,x3,x4,x5]:=(((((h.set 0 x0).set 1 x1).set 2 x2).set 3 x3).set 4 x4).set 5 x5
theorem kept6 (w:World)(k:Nat)(x0 x1 x2 x3 x4 x5:Value):Draw.Kept k w (put6 w k x0 x1 x2 x3 x4 x5):=
 Draw.Kept.setCell (p:=⟨k,5,none⟩) (Draw.Kept.setCell (p:=⟨k,4,none⟩) (Draw.Kept.setCell (p:=⟨k,3,none⟩) (Draw.Kept.setCell (p:=⟨k,2,none⟩) (Draw.Kept.setCell (p:=⟨k,1,none⟩) (Draw.Kept.setCell (p:=⟨k,0,none⟩) (Draw.Kept.refl _ _) (.inl rfl) _) (.inl rfl) _) (.inl rfl) _) (.inl rfl) _) (.inl rfl) _) (.inl rfl) _
structure DA (c k6 k7:Nat)(cw ch:List Value)(w wr:World)(a:Ac):Prop where
 vW:Var 33 wr w.heap.size cw
 vR:Var 69 wr (w.heap.size+1) [.int .i64 0,.int .i64 0,.int .i64 0,.int .i64 0,.int .i64 0,.string ⟨#[]⟩]
 vH:Var 47 wr k6 ch
 vA:Var 69 wr k7 a.c
 tx:a.tx.size≤12
 cu:Draw.Cur wr c
 K:Draw.Kept c w wr
 h0:c<w.heap.size
 h1:w.heap.size+1<k6
 h2:k6<k7
theorem DA.drawn {c k6 k7:Nat}{cw ch:List Value}{w wr wa:World}{a:Ac}(s:DA c k6 k7 cw ch w wr a)(cua:Draw.Cur wa c)(ka:Draw.Kept c wr wa):DA c k6 k7 cw ch w wa a:=by
 have:=s.h0;have:=s.h1;have:=s.h2
 exact⟨s.vW.kept ka (by omega),s.vR.kept ka (by omega),s.vH.kept ka (by omega),s.vA.kept ka (by omega),s.tx,cua,s.K.trans ka,s.h0,s.h1,s.h2⟩
theorem DA.later {c k6 k7:Nat}{cw ch:List Value}{w wr wa:World}{a:Ac}(s:DA c k6 k7 cw ch w wr a)(b:Below wr.heap.size wr wa):DA c k6 k7 cw ch w wa a:=s.drawn (s.cu.below b (Nat.le_refl _)) (Draw.Kept.ofBelow b (Nat.le_refl _))
theorem DA.alloc {c k6 k7:Nat}{cw ch:List Value}{w wr:World}{a:Ac}(s:DA c k6 k7 cw ch w wr a)(o:Obj):DA c k6 k7 cw ch w (wr.alloc o) a:=s.later ((Below.refl _ _).alloc (Nat.le_refl _) _)
theorem DA.drew {c k6 k7:Nat}{cw ch:List Value}{w wr:World}{a:Ac}(s:DA c k6 k7 cw ch w wr a):DA c k6 k7 cw ch w wr.drew a:=⟨s.vW,s.vR,s.vH,s.vA,s.tx,s.cu.drew,s.K.drew,s.h0,s.h1,s.h2⟩
theorem DA.put {c k6 k7:Nat}{cw ch:List Value}{w wr:World}{a:Ac}(s:DA c k6 k7 cw ch w wr a)(j:Nat)(v:Value)(a':Ac)(ha:a'.c=a.c.set j v)(ht:a'.tx.size≤12):DA c k6 k7 cw ch w (wr.setCell ⟨k7,j,none⟩ v) a':=by
 have:=s.h0;have:=s.h1;have:=s.h2
 have vA:=s.vA.set j v
 rw [←ha]at vA
 exact⟨s.vW.other (by simp;omega) _,s.vR.other (by simp;omega) _,s.vH.other (by simp;omega) _,vA,ht,s.cu.upto (fun i hi=>Below.heap_setCell _ _ _ _ (by simp;omega)),s.K.setCell (.inr (by simp;omega)) _,s.h0,s.h1,s.h2⟩
theorem DA.put0 {c k6 k7:Nat}{cw ch:List Value}{w wr:World}{a:Ac}(s:DA c k6 k7 cw ch w wr a)(x:Int):DA c k6 k7 cw ch w (wr.setCell ⟨k7,0,none⟩ (.int .i64 x)) {a with kd:=x}:=s.put 0 _ _ rfl s.tx
theorem DA.put1 {c k6 k7:Nat}{cw ch:List Value}{w wr:World}{a:Ac}(s:DA c k6 k7 cw ch w wr a)(x:Int):DA c k6 k7 cw ch w (wr.setCell ⟨k7,1,none⟩ (.int .i64 x)) {a with hp:=x}:=s.put 1 _ _ rfl s.tx
theorem DA.put2 {c k6 k7:Nat}{cw ch:List Value}{w wr:World}{a:Ac}(s:DA c k6 k7 cw ch w wr a)(x:Int):DA c k6 k7 cw ch w (wr.setCell ⟨k7,2,none⟩ (.int .i64 x)) {a with ro:=x}:=s.put 2 _ _ rfl s.tx
theorem DA.put3 {c k6 k7:Nat}{cw ch:List Value}{w wr:World}{a:Ac}(s:DA c k6 k7 cw ch w wr a)(x:Int):DA c k6 k7 cw ch w (wr.setCell ⟨k7,3,none⟩ (.int .i64 x)) {a with pl:=x}:=s.put 3 _ _ rfl s.tx
theorem DA.put4 {c k6 k7:Nat}{cw ch:List Value}{w wr:World}{a:Ac}(s:DA c k6 k7 cw ch w wr a)(x:Int):DA c k6 k7 cw ch w (wr.setCell ⟨k7,4,none⟩ (.int .i64 x)) {a with n:=x}:=s.put 4 _ _ rfl s.tx
theorem DA.put5 {c k6 k7:Nat}{cw ch:List Value}{w wr:World}{a:Ac}(s:DA c k6 k7 cw ch w wr a)(x:ByteArray)(hx:x.size≤12):DA c k6 k7 cw ch w (wr.setCell ⟨k7,5,none⟩ (.string x)) {a with tx:=x}:=s.put 5 _ _ rfl hx
theorem l16DrawAct (c B:Nat)(W:Wd)(aR:Option Addr)(g cH cR:Nat)(xs:List Ha)(w:World)(A:WAs w B g cH xs aR cR W)(hc:Draw.Cur w c)(hcB:c<B):
  Calls Tryz.prog 40 #[.pointer (some ⟨c,0,none⟩),.agg #[.slice (some ⟨g,0,none⟩) 3 cH,.slice aR W.rs.length cR,.string W.tx,.int .i64 W.rd,.bool W.en,.bool W.dn,.bool W.sn]] w fun e w'=> ∃a:Ac,e=.returned a.v∧a.tx.size≤12∧Draw.Cur w' c∧Draw.Kept c w w':=by
 have hmix:=Roa.mix
 have hcl:=hc.lt
 have vW:Var 33 ((w.alloc (.cells #[.slice (some ⟨g,0,none⟩) 3 cH,.slice aR W.rs.length cR,.string W.tx,.int .i64 W.rd,.bool W.en,.bool W.dn,.bool W.sn] 33)).alloc (.cells #[.int .i64 0,.int .i64 0,.int .i64 0,.int .i64 0,.int .i64 0,.string ⟨#[]⟩] 69)) w.heap.size [.slice (some ⟨g,0,none⟩) 3 cH,.slice aR W.rs.length cR,.string W.tx,.int .i64 W.rd,.bool W.en,.bool W.dn,.bool W.sn]:=(Var.new w _).alloc _
 have vR:Var 69 ((w.alloc (.cells #[.slice (some ⟨g,0,none⟩) 3 cH,.slice aR W.rs.length cR,.string W.tx,.int .i64 W.rd,.bool W.en,.bool W.dn,.bool W.sn] 33)).alloc (.cells #[.int .i64 0,.int .i64 0,.int .i64 0,.int .i64 0,.int .i64 0,.string ⟨#[]⟩] 69)) (w.heap.size+1) [.int .i64 0,.int .i64 0,.int .i64 0,.int .i64 0,.int .i64 0,.string ⟨#[]⟩]:=by
  have q:=Var.new (T:=69) (w.alloc (.cells #[.slice (some ⟨g,0,none⟩) 3 cH,.slice aR W.rs.length cR,.string W.tx,.int .i64 W.rd,.bool W.en,.bool W.dn,.bool W.sn] 33)) [.int .i64 0,.int .i64 0,.int .i64 0,.int .i64 0,.int .i64 0,.string ⟨#[]⟩]
  simpa using q
 have cu0:=(hc.alloc (.cells #[.slice (some ⟨g,0,none⟩) 3 cH,.slice aR W.rs.length cR,.string W.tx,.int .i64 W.rd,.bool W.en,.bool W.dn,.bool W.sn] 33)).alloc (.cells #[.int .i64 0,.int .i64 0,.int .i64 0,.int .i64 0,.int .i64 0,.string ⟨#[]⟩] 69)
 have K0:=((Draw.Kept.refl c w).alloc (.cells #[.slice (some ⟨g,0,none⟩) 3 cH,.slice aR W.rs.length cR,.string W.tx,.int .i64 W.rd,.bool W.en,.bool W.dn,.bool W.sn] 33)).alloc (.cells #[.int .i64 0,.int .i64 0,.int .i64 0,.int .i64 0,.int .i64 0,.string ⟨#[]⟩] 69)
 have A0:=A.later (((Below.refl _ _).alloc (Nat.le_refl _) (.cells #[.slice (some ⟨g,0,none⟩) 3 cH,.slice aR W.rs.length cR,.string W.tx,.int .i64 W.rd,.bool W.en,.bool W.dn,.bool W.sn] 33)).alloc (by simp) (.cells #[.int .i64 0,.int .i64 0,.int .i64 0,.int .i64 0,.int .i64 0,.string ⟨#[]⟩] 69))
 go_enter Tryz.func40,Tryz.ntmps40
 go_wp2_with fail
 generalize ((w.alloc (.cells #[.slice (some ⟨g,0,none⟩) 3 cH,.slice aR W.rs.length cR,.string W.tx,.int .i64 W.rd,.bool W.en,.bool W.dn,.bool W.sn] 33)).alloc (.cells #[.int .i64 0,.int .i64 0,.int .i64 0,.int .i64 0,.int .i64 0,.string ⟨#[]⟩] 69))=V at *
 refine(Draw.l1Below _ _ _ cu0).mono ?_
 rintro e w1 ⟨y,y0,y1,rfl,cu1,k1⟩
 obtain⟨i,rfl⟩: ∃i:Nat,y=(i:Int):=⟨y.toNat,by omega⟩
 have hi3:i<3:=by omega
 replace vW:=vW.kept k1 (by omega)
 replace vR:=vR.kept k1 (by omega)
 replace A0:=A0.keptC k1 hcB
 replace K0:=K0.trans k1
 clear cu0 k1 y0 y1 A
 have hxl:=A0.len
 obtain⟨x0,hx⟩: ∃x,xs[i]? =some x:=⟨xs[i],List.getElem?_eq_getElem (by omega)⟩
 have i0:(i:Int)<3:=by omega
 have i1:(0:Int)≤(i:Int):=by omega
 have C1: ∀j v,x0.c[j]? =some v→w1.cell? ⟨g,i*13+j,none⟩=some v:=by
  intro j v hv
  have:=El.Lies.cells A0.L.row.lies hx j v hv
  rwa [Nat.zero_add]at this
 have hxh:x0.h.g.bs.size≤400∧x0.h.ws.length≤30:=by
  have hm:x0.h∈W.hs:=by rw [←A0.hs];exact List.mem_map_of_mem (List.mem_of_getElem? hx)
  obtain⟨j,hj,he⟩:=List.getElem_of_mem hm
  have h3:=hops_iff.1 (ok_parts.1 A0.ok).1
  have hb:=(h3.2.2 j (by omega)).1
  have e:W.hs.getD j zeroH=x0.h:=by rw [List.getD_eq_getElem?_getD,List.getElem?_eq_getElem hj,he];rfl
  rw [e]at hb
  obtain⟨h1,h2,_,_⟩:=hop_ok hb
  have:=Giv.ok_iff.1 h2
  exact⟨by omega,h1⟩
 obtain⟨hgb,hwl⟩:=hxh
 have htx:W.tx.size≤2000:=(stream_iff.1 (ok_parts.1 A0.ok).2).1
 have a0:=C1 0 _ rfl
 rw [Nat.add_zero]at a0
 have a1:=C1 1 _ rfl
 have a2:=C1 2 _ rfl
 have a3:=C1 3 _ rfl
 have a4:=C1 4 _ rfl
 have a5:=C1 5 _ rfl
 have a6:=C1 6 _ rfl
 have a7:=C1 7 _ rfl
 have a8:=C1 8 _ rfl
 have a9:=C1 9 _ rfl
 have a10:=C1 10 _ rfl
 have a11:=C1 11 _ rfl
 have a12:=C1 12 _ rfl
 have e0:=vW.cell (i:=0) rfl
 have hz1:w.heap.size+1<w1.heap.size:=vR.lt
 have vH:Var 47 (w1.alloc (.cells #[.int .i64 x0.h.g.ba,.string x0.h.g.bs,.int .i64 x0.h.g.cp,.int .i64 x0.h.g.lm,.bool x0.h.g.en,.bool x0.h.g.dn,.int .i64 x0.h.t.nx,.string x0.h.t.bs,.slice x0.aT x0.h.t.l.length x0.cT,.int .i64 x0.h.t.cp,.int .i64 x0.h.t.fi,.bool x0.h.t.en,.slice x0.aW x0.h.ws.length x0.cW] 47)) w1.heap.size [.int .i64 x0.h.g.ba,.string x0.h.g.bs,.int .i64 x0.h.g.cp,.int .i64 x0.h.g.lm,.bool x0.h.g.en,.bool x0.h.g.dn,.int .i64 x0.h.t.nx,.string x0.h.t.bs,.slice x0.aT x0.h.t.l.length x0.cT,.int .i64 x0.h.t.cp,.int .i64 x0.h.t.fi,.bool x0.h.t.en,.slice x0.aW x0.h.ws.length x0.cW]:=Var.new w1 _
 replace vW:=vW.alloc (.cells #[.int .i64 x0.h.g.ba,.string x0.h.g.bs,.int .i64 x0.h.g.cp,.int .i64 x0.h.g.lm,.bool x0.h.g.en,.bool x0.h.g.dn,.int .i64 x0.h.t.nx,.string x0.h.t.bs,.slice x0.aT x0.h.t.l.length x0.cT,.int .i64 x0.h.t.cp,.int .i64 x0.h.t.fi,.bool x0.h.t.en,.slice x0.aW x0.h.ws.length x0.cW] 47)
 replace vR:=vR.alloc (.cells #[.int .i64 x0.h.g.ba,.string x0.h.g.bs,.int .i64 x0.h.g.cp,.int .i64 x0.h.g.lm,.bool x0.h.g.en,.bool x0.h.g.dn,.int .i64 x0.h.t.nx,.string x0.h.t.bs,.slice x0.aT x0.h.t.l.length x0.cT,.int .i64 x0.h.t.cp,.int .i64 x0.h.t.fi,.bool x0.h.t.en,.slice x0.aW x0.h.ws.length x0.cW] 47)
 replace cu1:=cu1.alloc (.cells #[.int .i64 x0.h.g.ba,.string x0.h.g.bs,.int .i64 x0.h.g.cp,.int .i64 x0.h.g.lm,.bool x0.h.g.en,.bool x0.h.g.dn,.int .i64 x0.h.t.nx,.string x0.h.t.bs,.slice x0.aT x0.h.t.l.length x0.cT,.int .i64 x0.h.t.cp,.int .i64 x0.h.t.fi,.bool x0.h.t.en,.slice x0.aW x0.h.ws.length x0.cW] 47)
 replace K0:=K0.alloc (.cells #[.int .i64 x0.h.g.ba,.string x0.h.g.bs,.int .i64 x0.h.g.cp,.int .i64 x0.h.g.lm,.bool x0.h.g.en,.bool x0.h.g.dn,.int .i64 x0.h.t.nx,.string x0.h.t.bs,.slice x0.aT x0.h.t.l.length x0.cT,.int .i64 x0.h.t.cp,.int .i64 x0.h.t.fi,.bool x0.h.t.en,.slice x0.aW x0.h.ws.length x0.cW] 47)
 clear A0 hx hxl C1
 go_wp2_with fail
 clear e0 a0 a1 a2 a3 a4 a5 a6 a7 a8 a9 a10 a11 a12
 generalize w1.alloc (.cells #[.int .i64 x0.h.g.ba,.string x0.h.g.bs,.int .i64 x0.h.g.cp,.int .i64 x0.h.g.lm,.bool x0.h.g.en,.bool x0.h.g.dn,.int .i64 x0.h.t.nx,.string x0.h.t.bs,.slice x0.aT x0.h.t.l.length x0.cT,.int .i64 x0.h.t.cp,.int .i64 x0.h.t.fi,.bool x0.h.t.en,.slice x0.aW x0.h.ws.length x0.cW] 47)=V1 at *
 generalize w1.heap.size=k6 at *
 refine(Draw.l1Below _ _ _ cu1).mono ?_
 rintro e w2 ⟨n,n0,n1,rfl,cu2,k2⟩
 have hz2:k6<w2.heap.size:=Nat.lt_of_lt_of_le vH.lt k2.size
 have D:DA c k6 w2.heap.size [.slice (some ⟨g,0,none⟩) 3 cH,.slice aR W.rs.length cR,.string W.tx,.int .i64 W.rd,.bool W.en,.bool W.dn,.bool W.sn] [.int .i64 x0.h.g.ba,.string x0.h.g.bs,.int .i64 x0.h.g.cp,.int .i64 x0.h.g.lm,.bool x0.h.g.en,.bool x0.h.g.dn,.int .i64 x0.h.t.nx,.string x0.h.t.bs,.slice x0.aT x0.h.t.l.length x0.cT,.int .i64 x0.h.t.cp,.int .i64 x0.h.t.fi,.bool x0.h.t.en,.slice x0.aW x0.h.ws.length x0.cW] w (w2.alloc (.cells #[.int .i64 0,.int .i64 (i:Int),.int .i64 0,.int .i64 0,.int .i64 n,.string ⟨#[]⟩] 69)) ⟨0,i,0,0,n,⟨#[]⟩⟩:=⟨(vW.kept k2 (by omega)).alloc _,(vR.kept k2 (by omega)).alloc _,(vH.kept k2 (by omega)).alloc _,Var.new w2 _,Nat.zero_le _,cu2.alloc _,(K0.trans k2).alloc _,hcl,hz1,hz2⟩
 clear vW vR vH cu1 cu2 K0 k2 n0 n1
 go_upto_region 4 with(fail)
 generalize w2.alloc (.cells #[.int .i64 0,.int .i64 (i:Int),.int .i64 0,.int .i64 0,.int .i64 n,.string ⟨#[]⟩] 69)=V2 at *
 generalize w2.heap.size=k7 at *
 generalize (⟨0,i,0,0,n,⟨#[]⟩⟩:Ac)=ac at *
 clear hz1 hz2
 go_upto_if 21 with(fail)
 go_cut [21]from 22 (fun v wr=> ∃a:Ac,DA c k6 k7 [.slice (some ⟨g,0,none⟩) 3 cH,.slice aR W.rs.length cR,.string W.tx,.int .i64 W.rd,.bool W.en,.bool W.dn,.bool W.sn] [.int .i64 x0.h.g.ba,.string x0.h.g.bs,.int .i64 x0.h.g.cp,.int .i64 x0.h.g.lm,.bool x0.h.g.en,.bool x0.h.g.dn,.int .i64 x0.h.t.nx,.string x0.h.t.bs,.slice x0.aT x0.h.t.l.length x0.cT,.int .i64 x0.h.t.cp,.int .i64 x0.h.t.fi,.bool x0.h.t.en,.slice x0.aW x0.h.ws.length x0.cW] w wr a)
 case first=>
  cases hb:((i:Int)==1)
  focus
   go_wp2_with fail
   go_meet
   exact⟨_,D⟩
  focus
   have e1:=D.vW.cell (i:=1) rfl
   go_wp2_with fail
   refine(Draw.l1Below _ _ _ D.cu).mono ?_
   rintro e wa ⟨y,y0,y1,rfl,cua,ka⟩
   replace D:=D.drawn cua ka
   clear cua ka e1
   have e2:=D.vA.cell (i:=2) rfl
   have f2:=D.vA.free 2
   go_wp2_with fail
   go_meet
   exact⟨_,D.put2 y⟩
 case rest=>
  clear D
  obtain⟨a,D⟩:=hcut
  go_wp2_with fail
  refine(Draw.l1Below _ _ _ D.cu).mono ?_
  rintro e wa ⟨y,y0,y1,rfl,cua,ka⟩
  replace D:=D.drawn cua ka
  clear cua ka
  go_upto_block 0 with(fail)
  go_cut [30]from 31 (fun v wr=> ∃a:Ac,DA c k6 k7 [.slice (some ⟨g,0,none⟩) 3 cH,.slice aR W.rs.length cR,.string W.tx,.int .i64 W.rd,.bool W.en,.bool W.dn,.bool W.sn] [.int .i64 x0.h.g.ba,.string x0.h.g.bs,.int .i64 x0.h.g.cp,.int .i64 x0.h.g.lm,.bool x0.h.g.en,.bool x0.h.g.dn,.int .i64 x0.h.t.nx,.string x0.h.t.bs,.slice x0.aT x0.h.t.l.length x0.cT,.int .i64 x0.h.t.cp,.int .i64 x0.h.t.fi,.bool x0.h.t.en,.slice x0.aW x0.h.ws.length x0.cW] w wr a)
  case first=>
   have hy:y=0∨y=1∨y=2∨y=3∨y=4∨y=5∨y=6∨y=7∨y=8∨y=9∨y=10∨y=11∨y=12∨y=13:=by omega
   clear y0 y1
   rcases hy with rfl|rfl|rfl|rfl|rfl|rfl|rfl|rfl|rfl|rfl|rfl|rfl|rfl|rfl
   focus
    have e0:=D.vA.cell (i:=0) rfl
    have f0:=D.vA.free 0
    go_upto_region 10 with(fail)
    replace D:=D.put0 1
    clear e0 f0
    generalize wa.setCell ⟨k7,0,none⟩ (.int .i64 1)=wk at *
    generalize ({a with kd:=1}:Ac)=a9 at *
    refine RegJ.wp_region_J (W:=(fun d wr=>(d 9=false→DA c k6 k7 [.slice (some ⟨g,0,none⟩) 3 cH,.slice aR W.rs.length cR,.string W.tx,.int .i64 W.rd,.bool W.en,.bool W.dn,.bool W.sn] [.int .i64 x0.h.g.ba,.string x0.h.g.bs,.int .i64 x0.h.g.cp,.int .i64 x0.h.g.lm,.bool x0.h.g.en,.bool x0.h.g.dn,.int .i64 x0.h.t.nx,.string x0.h.t.bs,.slice x0.aT x0.h.t.l.length x0.cT,.int .i64 x0.h.t.cp,.int .i64 x0.h.t.fi,.bool x0.h.t.en,.slice x0.aW x0.h.ws.length x0.cW] w wr a9)∧(d 9=true→ ∃a':Ac,DA c k6 k7 [.slice (some ⟨g,0,none⟩) 3 cH,.slice aR W.rs.length cR,.string W.tx,.int .i64 W.rd,.bool W.en,.bool W.dn,.bool W.sn] [.int .i64 x0.h.g.ba,.string x0.h.g.bs,.int .i64 x0.h.g.cp,.int .i64 x0.h.g.lm,.bool x0.h.g.en,.bool x0.h.g.dn,.int .i64 x0.h.t.nx,.string x0.h.t.bs,.slice x0.aT x0.h.t.l.length x0.cT,.int .i64 x0.h.t.cp,.int .i64 x0.h.t.fi,.bool x0.h.t.en,.slice x0.aW x0.h.ws.length x0.cW] w wr a'))) (RegJ.Tell (c) [.eq (.pointer (some ⟨w.heap.size,2,none⟩)),.eq (.pointer (some ⟨w.heap.size,2,none⟩)),.eq (.string W.tx),.eq (.int .i64 (W.tx.size:Int)),.eq (.pointer (some ⟨c,0,none⟩)),.int 0 11,.int 1 12,.str 12,.eq (.pointer (some ⟨k7,5,none⟩)),.any]) [some 35,some 36,some 37,some 38,some 39,some 40,some 41,some 42,some 43,none] (F:=?_) (is:=[0,1,2,3,4,5,6,7,8,9]) hmix (by kernel_rfl) (by kernel_rfl) (by kernel_rfl) (by kernel_rfl) (fun x=>?_) (⟨fun _=>D.drew,fun e=>by cases e⟩) ?_ (fun dR xR wR hWR hdR hJR=>?_)
    rotate_left 1
    focus (simp only [RegJ.lay,Act.put,Nat.reduceAdd,Nat.zero_add,Draw.lays];rfl)
    focus
     iterate 10 (refine RegJ.Steps.cons (RegJ.StepAt.mk rfl (fun d x w1 hW1 hJ1 hx1 K hK=>?_)) ?_;simp only [Draw.lays]at hK;rotate_left 1)
     exact RegJ.Steps.nil
     ·go_simp;exact hK.out _ _ hW1 RegJ.Tell.same rfl
     ·have j0:x 0=_:=(hJ1.out 0 (by kernel_rfl));rw [j0]at hK;go_simp;exact hK.out _ _ hW1 RegJ.Tell.same rfl
     ·have j1:x 1=_:=(hJ1.out 1 (by kernel_rfl));rw [j1]at hK;have q0:=(hW1.1 (hx1.out 9 (.inr (by kernel_rfl))).1).vW.cell (i:=2) rfl;go_simp;exact hK.out _ _ hW1 RegJ.Tell.same rfl
     ·have j2:x 2=_:=(hJ1.out 2 (by kernel_rfl));rw [j2]at hK;go_simp;exact hK.out _ _ hW1 RegJ.Tell.same rfl
     ·go_simp;exact hK.out _ _ hW1 RegJ.Tell.same rfl
     ·have j4:x 4=_:=(hJ1.out 4 (by kernel_rfl));rw [j4]at hK;have D1:=hW1.1 (hx1.out 9 (.inr (by kernel_rfl))).1;go_simp;refine(Draw.l1Below _ _ _ D1.cu).mono ?_;rintro e wa ⟨y,y0,y1,rfl,cua,ka⟩;go_simp;exact hK.out _ _ ⟨fun _=>D1.drawn cua ka,fun e=>absurd e (by simp [(hx1.out 9 (.inr (by kernel_rfl))).1])⟩ (RegJ.Tell.pure rfl) ⟨y,y0,by omega,rfl⟩
     ·obtain⟨y,y0,y1,j5⟩:=(hJ1.out 5 (by kernel_rfl));rw [j5]at hK;have hwr:IntKind.i64.wrap (1+y)=1+y:=IntWalk.i64_in _ (by omega);go_simp;exact hK.out _ _ hW1 RegJ.Tell.same ⟨1+y,by omega,by omega,rfl⟩
     ·have j3:x 3=_:=(hJ1.out 3 (by kernel_rfl));rw [j3]at hK;obtain⟨y,y0,y1,j6⟩:=(hJ1.out 6 (by kernel_rfl));rw [j6]at hK;have D1:=hW1.1 (hx1.out 9 (.inr (by kernel_rfl))).1;go_simp;refine(Draw.l5Text (W.tx.size:Int) y _ (by omega) (by omega) (by omega) (by omega)).mono ?_;rintro e wa ⟨s,hs,rfl,ba⟩;go_simp;exact hK.out _ _ ⟨fun _=>D1.later ba,fun e=>absurd e (by simp [(hx1.out 9 (.inr (by kernel_rfl))).1])⟩ (RegJ.Tell.pure rfl) ⟨s,by omega,rfl⟩
     ·go_simp;exact hK.out _ _ hW1 RegJ.Tell.same rfl
     ·obtain⟨s,hs,j7⟩:=(hJ1.out 7 (by kernel_rfl));rw [j7]at hK;have j8:x 8=_:=(hJ1.out 8 (by kernel_rfl));rw [j8]at hK;have D1:=hW1.1 (hx1.out 9 (.inl rfl)).1;have q0:=D1.vA.cell (i:=5) rfl;have q1:=D1.vA.free 5;go_simp;exact hK.out undef _ ⟨fun e=>absurd e (by simp),fun _=>⟨_,D1.put5 s hs⟩⟩ (RegJ.Tell.pure rfl) trivial
    obtain⟨a',D'⟩:=hWR.2 (hdR 9 (by simp))
    clear hWR hdR hJR
    go_wp2_with fail
    go_meet
    exact⟨_,D'⟩
   focus
    have e0:=D.vA.cell (i:=0) rfl
    have f0:=D.vA.free 0
    go_upto_region 10 with(fail)
    replace D:=D.put0 1
    clear e0 f0
    generalize wa.setCell ⟨k7,0,none⟩ (.int .i64 1)=wk at *
    generalize ({a with kd:=1}:Ac)=a9 at *
    refine RegJ.wp_region_J (W:=(fun d wr=>(d 9=false→DA c k6 k7 [.slice (some ⟨g,0,none⟩) 3 cH,.slice aR W.rs.length cR,.string W.tx,.int .i64 W.rd,.bool W.en,.bool W.dn,.bool W.sn] [.int .i64 x0.h.g.ba,.string x0.h.g.bs,.int .i64 x0.h.g.cp,.int .i64 x0.h.g.lm,.bool x0.h.g.en,.bool x0.h.g.dn,.int .i64 x0.h.t.nx,.string x0.h.t.bs,.slice x0.aT x0.h.t.l.length x0.cT,.int .i64 x0.h.t.cp,.int .i64 x0.h.t.fi,.bool x0.h.t.en,.slice x0.aW x0.h.ws.length x0.cW] w wr a9)∧(d 9=true→ ∃a':Ac,DA c k6 k7 [.slice (some ⟨g,0,none⟩) 3 cH,.slice aR W.rs.length cR,.string W.tx,.int .i64 W.rd,.bool W.en,.bool W.dn,.bool W.sn] [.int .i64 x0.h.g.ba,.string x0.h.g.bs,.int .i64 x0.h.g.cp,.int .i64 x0.h.g.lm,.bool x0.h.g.en,.bool x0.h.g.dn,.int .i64 x0.h.t.nx,.string x0.h.t.bs,.slice x0.aT x0.h.t.l.length x0.cT,.int .i64 x0.h.t.cp,.int .i64 x0.h.t.fi,.bool x0.h.t.en,.slice x0.aW x0.h.ws.length x0.cW] w wr a'))) (RegJ.Tell (c) [.eq (.pointer (some ⟨w.heap.size,2,none⟩)),.eq (.pointer (some ⟨w.heap.size,2,none⟩)),.eq (.string W.tx),.eq (.int .i64 (W.tx.size:Int)),.eq (.pointer (some ⟨c,0,none⟩)),.int 0 11,.int 1 12,.str 12,.eq (.pointer (some ⟨k7,5,none⟩)),.any]) [some 35,some 36,some 37,some 38,some 39,some 40,some 41,some 42,some 43,none] (F:=?_) (is:=[0,1,2,3,4,5,6,7,8,9]) hmix (by kernel_rfl) (by kernel_rfl) (by kernel_rfl) (by kernel_rfl) (fun x=>?_) (⟨fun _=>D.drew,fun e=>by cases e⟩) ?_ (fun dR xR wR hWR hdR hJR=>?_)
    rotate_left 1
    focus (simp only [RegJ.lay,Act.put,Nat.reduceAdd,Nat.zero_add,Draw.lays];rfl)
    focus
     iterate 10 (refine RegJ.Steps.cons (RegJ.StepAt.mk rfl (fun d x w1 hW1 hJ1 hx1 K hK=>?_)) ?_;simp only [Draw.lays]at hK;rotate_left 1)
     exact RegJ.Steps.nil
     ·go_simp;exact hK.out _ _ hW1 RegJ.Tell.same rfl
     ·have j0:x 0=_:=(hJ1.out 0 (by kernel_rfl));rw [j0]at hK;go_simp;exact hK.out _ _ hW1 RegJ.Tell.same rfl
     ·have j1:x 1=_:=(hJ1.out 1 (by kernel_rfl));rw [j1]at hK;have q0:=(hW1.1 (hx1.out 9 (.inr (by kernel_rfl))).1).vW.cell (i:=2) rfl;go_simp;exact hK.out _ _ hW1 RegJ.Tell.same rfl
     ·have j2:x 2=_:=(hJ1.out 2 (by kernel_rfl));rw [j2]at hK;go_simp;exact hK.out _ _ hW1 RegJ.Tell.same rfl
     ·go_simp;exact hK.out _ _ hW1 RegJ.Tell.same rfl
     ·have j4:x 4=_:=(hJ1.out 4 (by kernel_rfl));rw [j4]at hK;have D1:=hW1.1 (hx1.out 9 (.inr (by kernel_rfl))).1;go_simp;refine(Draw.l1Below _ _ _ D1.cu).mono ?_;rintro e wa ⟨y,y0,y1,rfl,cua,ka⟩;go_simp;exact hK.out _ _ ⟨fun _=>D1.drawn cua ka,fun e=>absurd e (by simp [(hx1.out 9 (.inr (by kernel_rfl))).1])⟩ (RegJ.Tell.pure rfl) ⟨y,y0,by omega,rfl⟩
     ·obtain⟨y,y0,y1,j5⟩:=(hJ1.out 5 (by kernel_rfl));rw [j5]at hK;have hwr:IntKind.i64.wrap (1+y)=1+y:=IntWalk.i64_in _ (by omega);go_simp;exact hK.out _ _ hW1 RegJ.Tell.same ⟨1+y,by omega,by omega,rfl⟩
     ·have j3:x 3=_:=(hJ1.out 3 (by kernel_rfl));rw [j3]at hK;obtain⟨y,y0,y1,j6⟩:=(hJ1.out 6 (by kernel_rfl));rw [j6]at hK;have D1:=hW1.1 (hx1.out 9 (.inr (by kernel_rfl))).1;go_simp;refine(Draw.l5Text (W.tx.size:Int) y _ (by omega) (by omega) (by omega) (by omega)).mono ?_;rintro e wa ⟨s,hs,rfl,ba⟩;go_simp;exact hK.out _ _ ⟨fun _=>D1.later ba,fun e=>absurd e (by simp [(hx1.out 9 (.inr (by kernel_rfl))).1])⟩ (RegJ.Tell.pure rfl) ⟨s,by omega,rfl⟩
     ·go_simp;exact hK.out _ _ hW1 RegJ.Tell.same rfl
     ·obtain⟨s,hs,j7⟩:=(hJ1.out 7 (by kernel_rfl));rw [j7]at hK;have j8:x 8=_:=(hJ1.out 8 (by kernel_rfl));rw [j8]at hK;have D1:=hW1.1 (hx1.out 9 (.inl rfl)).1;have q0:=D1.vA.cell (i:=5) rfl;have q1:=D1.vA.free 5;go_simp;exact hK.out undef _ ⟨fun e=>absurd e (by simp),fun _=>⟨_,D1.put5 s hs⟩⟩ (RegJ.Tell.pure rfl) trivial
    obtain⟨a',D'⟩:=hWR.2 (hdR 9 (by simp))
    clear hWR hdR hJR
    go_wp2_with fail
    go_meet
    exact⟨_,D'⟩
   focus
    have e0:=D.vA.cell (i:=0) rfl
    have f0:=D.vA.free 0
    go_upto_region 14 with(fail)
    replace D:=D.put0 3
    clear e0 f0
    generalize wa.setCell ⟨k7,0,none⟩ (.int .i64 3)=wk at *
    generalize ({a with kd:=3}:Ac)=a9 at *
    refine RegJ.wp_region_J (W:=(fun d wr=>(d 12=false→DA c k6 k7 [.slice (some ⟨g,0,none⟩) 3 cH,.slice aR W.rs.length cR,.string W.tx,.int .i64 W.rd,.bool W.en,.bool W.dn,.bool W.sn] [.int .i64 x0.h.g.ba,.string x0.h.g.bs,.int .i64 x0.h.g.cp,.int .i64 x0.h.g.lm,.bool x0.h.g.en,.bool x0.h.g.dn,.int .i64 x0.h.t.nx,.string x0.h.t.bs,.slice x0.aT x0.h.t.l.length x0.cT,.int .i64 x0.h.t.cp,.int .i64 x0.h.t.fi,.bool x0.h.t.en,.slice x0.aW x0.h.ws.length x0.cW] w wr a9)∧(d 12=true→ ∃a':Ac,DA c k6 k7 [.slice (some ⟨g,0,none⟩) 3 cH,.slice aR W.rs.length cR,.string W.tx,.int .i64 W.rd,.bool W.en,.bool W.dn,.bool W.sn] [.int .i64 x0.h.g.ba,.string x0.h.g.bs,.int .i64 x0.h.g.cp,.int .i64 x0.h.g.lm,.bool x0.h.g.en,.bool x0.h.g.dn,.int .i64 x0.h.t.nx,.string x0.h.t.bs,.slice x0.aT x0.h.t.l.length x0.cT,.int .i64 x0.h.t.cp,.int .i64 x0.h.t.fi,.bool x0.h.t.en,.slice x0.aW x0.h.ws.length x0.cW] w wr a'))) (RegJ.Tell (c) [.eq (.pointer (some ⟨k6,0,none⟩)),.eq (.pointer (some ⟨k6,0,none⟩)),.eq (.int .i64 x0.h.g.ba),.eq (.pointer (some ⟨c,0,none⟩)),.eq (.pointer (some ⟨k6,0,none⟩)),.eq (.pointer (some ⟨k6,1,none⟩)),.eq (.string x0.h.g.bs),.eq (.int .i64 (x0.h.g.bs.size:Int)),.eq (.int .i64 ((x0.h.g.bs.size:Int)+1)),.num,.num,.eq (.pointer (some ⟨k7,3,none⟩)),.any]) [some 48,some 49,some 50,some 51,some 52,some 53,some 54,some 55,some 56,some 57,some 58,some 59,none] (F:=?_) (is:=[0,1,2,3,4,5,6,7,8,9,10,11,12]) hmix (by kernel_rfl) (by kernel_rfl) (by kernel_rfl) (by kernel_rfl) (fun x=>?_) (⟨fun _=>D.drew,fun e=>by cases e⟩) ?_ (fun dR xR wR hWR hdR hJR=>?_)
    rotate_left 1
    focus (simp only [RegJ.lay,Act.put,Nat.reduceAdd,Nat.zero_add,Draw.lays];rfl)
    focus
     iterate 13 (refine RegJ.Steps.cons (RegJ.StepAt.mk rfl (fun d x w1 hW1 hJ1 hx1 K hK=>?_)) ?_;simp only [Draw.lays]at hK;rotate_left 1)
     exact RegJ.Steps.nil
     ·go_simp;exact hK.out _ _ hW1 RegJ.Tell.same rfl
     ·have j0:x 0=_:=(hJ1.out 0 (by kernel_rfl));rw [j0]at hK;go_simp;exact hK.out _ _ hW1 RegJ.Tell.same rfl
     ·have j1:x 1=_:=(hJ1.out 1 (by kernel_rfl));rw [j1]at hK;have q0:=(hW1.1 (hx1.out 12 (.inr (by kernel_rfl))).1).vH.cell (i:=0) rfl;go_simp;exact hK.out _ _ hW1 RegJ.Tell.same rfl
     ·go_simp;exact hK.out _ _ hW1 RegJ.Tell.same rfl
     ·go_simp;exact hK.out _ _ hW1 RegJ.Tell.same rfl
     ·have j4:x 4=_:=(hJ1.out 4 (by kernel_rfl));rw [j4]at hK;go_simp;exact hK.out _ _ hW1 RegJ.Tell.same rfl
     ·have j5:x 5=_:=(hJ1.out 5 (by kernel_rfl));rw [j5]at hK;have q0:=(hW1.1 (hx1.out 12 (.inr (by kernel_rfl))).1).vH.cell (i:=1) rfl;go_simp;exact hK.out _ _ hW1 RegJ.Tell.same rfl
     ·have j6:x 6=_:=(hJ1.out 6 (by kernel_rfl));rw [j6]at hK;go_simp;exact hK.out _ _ hW1 RegJ.Tell.same rfl
     ·have j7:x 7=_:=(hJ1.out 7 (by kernel_rfl));rw [j7]at hK;have hwr:IntKind.i64.wrap ((x0.h.g.bs.size:Int)+1)=(x0.h.g.bs.size:Int)+1:=IntWalk.i64_in _ (by omega);go_simp;exact hK.out _ _ hW1 RegJ.Tell.same rfl
     ·have j3:x 3=_:=(hJ1.out 3 (by kernel_rfl));rw [j3]at hK;have j8:x 8=_:=(hJ1.out 8 (by kernel_rfl));rw [j8]at hK;have D1:=hW1.1 (hx1.out 12 (.inr (by kernel_rfl))).1;go_simp;refine(Draw.l1Below _ _ _ D1.cu).mono ?_;rintro e wa ⟨y,y0,y1,rfl,cua,ka⟩;go_simp;exact hK.out _ _ ⟨fun _=>D1.drawn cua ka,fun e=>absurd e (by simp [(hx1.out 12 (.inr (by kernel_rfl))).1])⟩ (RegJ.Tell.pure rfl) ⟨y,rfl⟩
     ·have j2:x 2=_:=(hJ1.out 2 (by kernel_rfl));rw [j2]at hK;obtain⟨y,j9⟩:=(hJ1.out 9 (by kernel_rfl));rw [j9]at hK;go_simp;exact hK.out _ _ hW1 RegJ.Tell.same ⟨_,rfl⟩
     ·go_simp;exact hK.out _ _ hW1 RegJ.Tell.same rfl
     ·obtain⟨y,j10⟩:=(hJ1.out 10 (by kernel_rfl));rw [j10]at hK;have j11:x 11=_:=(hJ1.out 11 (by kernel_rfl));rw [j11]at hK;have D1:=hW1.1 (hx1.out 12 (.inl rfl)).1;have q0:=D1.vA.cell (i:=3) rfl;have q1:=D1.vA.free 3;go_simp;exact hK.out undef _ ⟨fun e=>absurd e (by simp),fun _=>⟨_,D1.put3 y⟩⟩ (RegJ.Tell.pure rfl) trivial
    obtain⟨a',D'⟩:=hWR.2 (hdR 12 (by simp))
    clear hWR hdR hJR
    go_wp2_with fail
    go_meet
    exact⟨_,D'⟩
   focus
    have e0:=D.vA.cell (i:=0) rfl
    have f0:=D.vA.free 0
    go_upto_region 14 with(fail)
    replace D:=D.put0 3
    clear e0 f0
    generalize wa.setCell ⟨k7,0,none⟩ (.int .i64 3)=wk at *
    generalize ({a with kd:=3}:Ac)=a9 at *
    refine RegJ.wp_region_J (W:=(fun d wr=>(d 12=false→DA c k6 k7 [.slice (some ⟨g,0,none⟩) 3 cH,.slice aR W.rs.length cR,.string W.tx,.int .i64 W.rd,.bool W.en,.bool W.dn,.bool W.sn] [.int .i64 x0.h.g.ba,.string x0.h.g.bs,.int .i64 x0.h.g.cp,.int .i64 x0.h.g.lm,.bool x0.h.g.en,.bool x0.h.g.dn,.int .i64 x0.h.t.nx,.string x0.h.t.bs,.slice x0.aT x0.h.t.l.length x0.cT,.int .i64 x0.h.t.cp,.int .i64 x0.h.t.fi,.bool x0.h.t.en,.slice x0.aW x0.h.ws.length x0.cW] w wr a9)∧(d 12=true→ ∃a':Ac,DA c k6 k7 [.slice (some ⟨g,0,none⟩) 3 cH,.slice aR W.rs.length cR,.string W.tx,.int .i64 W.rd,.bool W.en,.bool W.dn,.bool W.sn] [.int .i64 x0.h.g.ba,.string x0.h.g.bs,.int .i64 x0.h.g.cp,.int .i64 x0.h.g.lm,.bool x0.h.g.en,.bool x0.h.g.dn,.int .i64 x0.h.t.nx,.string x0.h.t.bs,.slice x0.aT x0.h.t.l.length x0.cT,.int .i64 x0.h.t.cp,.int .i64 x0.h.t.fi,.bool x0.h.t.en,.slice x0.aW x0.h.ws.length x0.cW] w wr a'))) (RegJ.Tell (c) [.eq (.pointer (some ⟨k6,0,none⟩)),.eq (.pointer (some ⟨k6,0,none⟩)),.eq (.int .i64 x0.h.g.ba),.eq (.pointer (some ⟨c,0,none⟩)),.eq (.pointer (some ⟨k6,0,none⟩)),.eq (.pointer (some ⟨k6,1,none⟩)),.eq (.string x0.h.g.bs),.eq (.int .i64 (x0.h.g.bs.size:Int)),.eq (.int .i64 ((x0.h.g.bs.size:Int)+1)),.num,.num,.eq (.pointer (some ⟨k7,3,none⟩)),.any]) [some 48,some 49,some 50,some 51,some 52,some 53,some 54,some 55,some 56,some 57,some 58,some 59,none] (F:=?_) (is:=[0,1,2,3,4,5,6,7,8,9,10,11,12]) hmix (by kernel_rfl) (by kernel_rfl) (by kernel_rfl) (by kernel_rfl) (fun x=>?_) (⟨fun _=>D.drew,fun e=>by cases e⟩) ?_ (fun dR xR wR hWR hdR hJR=>?_)
    rotate_left 1
    focus (simp only [RegJ.lay,Act.put,Nat.reduceAdd,Nat.zero_add,Draw.lays];rfl)
    focus
     iterate 13 (refine RegJ.Steps.cons (RegJ.StepAt.mk rfl (fun d x w1 hW1 hJ1 hx1 K hK=>?_)) ?_;simp only [Draw.lays]at hK;rotate_left 1)
     exact RegJ.Steps.nil
     ·go_simp;exact hK.out _ _ hW1 RegJ.Tell.same rfl
     ·have j0:x 0=_:=(hJ1.out 0 (by kernel_rfl));rw [j0]at hK;go_simp;exact hK.out _ _ hW1 RegJ.Tell.same rfl
     ·have j1:x 1=_:=(hJ1.out 1 (by kernel_rfl));rw [j1]at hK;have q0:=(hW1.1 (hx1.out 12 (.inr (by kernel_rfl))).1).vH.cell (i:=0) rfl;go_simp;exact hK.out _ _ hW1 RegJ.Tell.same rfl
     ·go_simp;exact hK.out _ _ hW1 RegJ.Tell.same rfl
     ·go_simp;exact hK.out _ _ hW1 RegJ.Tell.same rfl
     ·have j4:x 4=_:=(hJ1.out 4 (by kernel_rfl));rw [j4]at hK;go_simp;exact hK.out _ _ hW1 RegJ.Tell.same rfl
     ·have j5:x 5=_:=(hJ1.out 5 (by kernel_rfl));rw [j5]at hK;have q0:=(hW1.1 (hx1.out 12 (.inr (by kernel_rfl))).1).vH.cell (i:=1) rfl;go_simp;exact hK.out _ _ hW1 RegJ.Tell.same rfl
     ·have j6:x 6=_:=(hJ1.out 6 (by kernel_rfl));rw [j6]at hK;go_simp;exact hK.out _ _ hW1 RegJ.Tell.same rfl
     ·have j7:x 7=_:=(hJ1.out 7 (by kernel_rfl));rw [j7]at hK;have hwr:IntKind.i64.wrap ((x0.h.g.bs.size:Int)+1)=(x0.h.g.bs.size:Int)+1:=IntWalk.i64_in _ (by omega);go_simp;exact hK.out _ _ hW1 RegJ.Tell.same rfl
     ·have j3:x 3=_:=(hJ1.out 3 (by kernel_rfl));rw [j3]at hK;have j8:x 8=_:=(hJ1.out 8 (by kernel_rfl));rw [j8]at hK;have D1:=hW1.1 (hx1.out 12 (.inr (by kernel_rfl))).1;go_simp;refine(Draw.l1Below _ _ _ D1.cu).mono ?_;rintro e wa ⟨y,y0,y1,rfl,cua,ka⟩;go_simp;exact hK.out _ _ ⟨fun _=>D1.drawn cua ka,fun e=>absurd e (by simp [(hx1.out 12 (.inr (by kernel_rfl))).1])⟩ (RegJ.Tell.pure rfl) ⟨y,rfl⟩
     ·have j2:x 2=_:=(hJ1.out 2 (by kernel_rfl));rw [j2]at hK;obtain⟨y,j9⟩:=(hJ1.out 9 (by kernel_rfl));rw [j9]at hK;go_simp;exact hK.out _ _ hW1 RegJ.Tell.same ⟨_,rfl⟩
     ·go_simp;exact hK.out _ _ hW1 RegJ.Tell.same rfl
     ·obtain⟨y,j10⟩:=(hJ1.out 10 (by kernel_rfl));rw [j10]at hK;have j11:x 11=_:=(hJ1.out 11 (by kernel_rfl));rw [j11]at hK;have D1:=hW1.1 (hx1.out 12 (.inl rfl)).1;have q0:=D1.vA.cell (i:=3) rfl;have q1:=D1.vA.free 3;go_simp;exact hK.out undef _ ⟨fun e=>absurd e (by simp),fun _=>⟨_,D1.put3 y⟩⟩ (RegJ.Tell.pure rfl) trivial
    obtain⟨a',D'⟩:=hWR.2 (hdR 12 (by simp))
    clear hWR hdR hJR
    go_wp2_with fail
    go_meet
    exact⟨_,D'⟩
   focus
    have e0:=D.vA.cell (i:=0) rfl
    have f0:=D.vA.free 0
    go_wp2_with fail
    go_meet
    exact⟨_,D.put0 4⟩
   focus
    have e0:=D.vA.cell (i:=0) rfl
    have f0:=D.vA.free 0
    go_wp2_with fail
    go_meet
    exact⟨_,D.put0 4⟩
   focus
    have e0:=D.vA.cell (i:=0) rfl
    have f0:=D.vA.free 0
    go_upto_region 23 with(fail)
    replace D:=D.put0 5
    clear e0 f0
    generalize wa.setCell ⟨k7,0,none⟩ (.int .i64 5)=wk at *
    have e12:=D.vH.cell (i:=12) rfl
    go_wp2_with fail
    refine(Draw.l1Max _ _ _).mono ?_
    rintro e wm ⟨rfl,rfl⟩
    generalize (if (x0.h.ws.length:Int)<1 then(1:Int)else(x0.h.ws.length:Int))=M
    clear e12
    go_wp2_with fail
    refine(Draw.l1Below _ _ _ D.cu).mono ?_
    rintro e wa ⟨z,z0,z1,rfl,cua,ka⟩
    replace D:=D.drawn cua ka
    clear cua ka
    have e0:=D.vA.cell (i:=4) rfl
    have f0:=D.vA.free 4
    go_wp2_with fail
    go_meet
    exact⟨_,D.put4 z⟩
   focus
    have e0:=D.vA.cell (i:=0) rfl
    have f0:=D.vA.free 0
    go_upto_region 23 with(fail)
    replace D:=D.put0 5
    clear e0 f0
    generalize wa.setCell ⟨k7,0,none⟩ (.int .i64 5)=wk at *
    have e12:=D.vH.cell (i:=12) rfl
    go_wp2_with fail
    refine(Draw.l1Max _ _ _).mono ?_
    rintro e wm ⟨rfl,rfl⟩
    generalize (if (x0.h.ws.length:Int)<1 then(1:Int)else(x0.h.ws.length:Int))=M
    clear e12
    go_wp2_with fail
    refine(Draw.l1Below _ _ _ D.cu).mono ?_
    rintro e wa ⟨z,z0,z1,rfl,cua,ka⟩
    replace D:=D.drawn cua ka
    clear cua ka
    have e0:=D.vA.cell (i:=4) rfl
    have f0:=D.vA.free 4
    go_wp2_with fail
    go_meet
    exact⟨_,D.put4 z⟩
   focus
    have e0:=D.vA.cell (i:=0) rfl
    have f0:=D.vA.free 0
    go_upto_region 23 with(fail)
    replace D:=D.put0 5
    clear e0 f0
    generalize wa.setCell ⟨k7,0,none⟩ (.int .i64 5)=wk at *
    have e12:=D.vH.cell (i:=12) rfl
    go_wp2_with fail
    refine(Draw.l1Max _ _ _).mono ?_
    rintro e wm ⟨rfl,rfl⟩
    generalize (if (x0.h.ws.length:Int)<1 then(1:Int)else(x0.h.ws.length:Int))=M
    clear e12
    go_wp2_with fail
    refine(Draw.l1Below _ _ _ D.cu).mono ?_
    rintro e wa ⟨z,z0,z1,rfl,cua,ka⟩
    replace D:=D.drawn cua ka
    clear cua ka
    have e0:=D.vA.cell (i:=4) rfl
    have f0:=D.vA.free 4
    go_wp2_with fail
    go_meet
    exact⟨_,D.put4 z⟩
   focus
    have e0:=D.vA.cell (i:=0) rfl
    have f0:=D.vA.free 0
    go_upto_region 23 with(fail)
    replace D:=D.put0 5
    clear e0 f0
    generalize wa.setCell ⟨k7,0,none⟩ (.int .i64 5)=wk at *
    have e12:=D.vH.cell (i:=12) rfl
    go_wp2_with fail
    refine(Draw.l1Max _ _ _).mono ?_
    rintro e wm ⟨rfl,rfl⟩
    generalize (if (x0.h.ws.length:Int)<1 then(1:Int)else(x0.h.ws.length:Int))=M
    clear e12
    go_wp2_with fail
    refine(Draw.l1Below _ _ _ D.cu).mono ?_
    rintro e wa ⟨z,z0,z1,rfl,cua,ka⟩
    replace D:=D.drawn cua ka
    clear cua ka
    have e0:=D.vA.cell (i:=4) rfl
    have f0:=D.vA.free 4
    go_wp2_with fail
    go_meet
    exact⟨_,D.put4 z⟩
   focus
    have vb:Var 2 (wa.alloc (.cells #[.int .i64 6,.int .i64 7] 2)) wa.heap.size ([6,7].map (Value.int .i64)):=Var.new wa _
    have hbs:=D.cu.lt
    replace D:=D.alloc (.cells #[.int .i64 6,.int .i64 7] 2)
    go_wp2_with fail
    generalize wa.alloc (.cells #[.int .i64 6,.int .i64 7] 2)=wv at *
    generalize wa.heap.size=kb at *
    refine(Draw.l1Below _ _ _ D.cu).mono ?_
    rintro e wy ⟨z,z0,z1,rfl,cua,ka⟩
    replace vb:=vb.kept ka (by omega)
    replace D:=D.drawn cua ka
    clear cua ka
    replace z1:z<2:=by omega
    obtain⟨m,hm,hcell⟩:=RegJ.int_sat (ns:=[6,7]) vb (i:=z.toNat) (by simp;omega)
    clear vb hm hbs
    have e0:=D.vA.cell (i:=0) rfl
    have f0:=D.vA.free 0
    go_upto_region 26 with(fail)
    replace D:=D.put0 m
    clear e0 f0 hcell
    generalize wy.setCell ⟨k7,0,none⟩ (.int .i64 m)=wk at *
    have e12:=D.vH.cell (i:=12) rfl
    go_wp2_with fail
    refine(Draw.l1Max _ _ _).mono ?_
    rintro e wm ⟨rfl,rfl⟩
    generalize (if (x0.h.ws.length:Int)<1 then(1:Int)else(x0.h.ws.length:Int))=M
    clear e12
    go_wp2_with fail
    refine(Draw.l1Below _ _ _ D.cu).mono ?_
    rintro e wa ⟨z,z0,z1,rfl,cua,ka⟩
    replace D:=D.drawn cua ka
    clear cua ka
    have e0:=D.vA.cell (i:=4) rfl
    have f0:=D.vA.free 4
    go_wp2_with fail
    go_meet
    exact⟨_,D.put4 z⟩
   focus
    have e0:=D.vA.cell (i:=0) rfl
    have f0:=D.vA.free 0
    go_upto_region 29 with(fail)
    replace D:=D.put0 8
    clear e0 f0
    generalize wa.setCell ⟨k7,0,none⟩ (.int .i64 8)=wk at *
    go_wp2_with fail
    refine(Draw.l1Below _ _ _ D.cu).mono ?_
    rintro e wa ⟨z,z0,z1,rfl,cua,ka⟩
    replace D:=D.drawn cua ka
    clear cua ka
    have e0:=D.vA.cell (i:=1) rfl
    have f0:=D.vA.free 1
    go_wp2_with fail
    go_meet
    exact⟨_,D.put1 z⟩
   focus
    have e0:=D.vA.cell (i:=0) rfl
    have f0:=D.vA.free 0
    go_wp2_with fail
    go_meet
    exact⟨_,D.put0 9⟩
   focus
    have vb:Var 2 (wa.alloc (.cells #[.int .i64 10,.int .i64 11,.int .i64 11,.int .i64 2] 2)) wa.heap.size ([10,11,11,2].map (Value.int .i64)):=Var.new wa _
    have hbs:=D.cu.lt
    replace D:=D.alloc (.cells #[.int .i64 10,.int .i64 11,.int .i64 11,.int .i64 2] 2)
    go_wp2_with fail
    generalize wa.alloc (.cells #[.int .i64 10,.int .i64 11,.int .i64 11,.int .i64 2] 2)=wv at *
    generalize wa.heap.size=kb at *
    refine(Draw.l1Below _ _ _ D.cu).mono ?_
    rintro e wy ⟨z,z0,z1,rfl,cua,ka⟩
    replace vb:=vb.kept ka (by omega)
    replace D:=D.drawn cua ka
    clear cua ka
    replace z1:z<4:=by omega
    obtain⟨m,hm,hcell⟩:=RegJ.int_sat (ns:=[10,11,11,2]) vb (i:=z.toNat) (by simp;omega)
    clear vb hm hbs
    have e0:=D.vA.cell (i:=0) rfl
    have f0:=D.vA.free 0
    go_upto_region 34 with(fail)
    replace D:=D.put0 m
    clear e0 f0 hcell
    generalize wy.setCell ⟨k7,0,none⟩ (.int .i64 m)=wk at *
    go_wp2_with fail
    refine(Draw.l1Below _ _ _ D.cu).mono ?_
    rintro e wa ⟨z,z0,z1,rfl,cua,ka⟩
    replace D:=D.drawn cua ka
    clear cua ka
    have e0:=D.vA.cell (i:=4) rfl
    have f0:=D.vA.free 4
    go_wp2_with fail
    go_meet
    exact⟨_,D.put4 z⟩
  case rest=>
   clear D
   obtain⟨a,D⟩:=hcut
   go_wp2_with fail
   refine(Draw.l1Once _ _ _ D.cu).mono ?_
   rintro e wa ⟨b1,rfl,cua,ka⟩
   replace D:=D.drawn cua ka
   clear cua ka
   go_upto_if 113 with(fail)
   go_cut [113]from 114 (fun v wr=> ∃a:Ac,DA c k6 k7 [.slice (some ⟨g,0,none⟩) 3 cH,.slice aR W.rs.length cR,.string W.tx,.int .i64 W.rd,.bool W.en,.bool W.dn,.bool W.sn] [.int .i64 x0.h.g.ba,.string x0.h.g.bs,.int .i64 x0.h.g.cp,.int .i64 x0.h.g.lm,.bool x0.h.g.en,.bool x0.h.g.dn,.int .i64 x0.h.t.nx,.string x0.h.t.bs,.slice x0.aT x0.h.t.l.length x0.cT,.int .i64 x0.h.t.cp,.int .i64 x0.h.t.fi,.bool x0.h.t.en,.slice x0.aW x0.h.ws.length x0.cW] w wr a)
   case first=>
    cases b1
    focus
     go_wp2_with fail
     go_meet
     exact⟨_,D⟩
    focus
     go_wp2_with fail
     refine(Draw.l1Below _ _ _ D.cu).mono ?_
     rintro e wa ⟨y,y0,y1,rfl,cua,ka⟩
     replace D:=D.drawn cua ka
     clear cua ka
     have hy:y=0∨y=1∨y=2∨y=3:=by omega
     clear y0 y1
     rcases hy with rfl|rfl|rfl|rfl
     focus
      have vb:Var 2 (wa.alloc (.cells #[.int .i64 0,.int .i64 12,.int .i64 (-1)] 2)) wa.heap.size ([0,12,-1].map (Value.int .i64)):=Var.new wa _
      have hbs:=D.cu.lt
      replace D:=D.alloc (.cells #[.int .i64 0,.int .i64 12,.int .i64 (-1)] 2)
      go_wp2_with fail
      generalize wa.alloc (.cells #[.int .i64 0,.int .i64 12,.int .i64 (-1)] 2)=wv at *
      generalize wa.heap.size=kb at *
      refine(Draw.l1Below _ _ _ D.cu).mono ?_
      rintro e wy ⟨z,z0,z1,rfl,cua,ka⟩
      replace vb:=vb.kept ka (by omega)
      replace D:=D.drawn cua ka
      clear cua ka
      replace z1:z<3:=by omega
      obtain⟨m,hm,hcell⟩:=RegJ.int_sat (ns:=[0,12,-1]) vb (i:=z.toNat) (by simp;omega)
      clear vb hm hbs
      have e0:=D.vA.cell (i:=0) rfl
      have f0:=D.vA.free 0
      go_wp2_with fail
      go_meet
      exact⟨_,D.put0 m⟩
     focus
      have vb:Var 2 (wa.alloc (.cells #[.int .i64 (-1),.int .i64 2,.int .i64 3] 2)) wa.heap.size ([-1,2,3].map (Value.int .i64)):=Var.new wa _
      have hbs:=D.cu.lt
      replace D:=D.alloc (.cells #[.int .i64 (-1),.int .i64 2,.int .i64 3] 2)
      go_wp2_with fail
      generalize wa.alloc (.cells #[.int .i64 (-1),.int .i64 2,.int .i64 3] 2)=wv at *
      generalize wa.heap.size=kb at *
      refine(Draw.l1Below _ _ _ D.cu).mono ?_
      rintro e wy ⟨z,z0,z1,rfl,cua,ka⟩
      replace vb:=vb.kept ka (by omega)
      replace D:=D.drawn cua ka
      clear cua ka
      replace z1:z<3:=by omega
      obtain⟨m,hm,hcell⟩:=RegJ.int_sat (ns:=[-1,2,3]) vb (i:=z.toNat) (by simp;omega)
      clear vb hm hbs
      have e0:=D.vA.cell (i:=1) rfl
      have f0:=D.vA.free 1
      go_wp2_with fail
      go_meet
      exact⟨_,D.put1 m⟩
     focus
      have vb:Var 2 (wa.alloc (.cells #[.int .i64 (-1),.int .i64 40,.int .i64 400,.int .i64 401] 2)) wa.heap.size ([-1,40,400,401].map (Value.int .i64)):=Var.new wa _
      have hbs:=D.cu.lt
      replace D:=D.alloc (.cells #[.int .i64 (-1),.int .i64 40,.int .i64 400,.int .i64 401] 2)
      go_wp2_with fail
      generalize wa.alloc (.cells #[.int .i64 (-1),.int .i64 40,.int .i64 400,.int .i64 401] 2)=wv at *
      generalize wa.heap.size=kb at *
      refine(Draw.l1Below _ _ _ D.cu).mono ?_
      rintro e wy ⟨z,z0,z1,rfl,cua,ka⟩
      replace vb:=vb.kept ka (by omega)
      replace D:=D.drawn cua ka
      clear cua ka
      replace z1:z<4:=by omega
      obtain⟨m,hm,hcell⟩:=RegJ.int_sat (ns:=[-1,40,400,401]) vb (i:=z.toNat) (by simp;omega)
      clear vb hm hbs
      have e0:=D.vA.cell (i:=4) rfl
      have f0:=D.vA.free 4
      go_wp2_with fail
      go_meet
      exact⟨_,D.put4 m⟩
     focus
      have vb:Var 2 (wa.alloc (.cells #[.int .i64 (-1),.int .i64 1,.int .i64 4] 2)) wa.heap.size ([-1,1,4].map (Value.int .i64)):=Var.new wa _
      have hbs:=D.cu.lt
      replace D:=D.alloc (.cells #[.int .i64 (-1),.int .i64 1,.int .i64 4] 2)
      go_wp2_with fail
      generalize wa.alloc (.cells #[.int .i64 (-1),.int .i64 1,.int .i64 4] 2)=wv at *
      generalize wa.heap.size=kb at *
      refine(Draw.l1Below _ _ _ D.cu).mono ?_
      rintro e wy ⟨z,z0,z1,rfl,cua,ka⟩
      replace vb:=vb.kept ka (by omega)
      replace D:=D.drawn cua ka
      clear cua ka
      replace z1:z<3:=by omega
      obtain⟨m,hm,hcell⟩:=RegJ.int_sat (ns:=[-1,1,4]) vb (i:=z.toNat) (by simp;omega)
      clear vb hm hbs
      have e0:=D.vA.cell (i:=2) rfl
      have f0:=D.vA.free 2
      go_wp2_with fail
      go_meet
      exact⟨_,D.put2 m⟩
   case rest=>
    clear D
    obtain⟨a,D⟩:=hcut
    have e0:=D.vA.cell (i:=0) rfl
    have e1:=D.vA.cell (i:=1) rfl
    have e2:=D.vA.cell (i:=2) rfl
    have e3:=D.vA.cell (i:=3) rfl
    have e4:=D.vA.cell (i:=4) rfl
    have e5:=D.vA.cell (i:=5) rfl
    have d0:=D.vR.cell (i:=0) rfl
    have d1:=D.vR.cell (i:=1) rfl
    have d2:=D.vR.cell (i:=2) rfl
    have d3:=D.vR.cell (i:=3) rfl
    have d4:=D.vR.cell (i:=4) rfl
    have d5:=D.vR.cell (i:=5) rfl
    have f0:=D.vR.free 0
    have f1:=D.vR.free 1
    have f2:=D.vR.free 2
    have f3:=D.vR.free 3
    have f4:=D.vR.free 4
    have f5:=D.vR.free 5
    go_wp2_with fail
    obtain⟨WZ,hWZ⟩: ∃z,Hid (z=(((((wc.setCell ⟨w.heap.size+1,0,none⟩ (.int .i64 a.kd)).setCell ⟨w.heap.size+1,1,none⟩ (.int .i64 a.hp)).setCell ⟨w.heap.size+1,2,none⟩ (.int .i64 a.ro)).setCell ⟨w.heap.size+1,3,none⟩ (.int .i64 a.pl)).setCell ⟨w.heap.size+1,4,none⟩ (.int .i64 a.n)).setCell ⟨w.heap.size+1,5,none⟩ (.string a.tx)):=⟨_,rfl⟩
    have vv:Var 69 WZ (w.heap.size+1) a.c:=by rw [hWZ.out];exact var6 D.vR _ _ _ _ _ _
    have ka:Draw.Kept (w.heap.size+1) wc WZ:=by rw [hWZ.out];exact kept6 _ _ _ _ _ _ _ _
    have cu6:Draw.Cur WZ c:=D.cu.upto (fun i hi=>ka.block i (by have:=D.cu.lt;omega) (by omega))
    have K6:Draw.Kept c w WZ:=⟨ka.os.trans D.K.os,ka.tape.trans D.K.tape,ka.output.trans D.K.output,Nat.le_trans D.K.size ka.size,fun i hi hc=>(ka.block i (Nat.lt_of_lt_of_le hi D.K.size) (by omega)).trans (D.K.block i hi hc)⟩
    have ht:=D.tx
    clear ka
    clear e0 e1 e2 e3 e4 e5 d0 d1 d2 d3 d4 d5 f0 f1 f2 f3 f4 f5 D
    have hWZo:=hWZ.out
    clear hWZ
    subst hWZo
    generalize ((((((wc.setCell ⟨w.heap.size+1,0,none⟩ (.int .i64 a.kd)).setCell ⟨w.heap.size+1,1,none⟩ (.int .i64 a.hp)).setCell ⟨w.heap.size+1,2,none⟩ (.int .i64 a.ro)).setCell ⟨w.heap.size+1,3,none⟩ (.int .i64 a.pl)).setCell ⟨w.heap.size+1,4,none⟩ (.int .i64 a.n)).setCell ⟨w.heap.size+1,5,none⟩ (.string a.tx))=WZ at *
    obtain⟨e0,e1,e2,e3,e4,e5⟩:=vv.c6
    refine bodyPost_ret (v:=a.v) (by rw [Hop.res_one rfl];go_simp) rfl ⟨a,rfl,ht,cu6,K6⟩
end Go.Proofs.YtfejobjgbadfjaaGreat.Wor
