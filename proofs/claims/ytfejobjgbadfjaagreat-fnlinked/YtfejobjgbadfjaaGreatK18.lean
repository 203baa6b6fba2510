/- Contracts of this seat's functions, and their mathematics (LinA LinB WorA WorB). -/
import Derived.Test.YtfejobjgbadfjaaGreatK13
import Derived.Test.YtfejobjgbadfjaaGreatK14
import Derived.Test.YtfejobjgbadfjaaGreatK17
set_option linter.unusedVariables false
set_option linter.unusedSimpArgs false

namespace Go.Proofs.YtfejobjgbadfjaaGreat.Lin
open Go.RowKit RowG Hop
structure Ha where
 h:Hp
 aT:Option Addr
 cT:Nat
 aW:Option Addr
 cW:Nat
abbrev Ha.c (x:Ha):List Value:=x.h.c x.aT x.cT x.aW x.cW
def hopE:El Ha where
 enc x:=x.c
 size:=13
 len _:=rfl
 one x u hu:=by
  simp only [Ha.c,List.mem_cons,List.not_mem_nil,or_false]at hu
  rcases hu with rfl|rfl|rfl|rfl|rfl|rfl|rfl|rfl|rfl|rfl|rfl|rfl|rfl <;>rfl
 pos:=by decide
structure Rows (w:World)(B:Nat)(x:Ha):Prop where
 p:Tak.partE.Own 123 w B x.aT x.cT x.h.t.l
 l:letE.Own 75 w B x.aW x.cW x.h.ws
def Off (x y:Ha):Prop:= ∀p q,x.aW=some p→y.aW=some q→p.block≠q.block
structure LineLay (w:World)(B:Nat)(a:Option Addr)(c:Nat)(xs:List Ha):Prop where
 row:hopE.Own 47 w B a c xs
 rows: ∀x∈xs,Rows w B x
 off: ∀(i j:Nat) (x y:Ha),i≠j→xs[i]? =some x→xs[j]? =some y→Off x y
theorem infoHop:(Tryz.prog.info? 47).map (fun i=>(i.zero,i.size,i.bytes))=some (some (.agg #[.int .i64 0,.string ByteArray.empty,.int .i64 0,.int .i64 0,.bool false,.bool false,.int .i64 0,.string ByteArray.empty,.slice none 0 0,.int .i64 0,.int .i64 0,.bool false,.slice none 0 0]),13,144):=by kernel_rfl
theorem typ:Typ Tryz.prog 24 47 hopE 144:=⟨Tryz.underlying24,by
 obtain⟨i,hi,h0,h1,h2⟩:=info_parts infoHop
 exact⟨i,_,hi,h0,h1,h2,rfl⟩⟩
theorem Rows.later {w w':World}{B:Nat}{x:Ha}(h:Rows w B x)(b:Below w.heap.size w w'):Rows w' B x:=⟨h.p.later b,h.l.later b⟩
theorem LineLay.later {w w':World}{B:Nat}{a:Option Addr}{c:Nat}{xs:List Ha}(h:LineLay w B a c xs)(b:Below w.heap.size w w'):LineLay w' B a c xs:=⟨h.row.later b,fun x hx=>(h.rows x hx).later b,h.off⟩
theorem LineLay.kept {w w':World}{B k:Nat}{a:Option Addr}{c:Nat}{xs:List Ha}(h:LineLay w B a c xs)(b:Draw.Kept k w w')(hk:k<B):LineLay w' B a c xs:=
 ⟨h.row.kept b (fun x hx=>by have:=(h.row.lt x hx).1;omega),fun x hx=>⟨(h.rows x hx).p.kept b (fun y hy=>by have:=((h.rows x hx).p.lt y hy).1;omega),(h.rows x hx).l.kept b (fun y hy=>by have:=((h.rows x hx).l.lt y hy).1;omega)⟩,h.off⟩
theorem LineLay.drew {w:World}{B:Nat}{a:Option Addr}{c:Nat}{xs:List Ha}(h:LineLay w B a c xs):LineLay w.drew B a c xs:=⟨h.row.drew,fun x hx=>⟨(h.rows x hx).p.drew,(h.rows x hx).l.drew⟩,h.off⟩
theorem LineLay.alloc {w:World}{B:Nat}{a:Option Addr}{c:Nat}{xs:List Ha}(h:LineLay w B a c xs)(o:Obj):LineLay (w.alloc o) B a c xs:=h.later ((Below.refl _ _).alloc (Nat.le_refl _) _)
theorem LineLay.mono {w:World}{B B':Nat}{a:Option Addr}{c:Nat}{xs:List Ha}(h:LineLay w B' a c xs)(hB:B≤B'):LineLay w B a c xs:=⟨h.row.mono hB,fun x hx=>⟨(h.rows x hx).p.mono hB,(h.rows x hx).l.mono hB⟩,h.off⟩
theorem LineLay.step {w:World}{B g:Nat}{c:Nat}{xs:List Ha}(L:LineLay w B (some ⟨g,0,none⟩) c xs){i:Nat}{x:Ha}(hx:xs[i]? =some x):
  ∃pre post,Win 47 pre post (i*13) w g x.c∧Rows w B x∧ ∀w' (y:Ha),Win 47 pre post (i*13) w' g y.c→Rows w' B y→Keep g (blk x.aW) w w'→Locd w.heap.size x.aW y.aW→LineLay w' B (some ⟨g,0,none⟩) c (xs.set i y):=by
 obtain⟨pre,post,v,back⟩:=L.row.win hx
 have hxm:=List.mem_of_getElem? hx
 refine⟨pre,post,v,L.rows x hxm,fun w' y v' r' kp loc=>⟨back w' y v',?_,?_⟩⟩
 ·intro z hz
  obtain⟨j,hj,rfl⟩:=List.getElem_of_mem hz
  by_cases e:i=j
  ·subst e
   rw [List.getElem_set_self]
   exact r'
  ·rw [List.getElem_set_ne e]
   have hj':j<xs.length:=by simpa using hj
   have hzj:xs[j]? =some xs[j]:=List.getElem?_eq_getElem hj'
   have R:=L.rows xs[j] (List.getElem_mem hj')
   have hoff:=L.off i j x xs[j] e hx hzj
   have Rx:=L.rows x hxm
   refine⟨R.p.keep kp (own_win (by decide) R.p v) (own_two (by decide) R.p Rx.l),R.l.keep kp (own_win (by decide) R.l v) ?_⟩
   intro q hq e'
   cases hw:x.aW with
   | none=>rw [hw]at e';simp [blk]at e'
   | some p=>
    rw [hw]at e'
    simp only [blk,Option.map_some,Option.some.injEq]at e'
    exact hoff p q hw hq e'.symm
 ·intro j k z u hjk hz hu
  have key: ∀(m:Nat) (t:Ha),i≠m→xs[m]? =some t→Off y t∧Off t y:=by
   intro m t him ht
   have R:=L.rows t (List.mem_of_getElem? ht)
   have hoff:=L.off i m x t him hx ht
   have main:Off y t:=by
    intro p q hp hq
    rcases loc p hp with⟨p',hp',e⟩|e
    ·rw [←e]
     exact hoff p' q hp' hq
    ·have:=(R.l.lt q hq).2
     omega
   exact⟨main,fun p q hp hq=>Ne.symm (main q p hq hp)⟩
  by_cases ej:i=j
  ·subst ej
   have hlen:i<xs.length:=(List.getElem?_eq_some_iff.1 hx).1
   rw [List.getElem?_set_self hlen]at hz
   cases hz
   rw [List.getElem?_set_ne hjk]at hu
   exact(key k u hjk hu).1
  ·rw [List.getElem?_set_ne ej]at hz
   by_cases ek:i=k
   ·subst ek
    have hlen:i<xs.length:=(List.getElem?_eq_some_iff.1 hx).1
    rw [List.getElem?_set_self hlen]at hu
    cases hu
    exact(key j z ej hz).2
   ·rw [List.getElem?_set_ne ek]at hu
    exact L.off j k z u hjk hz hu
structure NT (T:TypeId):Prop where
 h:T≠47
 p:T≠123
 l:T≠75
 r:T≠95
theorem LineLay.keptW {T:TypeId}{pre post:List Value}{ow:Nat}{w w':World}{B k:Nat}{a:Option Addr}{c:Nat}{xs:List Ha}{vs:List Value}(L:LineLay w B a c xs)(v:Win T pre post ow w k vs)(hT:NT T)(b:Draw.Kept k w w'):LineLay w' B a c xs:=
 ⟨L.row.kept b (own_win hT.h L.row v),fun x hx=>⟨(L.rows x hx).p.kept b (own_win hT.p (L.rows x hx).p v),(L.rows x hx).l.kept b (own_win hT.l (L.rows x hx).l v)⟩,L.off⟩
end Go.Proofs.YtfejobjgbadfjaaGreat.Lin
namespace Go.Proofs.YtfejobjgbadfjaaGreat.Wor
open Go.RowKit RowG Hop Roa Pum
structure Wd where
 hs:List Hp
 rs:List Rd
 tx:ByteArray
 rd:Int
 en:Bool
 dn:Bool
 sn:Bool
structure Ac where
 kd:Int
 hp:Int
 ro:Int
 pl:Int
 n:Int
 tx:ByteArray
abbrev Ac.c (a:Ac):List Value:=[.int .i64 a.kd,.int .i64 a.hp,.int .i64 a.ro,.int .i64 a.pl,.int .i64 a.n,.string a.tx]
abbrev Ac.v (a:Ac):Value:=.agg #[.int .i64 a.kd,.int .i64 a.hp,.int .i64 a.ro,.int .i64 a.pl,.int .i64 a.n,.string a.tx]
def roadB (i:Nat)(rs:List Rd)(x:Lt):Bool:=if i=1 then decide (x.rd<(rs.length:Int))else decide (x.rd=0)
def hopsB (hs:List Hp)(rs:List Rd):Bool:=decide (hs.length=3)&&(roadsB rs&&((List.range 3).all fun i=>hopB (hs.getD i zeroH)&&(hs.getD i zeroH).ws.all (roadB i rs)))
def streamB (W:Wd):Bool:=decide (W.tx.size≤2000)&&(decide (0≤W.rd∧W.rd≤(W.tx.size:Int))&&((!W.sn||(W.en&&decide (W.rd=(W.tx.size:Int))))&&(!W.dn||W.en)))
def okW (W:Wd):Bool:=hopsB W.hs W.rs&&streamB W
def Wd.at (W:Wd)(i:Nat):Hp:=W.hs.getD i zeroH
def Wd.put (W:Wd)(i:Nat)(h:Hp):Wd:={W with hs:=W.hs.set i h}
def openB (rs:List Rd)(h road:Int):Bool:=if h=1 then hasB rs road&&(at' rs road.toNat).op else decide (road=0)
def mayB (W:Wd)(i:Nat):Bool:=(W.at i).t.en&&(decide (i=2)||(W.at (i+1)).g.dn)
def pumpW (W:Wd)(i:Nat)(n:Int):Wd×Bool:=
 let k:=moveN (W.at i).t (W.at (i+1)).g n
 let g':=moreG (W.at i).t (W.at (i+1)).g k
 ((W.put i {W.at i with t:=leftT (W.at i).t k}).put (i+1) {W.at (i+1)with g:=g'},decide (0<k)||(g'.en !=(W.at (i+1)).g.en))
def hopW (W:Wd)(a:Ac)(i:Nat):Wd×Bool:=
 if a.kd=3 then(if openB W.rs a.hp a.ro then(W.put i (sendH (W.at i) a.ro a.pl a.n).1,(sendH (W.at i) a.ro a.pl a.n).2)else(W,false))
 else if a.kd=4 then(if openB W.rs a.hp a.ro then(W.put i (tellH (W.at i) a.ro (mayB W i)).1,(tellH (W.at i) a.ro (mayB W i)).2)else(W,false))
 else if a.kd=5 then(match if 0≤a.n then(W.at i).ws[a.n.toNat]? else none with
  | none=>(W,false)
  | some x=>if openB W.rs a.hp x.rd then(W.put i (comeH (W.at i) a.n).1,(comeH (W.at i) a.n).2)else(W,false))
 else if a.kd=6 then(W.put i (outH (W.at i) a.n).1,(outH (W.at i) a.n).2.2)
 else if a.kd=7 then(match if 0≤a.n then(W.at i).ws[a.n.toNat]? else none with
  | none=>(W,false)
  | some x=>(W.put i (postH (W.at i) x),postB (W.at i) x))
 else if a.hp≤1∧0≤a.n∧a.n≤400 then pumpW W i a.n else(W,false)
def tellB (W:Wd)(seen:Bool):Bool:=W.en&& !(seen&&(W.sn||decide (W.rd<(W.tx.size:Int))))&& !(!seen&&W.dn)
def tellW (W:Wd)(seen:Bool):Wd:=if tellB W seen then(if seen then {W with sn:=true}else {W with dn:=true})else W
def readW (W:Wd)(n:Int):Wd×Bool:=
 if n<0 then(W,false)else
 let t:=(W.at 2).t
 let m:=min n (t.bs.size:Int)
 if (W.tx.size:Int)<W.rd+m∨W.tx.extract W.rd.toNat (W.rd+m).toNat≠t.bs.extract 0 m.toNat then(W,false)else
 let W1:Wd:={W.put 2 {W.at 2 with t:=leftT t m}with rd:=W.rd+m}
 let e:=t.en&&decide ((t.bs.size:Int)=m)
 if e then(tellW W1 true,decide (0<m)||tellB W1 true)else(W1,decide (0<m))
def doW (W:Wd)(a:Ac):Wd×Bool:=
 if a.kd=1 then
  let g:=(W.at 0).g
  let W1:=W.put 0 {W.at 0 with g:=(Giv.writeG g a.tx).1}
  let n:=(Giv.writeG g a.tx).2
  if 0<n then(if W.en||decide (2000<(W.tx.size:Int)+n)then(W1,false)else({W1 with tx:=W.tx++a.tx.extract 0 n.toNat},true))else(W1,false)
 else if a.kd=2 then
  if (W.at 0).g.en||W.en then(W,false)else({W.put 0 {W.at 0 with g:={(W.at 0).g with en:=true}}with en:=true},true)
 else if 3≤a.kd∧a.kd≤8 then(if 0≤a.hp∧a.hp≤2 then hopW W a a.hp.toNat else(W,false))
 else if a.kd=9 then readW W a.n
 else if a.kd=10 then({W with rs:=turnL W.rs a.ro (decide (a.n=1))},turnB W.rs a.ro (decide (a.n=1)))
 else if a.kd=11 then(if (W.at 0).g.dn then(tellW W false,tellB W false)else(W,false))
 else(W,false)
def happenW (W:Wd)(a:Ac):Wd×Bool:=if (doW W a).2 then doW W a else(W,false)
theorem hops_iff {hs:List Hp}{rs:List Rd}:hopsB hs rs=true↔hs.length=3∧roadsB rs=true∧ ∀i,i<3→hopB (hs.getD i zeroH)=true∧ ∀x∈(hs.getD i zeroH).ws,roadB i rs x=true:=by
 simp only [hopsB,Bool.and_eq_true,decide_eq_true_eq,List.all_eq_true,List.mem_range]
theorem getD_set {hs:List Hp}{i j:Nat}{h:Hp}(hi:i<hs.length):(hs.set i h).getD j zeroH=if i=j then h else hs.getD j zeroH:=by
 rw [List.getD_eq_getElem?_getD,List.getD_eq_getElem?_getD,List.getElem?_set]
 by_cases e:i=j
 ·rw [if_pos e,if_pos e,if_pos (by omega)]
  rfl
 ·rw [if_neg e,if_neg e]
theorem hops_put {hs:List Hp}{rs:List Rd}(H:hopsB hs rs=true){i:Nat}(hi:i<3){h:Hp}(h1:hopB h=true)(h2: ∀x∈h.ws,roadB i rs x=true):hopsB (hs.set i h) rs=true:=by
 obtain⟨a1,a2,a3⟩:=hops_iff.1 H
 refine hops_iff.2 ⟨by rw [List.length_set];exact a1,a2,fun j hj=>?_⟩
 rw [getD_set (by omega)]
 split
 ·rename_i e
  subst e
  exact⟨h1,h2⟩
 ·exact a3 j hj
end Go.Proofs.YtfejobjgbadfjaaGreat.Wor
namespace Go.Proofs.YtfejobjgbadfjaaGreat.Wor
open Go.RowKit RowG Hop Roa Pum
theorem post_ws {h:Hp}{y x:Lt}(hx:x∈(postH h y).ws):x∈h.ws∨x=y:=by
 unfold postH at hx
 split at hx
 ·simpa using hx
 ·exact .inl hx
theorem send_ws {h:Hp}{r p n:Int}{x:Lt}(hx:x∈(sendH h r p n).1.ws):x∈h.ws∨x.rd=r:=by
 unfold sendH at hx
 split at hx
 ·rcases post_ws hx with q|q
  ·exact .inl q
  ·right;rw [q];rfl
 ·exact .inl hx
theorem tell_ws {h:Hp}{r:Int}{d:Bool}{x:Lt}(hx:x∈(tellH h r d).1.ws):x∈h.ws∨x.rd=r:=by
 rcases post_ws hx with q|q
 ·exact .inl q
 ·right;rw [q];rfl
theorem out_ws {h:Hp}{n:Int}{x:Lt}(hx:x∈(outH h n).1.ws):x∈h.ws:=by
 obtain⟨⟨y,z,is⟩,hR⟩: ∃R,outH h n=R:=⟨_,rfl⟩
 rw [hR]at hx
 cases is
 ·have:y=h:=by
   unfold outH at hR
   split at hR
   ·split at hR
    ·simp at hR
    ·simp only [Prod.mk.injEq]at hR;exact hR.1.symm
   ·simp only [Prod.mk.injEq]at hR;exact hR.1.symm
  rw [this]at hx
  exact hx
 ·exact(outH_in hR).2.2.2.1 x hx
theorem come_ws {h:Hp}{n:Int}{x:Lt}(hx:x∈(comeH h n).1.ws):x∈h.ws:=by
 have key:=@out_ws h n x
 unfold comeH at hx
 obtain⟨⟨y,z,is⟩,hR⟩: ∃R,outH h n=R:=⟨_,rfl⟩
 rw [hR]at hx key
 cases is <;>simp only at hx key
 ·exact key hx
 ·split at hx <;>exact key hx
theorem road_of {i:Nat}{rs:List Rd}{road:Int}{x:Lt}(ho:openB rs (i:Int) road=true)(hx:x.rd=road):roadB i rs x=true:=by
 unfold openB at ho
 unfold roadB
 by_cases e:i=1
 ·subst e
  rw [if_pos (by omega)]at ho
  rw [if_pos rfl]
  simp only [hasB,Bool.and_eq_true,decide_eq_true_eq]at ho
  rw [hx]
  exact decide_eq_true ho.1.2
 ·rw [if_neg (by omega)]at ho
  rw [if_neg e,hx]
  exact ho
theorem stream_iff {W:Wd}:streamB W=true↔W.tx.size≤2000∧(0≤W.rd∧W.rd≤(W.tx.size:Int))∧(W.sn=true→W.en=true∧W.rd=(W.tx.size:Int))∧(W.dn=true→W.en=true):=by
 unfold streamB
 cases W.sn <;>cases W.dn <;>cases W.en <;>simp
theorem ok_parts {W:Wd}:okW W=true↔hopsB W.hs W.rs=true∧streamB W=true:=by simp [okW]
theorem at_ok {W:Wd}(h:hopsB W.hs W.rs=true){i:Nat}(hi:i<3):hopB (W.at i)=true∧ ∀x∈(W.at i).ws,roadB i W.rs x=true:=(hops_iff.1 h).2.2 i hi
theorem ok_put {W:Wd}(h:okW W=true){i:Nat}(hi:i<3){y:Hp}(h1:hopB y=true)(h2: ∀x∈y.ws,roadB i W.rs x=true):okW (W.put i y)=true:=by
 obtain⟨a1,a2⟩:=ok_parts.1 h
 exact ok_parts.2 ⟨hops_put a1 hi h1 h2,a2⟩
theorem ok_pump {W:Wd}(h:okW W=true){i:Nat}(hi:i<2){n:Int}(hn:0≤n):okW (pumpW W i n).1=true:=by
 obtain⟨a1,a2⟩:=ok_parts.1 h
 obtain⟨b1,b2⟩:=at_ok a1 (show i<3 by omega)
 obtain⟨c1,c2⟩:=at_ok a1 (show i+1<3 by omega)
 obtain⟨-,d2,d3,-⟩:=hop_ok b1
 obtain⟨-,e2,-,-⟩:=hop_ok c1
 obtain⟨m0,m1,m2⟩:=move_in (t:=(W.at i).t) (n:=n) e2 hn
 have k1:=ok_put h (show i<3 by omega) (y:={W.at i with t:=leftT (W.at i).t (moveN (W.at i).t (W.at (i+1)).g n)}) (taker_ok b1 (left_ok d3 m0 m1)) b2
 exact ok_put k1 (show i+1<3 by omega) (giver_ok c1 (more_ok e2 hn)) c2
theorem ok_hop {W:Wd}(h:okW W=true){a:Ac}{i:Nat}(hi:i<3)(ha:a.hp=(i:Int)):okW (hopW W a i).1=true:=by
 obtain⟨a1,a2⟩:=ok_parts.1 h
 obtain⟨b1,b2⟩:=at_ok a1 hi
 unfold hopW
 split
 ·split
  ·rename_i ho
   rw [ha]at ho
   exact ok_put h hi (send_ok b1 _ _ _) fun x hx=>(send_ws hx).elim (b2 x) (road_of ho)
  ·exact h
 split
 ·split
  ·rename_i ho
   rw [ha]at ho
   exact ok_put h hi (tell_ok b1 _ _) fun x hx=>(tell_ws hx).elim (b2 x) (road_of ho)
  ·exact h
 split
 ·split
  ·exact h
  ·split
   ·exact ok_put h hi (come_ok b1 _) fun x hx=>b2 x (come_ws hx)
   ·exact h
 split
 ·exact ok_put h hi (out_ok b1 _) fun x hx=>b2 x (out_ws hx)
 split
 ·split
  ·exact h
  ·rename_i y hy
   have hm:y∈(W.at i).ws:=by
    split at hy
    ·exact List.mem_of_getElem? hy
    ·cases hy
   exact ok_put h hi (post_ok b1 _) fun x hx=>(post_ws hx).elim (b2 x) (fun e=>by rw [e];exact b2 y hm)
 split
 ·rename_i q
  exact ok_pump h (by omega) q.2.1
 ·exact h
theorem ok_tell {W:Wd}(h:okW W=true)(seen:Bool):okW (tellW W seen)=true:=by
 obtain⟨a1,a2⟩:=ok_parts.1 h
 obtain⟨b1,b2,b3,b4⟩:=stream_iff.1 a2
 unfold tellW
 split
 ·rename_i hq
  simp only [tellB,Bool.and_eq_true]at hq
  obtain⟨⟨q1,q2⟩,q3⟩:=hq
  cases seen
  ·exact ok_parts.2 ⟨a1,stream_iff.2 ⟨b1,b2,b3,fun _=>q1⟩⟩
  ·refine ok_parts.2 ⟨a1,stream_iff.2 ⟨b1,b2,fun _=>⟨q1,?_⟩,b4⟩⟩
   simp only [Bool.true_and,Bool.not_or,Bool.and_eq_true,Bool.not_eq_true',decide_eq_false_iff_not]at q2
   show W.rd=(W.tx.size:Int)
   omega
 ·exact h
theorem ok_read {W:Wd}(h:okW W=true)(n:Int):okW (readW W n).1=true:=by
 obtain⟨a1,a2⟩:=ok_parts.1 h
 obtain⟨b1,b2⟩:=at_ok a1 (show 2<3 by omega)
 obtain⟨-,d2,d3,-⟩:=hop_ok b1
 obtain⟨s1,s2,s3,s4⟩:=stream_iff.1 a2
 unfold readW
 split
 ·exact h
 rename_i hn
 dsimp only
 split
 ·exact h
 rename_i hq
 have hm0:0≤min n ((W.at 2).t.bs.size:Int):=by omega
 have hm1:min n ((W.at 2).t.bs.size:Int)≤((W.at 2).t.bs.size:Int):=by omega
 have hle:W.rd+min n ((W.at 2).t.bs.size:Int)≤(W.tx.size:Int):=by
  apply Int.not_lt.1
  intro q
  exact hq (.inl q)
 have k1:okW {W.put 2 {W.at 2 with t:=leftT (W.at 2).t (min n ((W.at 2).t.bs.size:Int))}with rd:=W.rd+min n ((W.at 2).t.bs.size:Int)}=true:=by
  refine ok_parts.2 ⟨hops_put a1 (by omega) (taker_ok b1 (left_ok d3 hm0 hm1)) b2,stream_iff.2 ⟨s1,⟨?_,hle⟩,fun q=>⟨(s3 q).1,?_⟩,s4⟩⟩
  ·show 0≤W.rd+_
   omega
  ·have:=(s3 q).2
   show W.rd+_=_
   have hle':W.rd+min n ((W.at 2).t.bs.size:Int)≤(W.tx.size:Int):=hle
   show W.rd+min n ((W.at 2).t.bs.size:Int)=(W.tx.size:Int)
   omega
 split
 ·exact ok_tell k1 true
 ·exact k1
theorem turn_ok {l:List Rd}(h:roadsB l=true)(r:Int)(o:Bool):roadsB (turnL l r o)=true∧(turnL l r o).length=l.length:=by
 cases hb:turnB l r o
 ·have e:turnL l r o=l:=by simp [turnL,h,hb]
  rw [e]
  exact⟨h,rfl⟩
 ·have hk:0≤r∧r<(l.length:Int):=by
   simp only [turnB,hasB,Bool.and_eq_true,decide_eq_true_eq]at hb
   exact hb.2.1
  have e:turnL l r o=l.set r.toNat {at' l r.toNat with op:=o}:=by simp [turnL,h,hb]
  rw [e]
  refine⟨?_,by rw [List.length_set]⟩
  have hr:rdB (at' l r.toNat)=true:=by
   cases q:rdB (at' l r.toNat)
   ·rw [rd_false (by omega) q]at h;cases h
   ·rfl
  simp only [roadsB,Bool.and_eq_true,List.all_eq_true,decide_eq_true_eq,List.length_set]at h ⊢
  refine⟨fun x hx=>?_,h.2⟩
  rcases List.mem_or_eq_of_mem_set hx with q|q
  ·exact h.1 x q
  ·rw [q]
   exact hr
theorem ok_do {W:Wd}(h:okW W=true)(a:Ac):okW (doW W a).1=true:=by
 obtain⟨a1,a2⟩:=ok_parts.1 h
 obtain⟨b1,b2⟩:=at_ok a1 (show 0<3 by omega)
 obtain⟨-,d2,d3,-⟩:=hop_ok b1
 obtain⟨s1,s2,s3,s4⟩:=stream_iff.1 a2
 unfold doW
 split
 ·dsimp only
  have k1:okW (W.put 0 {W.at 0 with g:=(Giv.writeG (W.at 0).g a.tx).1})=true:=ok_put h (by omega) (giver_ok b1 (Giv.write_ok d2 _)) b2
  split
  ·rename_i hn
   split
   ·exact k1
   ·rename_i hq
    simp only [Bool.or_eq_true,decide_eq_true_eq,not_or]at hq
    have hen:W.en=false:=by simpa using hq.1
    have hsz:((W.tx++a.tx.extract 0 (Giv.writeG (W.at 0).g a.tx).2.toNat).size:Int)=(W.tx.size:Int)+(a.tx.extract 0 (Giv.writeG (W.at 0).g a.tx).2.toNat).size:=by simp
    have hes:(a.tx.extract 0 (Giv.writeG (W.at 0).g a.tx).2.toNat).size≤(Giv.writeG (W.at 0).g a.tx).2.toNat:=by simp;omega
    refine ok_parts.2 ⟨(ok_parts.1 k1).1,stream_iff.2 ⟨?_,⟨s2.1,?_⟩,fun q=>absurd (s3 q).1 (by rw [hen];decide),s4⟩⟩
    ·show(W.tx++_).size≤2000
     omega
    ·show W.rd≤((W.tx++_).size:Int)
     omega
  ·exact k1
 split
 ·split
  ·exact h
  ·have k1:okW (W.put 0 {W.at 0 with g:={(W.at 0).g with en:=true}})=true:=by
    refine ok_put h (by omega) (giver_ok b1 ?_) b2
    have:=end_ok d2 true
    rw [Bool.or_true]at this
    exact this
   refine ok_parts.2 ⟨(ok_parts.1 k1).1,stream_iff.2 ⟨s1,s2,fun q=>⟨rfl,(s3 q).2⟩,fun _=>rfl⟩⟩
 split
 ·split
  ·rename_i q
   exact ok_hop h (by omega) (by omega)
  ·exact h
 split
 ·exact ok_read h _
 split
 ·obtain⟨t1,t2⟩:=turn_ok (hops_iff.1 a1).2.1 a.ro (decide (a.n=1))
  refine ok_parts.2 ⟨hops_iff.2 ⟨(hops_iff.1 a1).1,t1,fun i hi=>⟨(at_ok a1 hi).1,fun x hx=>?_⟩⟩,a2⟩
  have:=(at_ok a1 hi).2 x hx
  unfold roadB at this ⊢
  rw [t2]
  exact this
 split
 ·split
  ·exact ok_tell h false
  ·exact h
 ·exact h
theorem ok_happen {W:Wd}(h:okW W=true)(a:Ac):okW (happenW W a).1=true:=by
 unfold happenW
 split
 ·exact ok_do h a
 ·exact h
end Go.Proofs.YtfejobjgbadfjaaGreat.Wor
