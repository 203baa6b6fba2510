/- Contracts of this seat's functions, and their mathematics (HopQ RoaM RoaP RoaQ). -/
import Derived.Test.YtfejobjgbadfjaaGreatK43
import Derived.Test.YtfejobjgbadfjaaGreatK7
import Derived.Test.YtfejobjgbadfjaaGreatK28
import Derived.Test.YtfejobjgbadfjaaGreatK16
import Derived.Test.YtfejobjgbadfjaaGreatK14
import Derived.DeepKeys5
import Derived.WideKeyEntry
import Derived.Maps.RangeRun
import Derived.Maps.RangeWalk
import Derived.Maps.AppendAt
import Derived.Deep.Cut
import Derived.Laws.StructEq
set_option linter.unusedVariables false
set_option linter.unusedSimpArgs false
set_option maxRecDepth 10000
set_option maxHeartbeats 4000000
namespace Go.Proofs.YtfejobjgbadfjaaGreat.Hop
open Go.RowKit RowG
theorem implHopOk (h:Hp)(aT:Option Addr)(cT:Nat)(aW:Option Addr)(cW:Nat)(w:World)(hT:Tak.partE.Lies w aT h.t.l)(hW:letE.Lies w aW h.ws)(hs:h.Sm):
  Calls Tryz.prog 79 #[h.v aT cT aW cW] w fun e w'=>e=.returned (.bool (hopB h))∧Below w.heap.size w w':=by
 obtain⟨V,hV⟩: ∃z,Hid (z=w.alloc (.cells #[.int .i64 h.g.ba,.string h.g.bs,.int .i64 h.g.cp,.int .i64 h.g.lm,.bool h.g.en,.bool h.g.dn,.int .i64 h.t.nx,.string h.t.bs,.slice aT h.t.l.length cT,.int .i64 h.t.cp,.int .i64 h.t.fi,.bool h.t.en,.slice aW h.ws.length cW] 47)):=⟨_,rfl⟩
 have v0:Var 47 V w.heap.size [.int .i64 h.g.ba,.string h.g.bs,.int .i64 h.g.cp,.int .i64 h.g.lm,.bool h.g.en,.bool h.g.dn,.int .i64 h.t.nx,.string h.t.bs,.slice aT h.t.l.length cT,.int .i64 h.t.cp,.int .i64 h.t.fi,.bool h.t.en,.slice aW h.ws.length cW]:=by rw [hV.out];exact Var.new w _
 have BV:Below w.heap.size w V:=by rw [hV.out];exact(Below.refl _ _).alloc (Nat.le_refl _) _
 have lW:=hW.later BV
 have lT:=hT.later BV
 have hwl:=hs.wl
 have hG:=fun w'=>Giv.implGiverOk h.g w' hs.gb
 have HK:Hid _:=fun w' l'=>Tak.implTakerOk h.t.nx h.t.bs aT h.t.l.length cT h.t.cp h.t.fi h.t.en h.t.l w' rfl l' (by have:=hs.tl;omega) hs.tb hs.bd
 dsimp only [Giv.Gv.v]at hG
 go_enter Tryz.func79,Tryz.ntmps79
 go_upto_region 1 with(fail)
 rw [←hV.out]
 clear hV
 obtain⟨e0,e1,e2,e3,e4,e5,e6,e7,e8,e9,e10,e11,e12⟩:=v0.c13
 go_wp2_with fail
 refine(hG _).mono ?_
 rintro e w1 ⟨rfl,b1⟩
 replace v0:=v0.later b1
 replace lW:=lW.later b1
 replace lT:=lT.later b1
 have B1:=BV.trans (b1.mono BV.size)
 clear b1 BV hG e0 e1 e2 e3 e4 e5 e6 e7 e8 e9 e10 e11 e12
 cases hg:h.g.ok
 case false=>
  go_wp2_with fail
  go_ret
  exact⟨Num.ret_bool (by simp [hopB,hg]),B1⟩
 obtain⟨e0,e1,e2,e3,e4,e5,e6,e7,e8,e9,e10,e11,e12⟩:=v0.c13
 go_wp2_with fail
 refine(HK.out _ lT).mono ?_
 rintro e w2 ⟨rfl,b2⟩
 replace v0:=v0.later b2
 replace lW:=lW.later b2
 have B2:=B1.trans (b2.mono B1.size)
 have HTK:Hid (Tak.takerB h.t.nx h.t.bs h.t.l h.t.cp h.t.fi h.t.en=h.t.ok):=rfl
 generalize Tak.takerB h.t.nx h.t.bs h.t.l h.t.cp h.t.fi h.t.en=tk at *
 clear b2 B1 lT HK e0 e1 e2 e3 e4 e5 e6 e7 e8 e9 e10 e11 e12
 cases tk
 case false=>
  go_wp2_with fail
  go_ret
  exact⟨Num.ret_bool (by simp [hopB,hg,←HTK.out]),B2⟩
 have e12:=v0.cell (i:=12) rfl
 by_cases hn:h.ws.length≤30
 case neg=>
  have hn2:(30:Int)<(h.ws.length:Int):=by omega
  have hn3: ¬(h.ws.length:Int)≤30:=by omega
  go_wp2_with fail
  go_ret
  exact⟨Num.ret_bool (by simp [hopB,hg,←HTK.out,hn]),B2⟩
 have hn2: ¬(30:Int)<(h.ws.length:Int):=by omega
 have hn3:(h.ws.length:Int)≤30:=by omega
 go_wp2_with fail
 go_loopw [24,4] (fun iv pv wr=> ∃j:Nat,j≤h.ws.length∧iv=.int .i64 j∧Hid ((h.ws.take j).all letB=true)∧Below w2.heap.size w2 wr) (fun iv _ _=>h.ws.length-(intOf iv).toNat)
 case atStart=>exact⟨0,Nat.zero_le _,rfl,by show _=_;simp,Below.refl _ _⟩
 case round=>
  clear e12
  obtain⟨j,hj,rfl,hall,hB⟩:=hrel
  have lW2:=lW.later hB
  by_cases hjl:j<h.ws.length
  case pos=>
   obtain⟨x,hx⟩: ∃x,h.ws[j]? =some x:=⟨h.ws[j],List.getElem?_eq_getElem hjl⟩
   have hL:=fun w'=>isLetter x w' (hs.wb x (List.mem_of_getElem? hx))
   dsimp only [Lt.v]at hL
   rcases lW2 with hL1|⟨b,off,ha',hL1⟩
   ·simp [hL1]at hjl
   have c0:wr.cell? ⟨b,off+j*7,none⟩=some (.bool x.bk):=El.Lies.cell hL1 hx (j:=0) rfl
   have c1:wr.cell? ⟨b,off+j*7+1,none⟩=some (.int .i64 x.rd):=El.Lies.cell hL1 hx (j:=1) rfl
   have c2:wr.cell? ⟨b,off+j*7+2,none⟩=some (.int .i64 x.pl):=El.Lies.cell hL1 hx (j:=2) rfl
   have c3:wr.cell? ⟨b,off+j*7+3,none⟩=some (.string x.bs):=El.Lies.cell hL1 hx (j:=3) rfl
   have c4:wr.cell? ⟨b,off+j*7+4,none⟩=some (.bool x.en):=El.Lies.cell hL1 hx (j:=4) rfl
   have c5:wr.cell? ⟨b,off+j*7+5,none⟩=some (.int .i64 x.lm):=El.Lies.cell hL1 hx (j:=5) rfl
   have c6:wr.cell? ⟨b,off+j*7+6,none⟩=some (.bool x.dn):=El.Lies.cell hL1 hx (j:=6) rfl
   have i0:(0:Int)≤(j:Int):=by omega
   have i1:(j:Int)<(h.ws.length:Int):=by omega
   have HN:Hid ((h.ws.take (j+1)).all letB=letB x):=by show _=_;rw [all_take hx,hall.out,Bool.true_and]
   have HF:Hid (letB x=false→hopB h=false):=fun q=>by
    have:h.ws.all letB=false:=by
     rw [List.all_eq_false]
     exact⟨x,List.mem_of_getElem? hx,by rw [q];decide⟩
    simp [hopB,this]
   have BA:Below w2.heap.size w2 (wr.alloc (.cells #[.bool x.bk,.int .i64 x.rd,.int .i64 x.pl,.string x.bs,.bool x.en,.int .i64 x.lm,.bool x.dn] 75)):=hB.alloc hB.size _
   clear hL1 hx hall
   subst ha'
   go_wp2_with fail
   refine(hL _).mono ?_
   rintro e w3 ⟨rfl,b3⟩
   have B3:=BA.trans (b3.mono BA.size)
   clear b3 hB BA hL c0 c1 c2 c3 c4 c5 c6
   cases hb:letB x
   case false=>
    go_wp2_with fail
    go_ret
    exact⟨Num.ret_bool (HF.out hb).symm,B2.trans (B3.mono B2.size)⟩
   case true=>
    go_wp2_with fail
    go_roundw
    case rel=>exact⟨j+1,by omega,by go_num,by show _=_;rw [HN.out,hb],B3⟩
    case measure=>simp [intOf];omega
  case neg=>
   have hje:j=h.ws.length:=by omega
   subst hje
   have HA:Hid (h.ws.all letB=true):=by have:=hall.out;rw [List.take_length]at this;exact this
   have i1: ¬(h.ws.length:Int)<(h.ws.length:Int):=by omega
   go_wp2_with fail
   go_ret
   exact⟨Num.ret_bool (by simp [hopB,hg,←HTK.out,HA.out,hn]),B2.trans (hB.mono B2.size)⟩
end Go.Proofs.YtfejobjgbadfjaaGreat.Hop
namespace Go.Proofs.YtfejobjgbadfjaaGreat.Roa
open Go.RowKit RowG
theorem keyLaw:WideMaps.KeyLaw Tryz.prog 95:=deep_law_gate (by kernel_rfl) (Nat.le_of_ble_eq_true (by kernel_rfl)) (Nat.le_of_ble_eq_true (by kernel_rfl)) (by kernel_rfl) (by kernel_rfl)
theorem wf_pl {n:Int}(h0:0≤n)(h1:n≤1000000000):(Lit.int .i64 n).wf=true:=WalkArith.wf_i64 (by omega)
theorem keyRoad (r:Rd)(h:rdB r=true): ∃l,keyOf Tryz.prog 95 r.v=some l:=by
 obtain⟨o,co,se,lo⟩:=r
 simp only [rdB,Bool.and_eq_true,decide_eq_true_eq,Num.plB]at h
 have w1:=wf_pl (n:=co) (by omega) (by omega)
 have w2:=wf_pl (n:=se) (by omega) (by omega)
 have w3:=wf_pl (n:=lo) (by omega) (by omega)
 have hu:=Tryz.underlying95
 have ub:Tryz.prog.underlying 4=some .bool:=by kernel_rfl
 have ui:Tryz.prog.underlying 2=some (.int .i64):=by kernel_rfl
 have cb:Tryz.prog.cellsOf 4=1:=by kernel_rfl
 have ci:Tryz.prog.cellsOf 2=1:=by kernel_rfl
 have cr:Tryz.prog.cellsOf 95=4:=by kernel_rfl
 have hk:Tryz.prog.keyType 95=true:=by kernel_rfl
 have hf:(Rd.v ⟨o,co,se,lo⟩).formed Tryz.prog 95=true:=by
  simp [Value.formed,hu,cr]
 have e1: ∀d,Tryz.prog.keyLits (d+1) 4 [.bool o]=some [.bool o]:=fun d=>by simp [Program.keyLits,ub]
 have e2: ∀d n,(Lit.int .i64 n).wf=true→Tryz.prog.keyLits (d+1) 2 [.int .i64 n]=some [.int .i64 n]:=fun d n hw=>by simp [Program.keyLits,ui,hw]
 have e3: ∀d,Tryz.prog.keyLits (d+1+1) 95 [.bool o,.int .i64 co,.int .i64 se,.int .i64 lo]=some [.bool o,.int .i64 co,.int .i64 se,.int .i64 lo]:=fun d=>by
  unfold Program.keyLits
  rw [hu]
  simp [cr,cb,ci,e1,e2 _ _ w1,e2 _ _ w2,e2 _ _ w3]
 obtain⟨d,hd⟩: ∃d,Tryz.prog.types.size=d+1:=⟨Tryz.prog.types.size-1,by kernel_rfl⟩
 refine⟨.string (keyBytes [.bool o,.int .i64 co,.int .i64 se,.int .i64 lo]),?_⟩
 unfold keyOf
 rw [hu]
 simp only [hk,hf,Bool.and_self,if_true]
 show Option.map _ (Tryz.prog.keyLits (Tryz.prog.types.size+1) 95 [.bool o,.int .i64 co,.int .i64 se,.int .i64 lo])=_
 rw [hd,e3]
 rfl
theorem Rd.v_inj {a b:Rd}(h:a.v=b.v):a=b:=by
 cases a;cases b
 simp [Rd.v]at h
 simp [h]
structure Gr where
 key:Rd
 ns:List Int
 g:Nat
 c:Nat
def Gr.val (x:Gr):Value:=.slice (some ⟨x.g,0,none⟩) x.ns.length x.c
def ent (i:Nat)(x:Gr):MapEntry:=⟨x.key.v,x.val,i⟩
def ents:Nat→List Gr→List MapEntry
 | _,[]=>[]
 | k,x::G=>ent k x::ents (k+1) G
theorem ents_len: ∀(G:List Gr) (k:Nat),(ents k G).length=G.length
 | [],_=>rfl
 | x::G,k=>by simp [ents,ents_len G (k+1)]
theorem ents_at: ∀(G:List Gr) (k i:Nat),(ents k G)[i]? =G[i]?.map (ent (k+i))
 | [],k,i=>by simp [ents]
 | x::G,k,0=>by simp [ents]
 | x::G,k,i+1=>by
  simp only [ents,List.getElem?_cons_succ]
  rw [ents_at G (k+1) i,show k+1+i=k+(i+1) by omega]
theorem ents_append: ∀(G:List Gr) (k:Nat) (x:Gr),ents k (G++[x])=ents k G++[ent (k+G.length) x]
 | [],k,x=>by simp [ents]
 | y::G,k,x=>by
  simp only [List.cons_append,ents,List.length_cons]
  rw [ents_append G (k+1) x,show k+1+G.length=k+(G.length+1) by omega]
theorem ents_set (G:List Gr)(k j:Nat)(x:Gr):ents k (G.set j x)=(ents k G).set j (ent (k+j) x):=by
 apply List.ext_getElem?
 intro i
 rw [ents_at,List.getElem?_set,List.getElem?_set,ents_at,ents_len]
 by_cases e:j=i
 ·subst e
  by_cases h:j<G.length <;>simp [h]
 ·simp [e]
theorem ents_mem {G:List Gr}{k:Nat}{e:MapEntry}(h:e∈ents k G): ∃i x,G[i]? =some x∧e=ent (k+i) x:=by
 obtain⟨i,hi⟩:=List.mem_iff_getElem?.1 h
 rw [ents_at]at hi
 cases q:G[i]? with
 | none=>rw [q]at hi;simp at hi
 | some x=>rw [q]at hi;exact⟨i,x,q,by simpa using hi.symm⟩
theorem ents_born: ∀(G:List Gr) (k:Nat),(ents k G).map (·.born)=List.range' k G.length
 | [],k=>rfl
 | x::G,k=>by simp [ents,ent,ents_born G (k+1),List.range'_succ]
structure MapAt (w:World)(B b:Nat)(G:List Gr)(m:Nat):Prop where
 blk:w.heap[b]? =some (.map (ents 0 G).toArray m)
 own: ∀x∈G,EI.Own 2 w B (some ⟨x.g,0,none⟩) x.c x.ns
 apart:G.Pairwise (fun x y=>x.g≠y.g)
 keys:G.Pairwise (fun x y=>x.key≠y.key)
 right: ∀x∈G,rdB x.key=true
 clock:G.length≤m
theorem MapAt.later {w w':World}{B b m:Nat}{G:List Gr}(h:MapAt w B b G m)(hb:Below w.heap.size w w'):MapAt w' B b G m:=
 ⟨(hb.block b (Array.getElem?_eq_some_iff.1 h.blk).1).trans h.blk,fun x hx=>(h.own x hx).later hb,h.apart,h.keys,h.right,h.clock⟩
theorem MapAt.alloc {w:World}{B b m:Nat}{G:List Gr}(h:MapAt w B b G m)(o:Obj):MapAt (w.alloc o) B b G m:=
 ⟨(Below.heap_alloc _ _ _ (Array.getElem?_eq_some_iff.1 h.blk).1).trans h.blk,fun x hx=>(h.own x hx).alloc o,h.apart,h.keys,h.right,h.clock⟩
theorem MapAt.lt {w:World}{B b m:Nat}{G:List Gr}(h:MapAt w B b G m):b<w.heap.size:=(Array.getElem?_eq_some_iff.1 h.blk).1
theorem MapAt.ne {w:World}{B b m:Nat}{G:List Gr}(h:MapAt w B b G m){x:Gr}(hx:x∈G):x.g≠b:=by
 intro e
 obtain⟨cs,hcs⟩:=own_rowS (h.own x hx)
 have:=h.blk
 rw [←e,hcs]at this
 cases this
theorem mapAt_new (w:World)(B:Nat):MapAt (w.alloc (.map #[] 0)) B w.heap.size [] 0:=
 ⟨heap_alloc_new w _,fun x hx=>by simp at hx,List.Pairwise.nil,List.Pairwise.nil,fun x hx=>by simp at hx,Nat.le_refl _⟩
theorem setBlock_same {w:World}{b:Nat}{o:Obj}(h:w.heap[b]? =some o):ChangeMaps.setBlock w b o=w:=by
 have e:w.heap.setIfInBounds b o=w.heap:=by
  apply Array.ext_getElem?
  intro i
  rw [Array.getElem?_setIfInBounds]
  by_cases q:b=i
  ·subst q
   obtain⟨lt,e⟩:=Array.getElem?_eq_some_iff.1 h
   simp [lt]
   exact e.symm
  ·simp [q]
 unfold ChangeMaps.setBlock
 rw [e]
theorem setBlock_grown {w:World}{b:Nat}{o o':Obj}(h:w.heap[b]? =some o):w.grownBy (ChangeMaps.setBlock w b o') (some b)∧(ChangeMaps.setBlock w b o').heap[b]? =some o'∧(ChangeMaps.setBlock w b o').heap.size=w.heap.size:=by
 refine⟨⟨rfl,rfl,rfl,by simp [ChangeMaps.setBlock],fun i hi hne=>(MapKept.heap_set h).2 i (fun e=>hne (by rw [e]))⟩,(MapKept.heap_set h).1,by simp [ChangeMaps.setBlock]⟩
theorem run_entry_old {w:World}{B b m:Nat}{G:List Gr}(h:MapAt w B b G m){r:Rd}{j:Nat}{x:Gr}(hj:G[j]? =some x)(hr:x.key=r):
  (Instr.mapEntry 119 (.map (some b)) r.v).run Tryz.prog w=.ok (.tuple #[x.val,goInt j]) w:=by
 subst hr
 have hu:=Tryz.underlying119
 obtain⟨kl,hkey⟩:=keyRoad x.key (h.right x (List.mem_of_getElem? hj))
 have hall: ∀e∈(ents 0 G).toArray.toList,∃l,keyOf Tryz.prog 95 e.key=some l:=by
  intro e he
  obtain⟨i,y,hi,rfl⟩:=ents_mem (by simpa using he)
  exact keyRoad y.key (h.right y (List.mem_of_getElem? hi))
 have hat:(ents 0 G)[j]? =some (ent j x):=by rw [ents_at,hj];simp
 rcases keyLaw.find w hkey _ hall with⟨h1,h2⟩|⟨i,e,h1,h2,h3⟩
 ·exact absurd rfl (h2 (ent j x) (by simpa using List.mem_of_getElem? hat))
 ·have h2':(ents 0 G)[i]? =some e:=by simpa using h2
  rw [ents_at]at h2'
  cases q:G[i]? with
  | none=>rw [q]at h2';simp at h2'
  | some y=>
   rw [q]at h2'
   have e1:e=ent i y:=by simpa using h2'.symm
   subst e1
   have hk:y.key=x.key:=Rd.v_inj h3
   have hij:i=j:=by
    have hi':=(List.getElem?_eq_some_iff.1 q)
    have hj':=(List.getElem?_eq_some_iff.1 hj)
    obtain⟨li,ei⟩:=hi'
    obtain⟨lj,ej⟩:=hj'
    have hp:=List.pairwise_iff_getElem.1 h.keys
    rcases Nat.lt_trichotomy i j with q1|q1|q1
    ·exact absurd (by rw [ei,ej];exact hk) (hp i j li lj q1)
    ·exact q1
    ·exact absurd (by rw [ei,ej];exact hk.symm) (hp j i lj li q1)
   subst hij
   rw [hj]at q
   cases q
   have hsame:(ents 0 G).modify i (fun e=>{e with key:=x.key.v})=ents 0 G:=by
    apply List.ext_getElem?
    intro t
    rw [List.getElem?_modify]
    by_cases q:i=t
    ·subst q;rw [hat];simp [ent]
    ·simp [q]
   have hst:=keyLaw.stays w hkey
   have hrun:(Instr.mapEntry 119 (.map (some b)) x.key.v).run Tryz.prog w=.ok (.tuple #[x.val,goInt i]) (ChangeMaps.setBlock w b (.map (ents 0 G).toArray m)):=by
    simp [Instr.mapEntry,run_underlying hu,MapKept.run_getObj_map h.blk,keyLaw.check w false hkey,h1,hat,h3,ent,hst,hsame,MapKept.run_setObj_map _ h.blk,Result.andThen,ChangeMaps.setBlock]
   rw [setBlock_same h.blk]at hrun
   exact hrun
theorem zeroRow (w:World):(zeroValue 56).run Tryz.prog w=.ok (.slice none 0 0) w:=by kernel_rfl
theorem run_entry_new {w:World}{B b m:Nat}{G:List Gr}(h:MapAt w B b G m){r:Rd}(hright:rdB r=true)(hr: ∀x∈G,x.key≠r):
  (Instr.mapEntry 119 (.map (some b)) r.v).run Tryz.prog w=.ok (.tuple #[.slice none 0 0,goInt m]) (ChangeMaps.setBlock w b (.map (ents 0 G++[({key:=r.v,val:=.slice none 0 0,born:=m}:MapEntry)]).toArray (m+1))):=by
 have hu:=Tryz.underlying119
 obtain⟨kl,hkey⟩:=keyRoad r hright
 have hall: ∀e∈(ents 0 G).toArray.toList,∃l,keyOf Tryz.prog 95 e.key=some l:=by
  intro e he
  obtain⟨i,y,hi,rfl⟩:=ents_mem (by simpa using he)
  exact keyRoad y.key (h.right y (List.mem_of_getElem? hi))
 rcases keyLaw.find w hkey _ hall with⟨h1,h2⟩|⟨i,e,h1,h2,h3⟩
 ·simp [Instr.mapEntry,run_underlying hu,MapKept.run_getObj_map h.blk,keyLaw.check w false hkey,h1,zeroRow,MapKept.run_setObj_map _ h.blk,Result.andThen,ChangeMaps.setBlock]
 ·have h2':(ents 0 G)[i]? =some e:=by simpa using h2
  obtain⟨t,y,ht,rfl⟩:=ents_mem (List.mem_of_getElem? h2')
  exact absurd (Rd.v_inj h3) (hr y (List.mem_of_getElem? ht))
theorem run_store {w:World}{b m j:Nat}{es:List MapEntry}(h:w.heap[b]? =some (.map es.toArray m))(hborn:es.map (·.born)=List.range' 0 es.length)(hj:j<es.length)(t:TypeId)(v:Value):
  (Instr.entryStore t (.map (some b)) (goInt j) v).run Tryz.prog w=.ok () (ChangeMaps.setBlock w b (.map (es.modify j fun e=>{e with val:=v}).toArray m)):=by
 have hb:es[j].born=j:=by
  have:(es.map (·.born))[j]? =some j:=by rw [hborn,List.getElem?_range' (by exact hj)];simp
  rw [List.getElem?_map,List.getElem?_eq_getElem hj]at this
  simpa using this
 have hidx:es.toArray.findIdx? (fun e=>((e.born:Nat):Int)==((j:Nat):Int))=some j:=by
  rw [WideElems.findIdx_arr]
  have:=WideElems.findIdx_born (l:=es) (by rw [hborn];exact List.nodup_range') (j:=j) (e0:=es[j]) (List.getElem?_eq_getElem hj)
  rw [hb]at this
  exact this
 have hmod:es.toArray.modify j (fun e=>{e with val:=v})=(es.modify j fun e=>{e with val:=v}).toArray:=by simp
 simp [Instr.entryStore,MapKept.run_getObj_map h,asInt,asIntOf,goInt,hidx,MapKept.run_setObj_map _ h,Result.andThen,ChangeMaps.setBlock]
theorem wpList_appL {α:Type}{E:El α}{P:Program}{tS T:TypeId}{bytes:Nat}(ty:Typ P tS T E bytes)(hby:bytes≤1024){w:World}{ops:Array Oper}{rest:List Oper}{o:Oper}{a:Act}{Q:Exit→Act→World→Prop}(hgd:o.guard=none)(s x:Operand)
  (ho:o.op=.call {callee:=.builtin .append,args:= #[s,x],argTypes:= #[tS,tS]})
  (B:Nat) (ao:Option Addr) (c n:Nat) (l1 l2:List α) (hn:n=l1.length) (hs:a.eval s=.slice ao n c) (hown:E.Own T w B ao c l1) (hB:B≤w.heap.size)
  (sp:Addr) (m cap:Nat) (hm:m=l2.length) (hx:a.eval x=.slice (some sp) m cap) (hsp:E.Lies w (some sp) l2) (h2:l2≠ []) (hl:l1.length+l2.length≤4194304)
  (h: ∀g' c' w',E.Own T w' B (some ⟨g',0,none⟩) c' (l1++l2)→w.grownBy w' (blk ao)→(some g'=blk ao∨g'=w.heap.size)→wpList P ops Q rest (a.put o.dst (.slice (some ⟨g',0,none⟩) (n+m) c')) w'):wpList P ops Q (o::rest) a w:=by
 subst hn hm
 obtain⟨hu,i,z,hi,hz0,hz1,hz2,hz3⟩:=ty
 refine wpList_append_own_at w hgd s x tS ho B T i z E.size bytes hu hi hz0 hz1 hz2 hz3 E.pos _ l1.length (E.vals l1) hs hown sp l2.length cap (E.vals l2) hx (E.vals_len l2) (hsp.src rfl) (E.vals_cells l2) (by unfold maxLen;omega) ?_ hB ?_
 ·have:(l1.length+l2.length)*bytes≤4194304*1024:=Nat.mul_le_mul hl hby
  omega
 ·intro v' w' h1 h3 h4 h5
  rw [own_blk]at h3 h5
  rcases h1.2 with⟨hv,q⟩|⟨g',cap',cur,hv,_⟩
  ·have:l2.length=0:=by omega
   exact absurd (List.eq_nil_of_length_eq_zero this) h2
  ·subst hv
   refine h _ cap' w' ?_ h3 ?_
   ·unfold El.Own
    rw [List.length_append,E.vals_append]
    exact h1
   ·rcases h5 with q|q
    ·exact .inl q
    ·exact .inr (by simpa [Value.ownBlock]using q)
theorem ents_modify {G:List Gr}{k j:Nat}{x:Gr}(hj:G[j]? =some x)(ns:List Int)(g c:Nat):(ents k G).modify j (fun e=>{e with val:=.slice (some ⟨g,0,none⟩) ns.length c})=ents k (G.set j ⟨x.key,ns,g,c⟩):=by
 rw [ents_set]
 apply List.ext_getElem?
 intro i
 rw [List.getElem?_modify,List.getElem?_set]
 by_cases e:j=i
 ·subst e
  have hl:=(List.getElem?_eq_some_iff.1 hj).1
  rw [ents_at,hj,if_pos rfl,if_pos (by rw [ents_len];exact hl)]
  simp [ent,Gr.val]
 ·simp [e]
theorem own_setBlock {α:Type}{E:El α}{T:TypeId}{w:World}{B b c:Nat}{g:Nat}{l:List α}{o o':Obj}(h:E.Own T w B (some ⟨g,0,none⟩) c l)(hb:w.heap[b]? =some o)(hne:g≠b):E.Own T (ChangeMaps.setBlock w b o') B (some ⟨g,0,none⟩) c l:=
 h.grown (setBlock_grown hb).1 (fun x hx=>by cases hx;simpa using hne)
theorem MapAt.put_old {w w3:World}{B b m j:Nat}{G:List Gr}{x:Gr}(h:MapAt w B b G m)(hj:G[j]? =some x)(gr:w.grownBy w3 (some x.g)){g c:Nat}{ns:List Int}(own3:EI.Own 2 w3 B (some ⟨g,0,none⟩) c ns)(loc:g=x.g∨g=w.heap.size):
  w3.heap[b]? =some (.map (ents 0 G).toArray m)∧MapAt (ChangeMaps.setBlock w3 b (.map ((ents 0 G).modify j fun e=>{e with val:=.slice (some ⟨g,0,none⟩) ns.length c}).toArray m)) B b (G.set j ⟨x.key,ns,g,c⟩) m:=by
 have hx:=List.mem_of_getElem? hj
 have hb3:w3.heap[b]? =some (.map (ents 0 G).toArray m):=(gr.block b h.lt (fun e=>h.ne hx (by simpa using e.symm))).trans h.blk
 have hlj:=(List.getElem?_eq_some_iff.1 hj).1
 have hgl: ∀y∈G,y.g<w.heap.size:=fun y hy=>((h.own y hy).lt _ rfl).2
 have hgb:g≠b:=by
  rcases loc with e|e
  ·rw [e];exact h.ne hx
  ·have:=h.lt;omega
 have hoth: ∀i y,G[i]? =some y→i≠j→y.g≠x.g:=by
  intro i y hi hne
  have hli:=(List.getElem?_eq_some_iff.1 hi).1
  have e1:=(List.getElem?_eq_some_iff.1 hi).2
  have e2:=(List.getElem?_eq_some_iff.1 hj).2
  have hp:=List.pairwise_iff_getElem.1 h.apart
  rcases Nat.lt_or_gt_of_ne hne with q|q
  ·have:=hp i j hli hlj q;rw [e1,e2]at this;exact this
  ·have:=hp j i hlj hli q;rw [e1,e2]at this;exact Ne.symm this
 have hset: ∀i y,(G.set j ⟨x.key,ns,g,c⟩)[i]? =some y→(i=j∧y=⟨x.key,ns,g,c⟩)∨(i≠j∧G[i]? =some y):=by
  intro i y hi
  rw [List.getElem?_set]at hi
  by_cases e:j=i
  ·subst e;rw [if_pos rfl,if_pos hlj]at hi;exact .inl ⟨rfl,by simpa using hi.symm⟩
  ·rw [if_neg e]at hi;exact .inr ⟨fun q=>e q.symm,hi⟩
 refine⟨hb3,?_,?_,?_,?_,?_,?_⟩
 ·rw [(setBlock_grown hb3).2.1,ents_modify hj]
 ·intro y hy
  obtain⟨i,hi⟩:=List.mem_iff_getElem?.1 hy
  rcases hset i y hi with⟨_,rfl⟩|⟨hne,hi'⟩
  ·exact own_setBlock own3 hb3 hgb
  ·have hy':=List.mem_of_getElem? hi'
   refine own_setBlock ((h.own y hy').grown gr (fun z hz=>by cases hz;simpa using hoth i y hi' hne)) hb3 (h.ne hy')
 ·rw [List.pairwise_iff_getElem]
  intro i i' hi hi' hlt
  have q1:=hset i _ (List.getElem?_eq_getElem hi)
  have q2:=hset i' _ (List.getElem?_eq_getElem hi')
  have frs: ∀t y,G[t]? =some y→t≠j→y.g≠g:=by
   intro t y ht hne
   rcases loc with e|e
   ·rw [e];exact hoth t y ht hne
   ·have:=hgl y (List.mem_of_getElem? ht);omega
  rcases q1 with⟨e1,e1'⟩|⟨e1,e1'⟩ <;>rcases q2 with⟨e2,e2'⟩|⟨e2,e2'⟩
  ·omega
  ·rw [e1'];exact Ne.symm (frs i' _ e2' e2)
  ·rw [e2'];exact frs i _ e1' e1
  ·have hp:=List.pairwise_iff_getElem.1 h.apart
   have l1:=(List.getElem?_eq_some_iff.1 e1').1
   have l2:=(List.getElem?_eq_some_iff.1 e2').1
   have:=hp i i' l1 l2 hlt
   rw [(List.getElem?_eq_some_iff.1 e1').2,(List.getElem?_eq_some_iff.1 e2').2]at this
   exact this
 ·have hk:(G.set j ⟨x.key,ns,g,c⟩).map (·.key)=G.map (·.key):=by
   rw [List.map_set]
   apply List.ext_getElem?
   intro i
   rw [List.getElem?_set]
   by_cases e:j=i
   ·subst e;simp [hlj];rw [(List.getElem?_eq_some_iff.1 hj).2]
   ·simp [e]
  have hp:(G.map (·.key)).Pairwise (· ≠ ·):=List.pairwise_map.2 h.keys
  rw [←hk]at hp
  exact List.pairwise_map.1 hp
 ·intro y hy
  obtain⟨i,hi⟩:=List.mem_iff_getElem?.1 hy
  rcases hset i y hi with⟨_,rfl⟩|⟨hne,hi'⟩
  ·exact h.right x hx
  ·exact h.right y (List.mem_of_getElem? hi')
 ·rw [List.length_set];exact h.clock
theorem MapAt.put_new {w w3:World}{B b:Nat}{G:List Gr}{r:Rd}(h:MapAt w B b G G.length)(hright:rdB r=true)(hr: ∀x∈G,x.key≠r)
  (gr:(ChangeMaps.setBlock w b (.map (ents 0 G++[({key:=r.v,val:=.slice none 0 0,born:=G.length}:MapEntry)]).toArray (G.length+1))).grownBy w3 none) {g c:Nat} {ns:List Int} (own3:EI.Own 2 w3 B (some ⟨g,0,none⟩) c ns) (loc:g=w.heap.size):
  w3.heap[b]? =some (.map (ents 0 G++[({key:=r.v,val:=.slice none 0 0,born:=G.length}:MapEntry)]).toArray (G.length+1))∧MapAt (ChangeMaps.setBlock w3 b (.map ((ents 0 G++[({key:=r.v,val:=.slice none 0 0,born:=G.length}:MapEntry)]).modify G.length fun e=>{e with val:=.slice (some ⟨g,0,none⟩) ns.length c}).toArray (G.length+1))) B b (G++[⟨r,ns,g,c⟩]) (G.length+1):=by
 obtain⟨gr1,hb1,hs1⟩:=setBlock_grown (o':=.map (ents 0 G++[({key:=r.v,val:=.slice none 0 0,born:=G.length}:MapEntry)]).toArray (G.length+1)) h.blk
 have hb3:w3.heap[b]? =some (.map (ents 0 G++[({key:=r.v,val:=.slice none 0 0,born:=G.length}:MapEntry)]).toArray (G.length+1)):=(gr.block b (by rw [hs1];exact h.lt) (by simp)).trans hb1
 have hgl: ∀y∈G,y.g<w.heap.size:=fun y hy=>((h.own y hy).lt _ rfl).2
 have hgb:g≠b:=by have:=h.lt;omega
 refine⟨hb3,?_,?_,?_,?_,?_,?_⟩
 ·rw [(setBlock_grown hb3).2.1,ents_append]
  have:=WideElems.modify_last (fun e:MapEntry=>{e with val:=.slice (some ⟨g,0,none⟩) ns.length c}) ({key:=r.v,val:=.slice none 0 0,born:=G.length}:MapEntry) (ents 0 G)
  rw [ents_len]at this
  rw [this]
  simp [ent,Gr.val]
 ·intro y hy
  rcases List.mem_append.1 hy with hy|hy
  ·have o1:=own_setBlock (o':=.map (ents 0 G++[({key:=r.v,val:=.slice none 0 0,born:=G.length}:MapEntry)]).toArray (G.length+1)) (h.own y hy) h.blk (h.ne hy)
   exact own_setBlock (o1.grown gr (fun z hz=>by simp)) hb3 (h.ne hy)
  ·simp at hy
   subst hy
   exact own_setBlock own3 hb3 hgb
 ·refine List.pairwise_append.2 ⟨h.apart,by simp,fun y hy z hz=>?_⟩
  simp at hz
  subst hz
  have:=hgl y hy
  simp only
  omega
 ·refine List.pairwise_append.2 ⟨h.keys,by simp,fun y hy z hz=>?_⟩
  simp at hz
  subst hz
  exact hr y hy
 ·intro y hy
  rcases List.mem_append.1 hy with hy|hy
  ·exact h.right y hy
  ·simp at hy
   subst hy
   exact hright
 ·simp
theorem MapAt.clear {w:World}{B b m:Nat}{G:List Gr}(h:MapAt w B b G m):MapAt (ChangeMaps.setBlock w b (.map #[] m)) B b [] m:=
 ⟨(setBlock_grown h.blk).2.1,fun x hx=>by simp at hx,List.Pairwise.nil,List.Pairwise.nil,fun x hx=>by simp at hx,Nat.zero_le _⟩
def openX (x:Gr):List Int:=if x.key.op then x.ns else []
def openG (G:List Gr):List Int:=G.flatMap openX
theorem openG_new (G:List Gr)(r:Rd)(k:Int)(g c:Nat):openG (G++[⟨r,[k],g,c⟩])=openG G++(if r.op then [k]else []):=by simp [openG,openX]
theorem openG_old {G:List Gr}{j:Nat}{x:Gr}(hj:G[j]? =some x)(k:Int)(g c:Nat):(openG (G.set j ⟨x.key,x.ns++[k],g,c⟩)).Perm (openG G++(if x.key.op then [k]else [])):=by
 have hl:=(List.getElem?_eq_some_iff.1 hj).1
 have e:G=G.take j++x::G.drop (j+1):=by
  have:=List.drop_eq_getElem_cons hl
  rw [(List.getElem?_eq_some_iff.1 hj).2]at this
  rw [←this,List.take_append_drop]
 have e1:openG G=openG (G.take j)++(openX x++openG (G.drop (j+1))):=by
  conv=>lhs;rw [e]
  simp [openG]
 have e2:openG (G.set j ⟨x.key,x.ns++[k],g,c⟩)=openG (G.take j)++((openX x++(if x.key.op then [k]else []))++openG (G.drop (j+1))):=by
  rw [List.set_eq_take_append_cons_drop,if_pos hl]
  simp only [openG,List.flatMap_append,List.flatMap_cons,openX]
  split <;>simp
 rw [e1,e2,List.append_assoc,List.append_assoc,List.append_assoc]
 exact(List.perm_append_comm.append_left _).append_left _
end Go.Proofs.YtfejobjgbadfjaaGreat.Roa
namespace Go.Proofs.YtfejobjgbadfjaaGreat.Roa
open Go.RowKit RowG
theorem isRightRoad (r:Rd)(w:World):Calls Tryz.prog 100 #[r.v] w fun x w'=>x=.returned (.bool (rdB r))∧Below w.heap.size w w':=by
 obtain⟨o,co,se,lo⟩:=r
 dsimp only [Rd.v]
 have fin: ∀ {o:Obj},Below w.heap.size w (w.alloc o):=fun {o}=>(Below.refl _ _).alloc (Nat.le_refl _) o
 cases h1:Num.plB co
 ·go_enter Tryz.func100,Tryz.ntmps100
  go_wp2_with (go_at_call 108;refine(Num.isPlace _ _).mono ?_;rintro x w' ⟨rfl,rfl⟩)
  go_ret
  exact⟨Num.ret_bool (by simp [rdB,h1]),fin⟩
 cases h2:Num.plB se
 ·go_enter Tryz.func100,Tryz.ntmps100
  go_wp2_with (go_at_call 108;refine(Num.isPlace _ _).mono ?_;rintro x w' ⟨rfl,rfl⟩)
  go_ret
  exact⟨Num.ret_bool (by simp [rdB,h2]),fin⟩
 have q2:=Num.pl_t h2
 cases h3:Num.plB lo
 ·have q3:=Num.pl_f h3
  go_enter Tryz.func100,Tryz.ntmps100
  go_wp2_with (go_at_call 108;refine(Num.isPlace _ _).mono ?_;rintro x w' ⟨rfl,rfl⟩)
  go_ret
  exact⟨Num.ret_bool (by simp only [rdB,decide_eq_false (show ¬(0≤lo∧lo≤se) by omega),Bool.and_false]),fin⟩
 have q3:=Num.pl_t h3
 by_cases h4:lo≤se
 ·have e:rdB ⟨o,co,se,lo⟩=true:=by simp only [rdB,h1,h2,decide_eq_true (show 0≤lo∧lo≤se by omega),Bool.and_true]
  go_enter Tryz.func100,Tryz.ntmps100
  go_wp2_with (go_at_call 108;refine(Num.isPlace _ _).mono ?_;rintro x w' ⟨rfl,rfl⟩)
  go_ret
  exact⟨Num.ret_bool (by rw [e]),fin⟩
 ·have e:rdB ⟨o,co,se,lo⟩=false:=by simp only [rdB,h1,h2,decide_eq_false (show ¬(0≤lo∧lo≤se) by omega),Bool.and_false]
  go_enter Tryz.func100,Tryz.ntmps100
  go_wp2_with (go_at_call 108;refine(Num.isPlace _ _).mono ?_;rintro x w' ⟨rfl,rfl⟩)
  go_ret
  exact⟨Num.ret_bool (by rw [e,decide_eq_false (show ¬lo≤se by omega)]),fin⟩
theorem isRightEq {o:Bool}{co se lo:Int}{v:Bool}(h:rdB ⟨o,co,se,lo⟩=v)(w:World):Calls Tryz.prog 100 #[.agg #[.bool o,.int .i64 co,.int .i64 se,.int .i64 lo]] w fun x w'=>x=.returned (.bool v)∧Below w.heap.size w w':=by
 subst h
 exact isRightRoad ⟨o,co,se,lo⟩ w
theorem run_clearMap {P:Program}{w:World}{b m:Nat}{es:Array MapEntry}{t ty k e:TypeId}(hu:P.underlying t=some (.map k e))(h:w.heap[b]? =some (.map es m)):(Builtin.clear_ #[t] ty #[.map (some b)]).run P w=.ok (.tuple #[]) (ChangeMaps.setBlock w b (.map #[] m)):=by
 simp [Builtin.clear_,run_underlying hu,MapKept.run_getObj_map h,MapKept.run_setObj_map _ h,Result.andThen,ChangeMaps.setBlock]
def NumR (w w':World)(l:List Rd)(b:Nat):Prop:= ∃G m,MapAt w' w.heap.size b G m∧w.heap.size≤b∧(G=[]↔roadsB l=false)∧(openG G).Perm (openL l)∧Below w.heap.size w w'
theorem stand {p:Prop}(h:Hid p):p:=h.out
theorem numbersByRoad (a:Option Addr)(n cap:Nat)(l:List Rd)(w:World)(hn:n=l.length)(h:E.Lies w a l)(hl:l.length≤2097152):
  Calls Tryz.prog 78 #[.slice a n cap] w fun x w'=> ∃b,x=.returned (.map (some b))∧NumR w w' l b:=by
 subst hn
 have M0:=mapAt_new w w.heap.size
 have b0:Below w.heap.size w (w.alloc (.map #[] 0)):=(Below.refl _ _).alloc (Nat.le_refl _) _
 have hmm:=@run_makeMap Tryz.prog
 by_cases h4:l.length≤4
 ·have i4: ¬(4:Int)<(l.length:Int):=by omega
  go_enter Tryz.func78,Tryz.ntmps78
  go_wp2_with fail
  go_loopw [13] (fun iv wr=> ∃(k:Nat) (G:List Gr),k≤l.length∧iv=.int .i64 k∧MapAt wr w.heap.size w.heap.size G G.length∧Hid (∀x∈G,x.ns.length≤k)∧Hid (k=0→G=[])∧Hid ((openG G).Perm (openN 0 (l.take k)))∧Hid (0<k→G≠ [])∧Hid (∀j,j<k→rdB (at' l j)=true)∧Below w.heap.size w wr) (fun iv _=>l.length-(intOf iv).toNat)
  case atStart=>exact⟨0,[],Nat.zero_le _,rfl,M0,fun x hx=>by simp at hx,fun _=>rfl,by show List.Perm _ _;simp [openG,openN],fun q=>absurd q (by omega),fun j hj=>by omega,b0⟩
  case round=>
   clear M0 b0
   obtain⟨k,G,hk,rfl,M1,hns,HG0,hperm,hne,hgood,b1⟩:=hrel
   by_cases hlt:k<l.length
   ·have i0:(0:Int)≤(k:Int):=by omega
    have i1:(k:Int)<(l.length:Int):=by omega
    rcases h.later b1 with hs|⟨b,off,rfl,hs⟩
    ·simp [hs]at hlt
    obtain⟨c0,c1,c2,c3⟩:=cells4 hs hlt
    clear hs
    obtain⟨s,HS⟩: ∃s,Hid (at' l k=s):=⟨_,rfl⟩
    rw [HS.out]at c0 c1 c2 c3
    obtain⟨o,co,se,lo⟩:=s
    simp only at c0 c1 c2 c3
    have v2:Var 95 (wr.alloc (.cells #[.bool o,.int .i64 co,.int .i64 se,.int .i64 lo] 95)) wr.heap.size [.bool o,.int .i64 co,.int .i64 se,.int .i64 lo]:=Var.new wr _
    have M2:=M1.alloc (.cells #[.bool o,.int .i64 co,.int .i64 se,.int .i64 lo] 95)
    have B2:=b1.alloc b1.size (.cells #[.bool o,.int .i64 co,.int .i64 se,.int .i64 lo] 95)
    have hopn:=openN_step hlt
    rw [HS.out]at hopn
    have HOP:Hid _:=hopn
    clear M1 b1 hopn
    cases hrd:rdB ⟨o,co,se,lo⟩
    ·have hok:roadsB l=false:=rd_false hlt (by rw [HS.out];exact hrd)
     go_wp2_with fail
     refine(isRightEq hrd _).mono ?_
     rintro x w3 ⟨rfl,b3⟩
     have M3:=M2.later b3
     have B3:=B2.trans (b3.mono B2.size)
     clear M2 B2 b3 v2 c0 c1 c2 c3 HOP
     have M4:=M3.clear
     have B4:=grown_below B3 (Nat.le_refl _) (fun j hj=>by cases hj;exact Nat.le_refl _) (setBlock_grown (o':=.map #[] G.length) M3.blk).1
     have hcl:=fun ty=>run_clearMap (P:=Tryz.prog) (ty:=ty) Tryz.underlying119 M3.blk
     generalize ChangeMaps.setBlock w3 w.heap.size (.map #[] G.length)=w4 at *
     clear M3 B3
     go_wp2_with fail
     go_ret
     exact⟨_,rfl,[],_,M4,Nat.le_refl _,by simp [hok],by simp [openG,openL,hok],B4⟩
    ·go_wp2_with fail
     refine(isRightEq hrd _).mono ?_
     rintro x w3 ⟨rfl,b3⟩
     have M3:=M2.later b3
     have v3:=v2.later b3
     have B3:=B2.trans (b3.mono B2.size)
     have HG:Hid (∀j,j<k+1→rdB (at' l j)=true):=fun j hj=>by
      by_cases e:j=k
      ·rw [e,HS.out];exact hrd
      ·exact hgood.out j (by omega)
     clear M2 B2 b3 v2 c0 c1 c2 c3 hgood hne
     have c0:=v3.cell (i:=0) rfl
     have c1:=v3.cell (i:=1) rfl
     have c2:=v3.cell (i:=2) rfl
     have c3:=v3.cell (i:=3) rfl
     have M4:=M3.alloc (.cells #[.int .i64 (k:Int)] 2)
     have B4:=B3.alloc B3.size (.cells #[.int .i64 (k:Int)] 2)
     have L4:EI.Lies (w3.alloc (.cells #[.int .i64 (k:Int)] 2)) (some ⟨w3.heap.size,0,none⟩) [(k:Int)]:=El.lies_new rfl
     have hlt3:=M3.lt
     clear M3 B3 v3
     by_cases hx: ∃x∈G,x.key=⟨o,co,se,lo⟩
     ·obtain⟨x,hxG,hxk⟩:=hx
      obtain⟨j,hj⟩:=List.mem_iff_getElem?.1 hxG
      have hen:=run_entry_old M4 hj hxk
      have hox:=M4.own x hxG
      obtain⟨xk,ns,g,c⟩:=x
      unfold Gr.val at hen
      dsimp only [Rd.v]at hen hox
      have hnl:ns.length≤k:=hns.out _ hxG
      have HJ:Hid (G[j]? =some ⟨xk,ns,g,c⟩):=hj
      have HX:Hid (xk=⟨o,co,se,lo⟩):=hxk
      have hB4:=B4.size
      clear hj hxk hxG
      go_wp2_with (at_builtin;refine wpList_appL tyI (by decide) (by rfl) _ _ (by rfl) w.heap.size (some ⟨g,0,none⟩) c _ ns [(k:Int)] rfl (by rfl) hox hB4 ⟨w3.heap.size,0,none⟩ 1 1 rfl (by rfl) L4 (by simp) (by simp only [List.length_cons,List.length_nil];omega) ?_;intro g1 cc w5 q5 gr5 loc5;refine stand ?_)
      have hloc:g1=g∨g1=(w3.alloc (.cells #[.int .i64 (k:Int)] 2)).heap.size:=by
       rcases loc5 with e|e
       ·exact .inl (by simpa [blk]using e)
       ·exact .inr e
      obtain⟨hb5,M6⟩:=M4.put_old HJ.out gr5 q5 hloc
      have hjl:=(List.getElem?_eq_some_iff.1 HJ.out).1
      have hst:=fun t=>run_store hb5 (by rw [ents_born,ents_len]) (by rw [ents_len];exact hjl) t (.slice (some ⟨g1,0,none⟩) (ns++[(k:Int)]).length cc)
      have gr6:=(setBlock_grown (o':=.map ((ents 0 G).modify j fun e=>{e with val:=.slice (some ⟨g1,0,none⟩) (ns++[(k:Int)]).length cc}).toArray G.length) hb5).1
      generalize ChangeMaps.setBlock w5 w.heap.size _=w6 at *
      have hlen:(ns++[(k:Int)]).length=ns.length+1:=by simp
      rw [hlen]at hst
      dsimp only [goInt]at hst
      have B5:=grown_below B4 (Nat.le_refl _) (fun t ht=>by cases ht;exact(hox.lt _ rfl).1) gr5
      have B6:=grown_below B5 (Nat.le_refl _) (fun t ht=>by cases ht;exact Nat.le_refl _) gr6
      have HP:Hid ((openG (G.set j ⟨xk,ns++[(k:Int)],g1,cc⟩)).Perm (openN 0 (l.take (k+1)))):=by
       show List.Perm _ _
       refine(openG_old HJ.out (k:Int) g1 cc).trans ?_
       rw [HOP.out]
       simp only [HX.out]
       exact hperm.out.append_right _
      have HNS:Hid (∀x∈G.set j ⟨xk,ns++[(k:Int)],g1,cc⟩,x.ns.length≤k+1):=fun x hx=>by
       rcases List.mem_or_eq_of_mem_set hx with q|q
       ·have:=hns.out x q;omega
       ·rw [q];simp only [hlen];omega
      have HNE:Hid (0<k+1→G.set j ⟨xk,ns++[(k:Int)],g1,cc⟩≠ []):=fun _ e=>by
       have:=congrArg List.length e
       rw [List.length_set,List.length_nil]at this
       omega
      have HM:Hid (MapAt w6 w.heap.size w.heap.size (G.set j ⟨xk,ns++[(k:Int)],g1,cc⟩) (G.set j ⟨xk,ns++[(k:Int)],g1,cc⟩).length):=by
       show MapAt _ _ _ _ _
       rw [List.length_set]
       exact M6
      clear M6 M4 hb5 gr5 gr6 hen hox loc5 hloc HOP hns hperm hlen hjl q5 L4 c0 c1 c2 c3 B4 B5
      show wpList _ _ _ _ _ _
      go_wp2_with fail
      go_roundw
      case rel=>exact⟨k+1,_,by omega,by go_num,HM.out,HNS,fun q=>absurd q (by omega),HP,HNE,HG,B6⟩
      case measure=>simp [intOf];omega
     ·have hnew: ∀x∈G,x.key≠⟨o,co,se,lo⟩:=fun x hx' e=>hx ⟨x,hx',e⟩
      have hen:=run_entry_new M4 hrd hnew
      have gr0:=(setBlock_grown (o':=.map (ents 0 G++[({key:=Rd.v ⟨o,co,se,lo⟩,val:=.slice none 0 0,born:=G.length}:MapEntry)]).toArray (G.length+1)) M4.blk)
      have hb0:=fun w5 (gr:World.grownBy (ChangeMaps.setBlock (w3.alloc (.cells #[.int .i64 (k:Int)] 2)) w.heap.size (.map (ents 0 G++[({key:=Rd.v ⟨o,co,se,lo⟩,val:=.slice none 0 0,born:=G.length}:MapEntry)]).toArray (G.length+1))) w5 none)=>fun(g c:Nat) (ns:List Int) (own3:EI.Own 2 w5 w.heap.size (some ⟨g,0,none⟩) c ns) (loc:g=(w3.alloc (.cells #[.int .i64 (k:Int)] 2)).heap.size)=>M4.put_new hrd hnew gr own3 loc
      have HB0:Hid _:=hb0
      have L5:EI.Lies (ChangeMaps.setBlock (w3.alloc (.cells #[.int .i64 (k:Int)] 2)) w.heap.size (.map (ents 0 G++[({key:=Rd.v ⟨o,co,se,lo⟩,val:=.slice none 0 0,born:=G.length}:MapEntry)]).toArray (G.length+1))) (some ⟨w3.heap.size,0,none⟩) [(k:Int)]:=L4.grown gr0.1 (fun x hx=>by cases hx;simp only [ne_eq,Option.some.injEq];omega)
      have B5:=grown_below B4 (Nat.le_refl _) (fun t ht=>by cases ht;exact Nat.le_refl _) gr0.1
      obtain⟨_,_,hsz⟩:=gr0
      generalize ChangeMaps.setBlock (w3.alloc (.cells #[.int .i64 (k:Int)] 2)) w.heap.size (.map (ents 0 G++[({key:=Rd.v ⟨o,co,se,lo⟩,val:=.slice none 0 0,born:=G.length}:MapEntry)]).toArray (G.length+1))=w4 at *
      clear hb0 L4 hnew hx
      dsimp only [Rd.v]at hen
      have hB5:=B5.size
      have ho5:EI.Own 2 w4 w.heap.size none 0 []:=El.Own.none _ _
      go_wp2_with (at_builtin;refine wpList_appL tyI (by decide) (by rfl) _ _ (by rfl) w.heap.size none 0 _ [] [(k:Int)] rfl (by rfl) ho5 hB5 ⟨w3.heap.size,0,none⟩ 1 1 rfl (by rfl) L5 (by simp) (by simp only [List.length_cons,List.length_nil];omega) ?_;intro g1 cc w5 q5 gr5 loc5;refine stand ?_)
      have hloc:g1=(w3.alloc (.cells #[.int .i64 (k:Int)] 2)).heap.size:=by
       rcases loc5 with e|e
       ·cases e
       ·rw [e,hsz]
      rw [List.nil_append]at q5
      obtain⟨hb5,M6⟩:=HB0.out w5 gr5 g1 cc _ q5 hloc
      have hst:=fun t=>run_store hb5 (by rw [List.map_append,ents_born,List.length_append,ents_len];simp [List.range'_concat]) (j:=G.length) (by rw [List.length_append,ents_len];simp) t (.slice (some ⟨g1,0,none⟩) 1 cc)
      have gr6:=(setBlock_grown (o':=.map ((ents 0 G++[({key:=Rd.v ⟨o,co,se,lo⟩,val:=.slice none 0 0,born:=G.length}:MapEntry)]).modify G.length fun e=>{e with val:=.slice (some ⟨g1,0,none⟩) 1 cc}).toArray (G.length+1)) hb5).1
      have hl1: [(k:Int)].length=1:=rfl
      rw [hl1]at M6
      generalize ChangeMaps.setBlock w5 w.heap.size _=w6 at *
      dsimp only [goInt]at hst
      have B6:=grown_below B5 (Nat.le_refl _) (fun t ht=>by cases ht) gr5
      have B7:=grown_below B6 (Nat.le_refl _) (fun t ht=>by cases ht;exact Nat.le_refl _) gr6
      have HP:Hid ((openG (G++[⟨⟨o,co,se,lo⟩,[(k:Int)],g1,cc⟩])).Perm (openN 0 (l.take (k+1)))):=by
       show List.Perm _ _
       rw [openG_new,HOP.out]
       exact hperm.out.append_right _
      have HNS:Hid (∀x∈G++[(⟨⟨o,co,se,lo⟩,[(k:Int)],g1,cc⟩:Gr)],x.ns.length≤k+1):=fun x hx=>by
       rcases List.mem_append.1 hx with q|q
       ·have:=hns.out x q;omega
       ·simp at q;rw [q];simp
      have HNE:Hid (0<k+1→G++[(⟨⟨o,co,se,lo⟩,[(k:Int)],g1,cc⟩:Gr)]≠ []):=fun _ e=>by simp at e
      have HM:Hid (MapAt w6 w.heap.size w.heap.size (G++[⟨⟨o,co,se,lo⟩,[(k:Int)],g1,cc⟩]) (G++[(⟨⟨o,co,se,lo⟩,[(k:Int)],g1,cc⟩:Gr)]).length):=by
       show MapAt _ _ _ _ _
       rw [List.length_append]
       exact M6
      clear M6 M4 hb5 gr5 gr6 hen loc5 hloc HOP hns hperm hl1 q5 L5 c0 c1 c2 c3 B4 B5 B6 HB0 ho5
      show wpList _ _ _ _ _ _
      go_wp2_with fail
      go_roundw
      case rel=>exact⟨k+1,_,by omega,by go_num,HM.out,HNS,fun q=>absurd q (by omega),HP,HNE,HG,B7⟩
      case measure=>simp [intOf];omega
   ·have hkl:l.take k=l:=List.take_of_length_le (by omega)
    have i1: ¬(k:Int)<(l.length:Int):=by omega
    have hall:=rd_all fun j hj=>hgood.out j (by omega)
    have hiff:G=[]↔roadsB l=false:=by
     rcases Nat.eq_zero_or_pos k with e|e
     ·have hl0:l=[]:=List.eq_nil_of_length_eq_zero (by omega)
      have hG:G=[]:=HG0.out e
      rw [hG,hl0]
      simp [roadsB]
     ·rw [hall,decide_eq_true (show 1≤(l.length:Int)∧(l.length:Int)≤4 by omega)]
      exact⟨fun q=>absurd q (hne.out e),fun q=>by cases q⟩
    have hperm':(openG G).Perm (openL l):=by
     have:=hperm.out
     rw [hkl]at this
     unfold openL
     split
     ·exact this
     ·rename_i hno
      have hG:G=[]:=hiff.2 (by simpa using hno)
      rw [hG]
      exact List.Perm.nil
    have HI:Hid (G=[]↔roadsB l=false):=hiff
    have HP:Hid ((openG G).Perm (openL l)):=hperm'
    clear hall hiff hperm' hkl
    go_wp2_with fail
    go_ret
    exact⟨_,rfl,G,_,M1,Nat.le_refl _,HI.out,HP.out,b1⟩
 ·have i4:(4:Int)<(l.length:Int):=by omega
  have hok:roadsB l=false:=by simp only [roadsB,decide_eq_false (show ¬(1≤l.length∧l.length≤4) by omega),Bool.and_false]
  go_enter Tryz.func78,Tryz.ntmps78
  go_wp2_with fail
  go_ret
  exact⟨_,rfl,[],0,M0,Nat.le_refl _,by simp [hok],by simp [openG,openL,hok],b0⟩
end Go.Proofs.YtfejobjgbadfjaaGreat.Roa
namespace Go.Proofs.YtfejobjgbadfjaaGreat.Roa
open Go.RowKit RowG
theorem run_lenMap {P:Program}{w:World}{b m:Nat}{es:Array MapEntry}{t ty k e:TypeId}(hu:P.underlying t=some (.map k e))(h:w.heap[b]? =some (.map es m)):(Builtin.len_ #[t] ty #[.map (some b)]).run P w=.ok (.int .i64 (es.size:Int)) w:=by
 simp [Builtin.len_,run_underlying hu,MapKept.run_getObj_map h,Result.andThen,goInt]
theorem implRoadsOk (a:Option Addr)(n cap:Nat)(l:List Rd)(w:World)(hn:n=l.length)(h:E.Lies w a l)(hl:l.length≤2097152):
  Calls Tryz.prog 51 #[.slice a n cap] w fun x w'=>x=.returned (.bool (roadsB l))∧Below w.heap.size w w':=by
 subst hn
 go_enter Tryz.func51,Tryz.ntmps51
 go_wp2_with fail
 refine(numbersByRoad a _ cap l _ rfl h hl).mono ?_
 rintro x w1 ⟨b,rfl,G,m,M1,_,hiff,_,B1⟩
 have hlen:=fun ty=>run_lenMap (P:=Tryz.prog) (ty:=ty) Tryz.underlying119 M1.blk
 have e:(ents 0 G).toArray.size=G.length:=by simp [ents_len]
 rw [e]at hlen
 have HE:Hid (decide ((0:Int)<(G.length:Int))=roadsB l):=by
  show _=_
  cases q:roadsB l
  ·have:=hiff.2 q
   subst this
   rfl
  ·have:G≠ []:=fun e=>by rw [hiff.1 e]at q;cases q
   have:=List.length_pos_iff.2 this
   exact decide_eq_true (by omega)
 clear hiff e M1
 generalize G.length=z at *
 go_wp2_with fail
 go_ret
 exact⟨Num.ret_bool (by rw [←HE.out];simp),B1⟩
end Go.Proofs.YtfejobjgbadfjaaGreat.Roa
