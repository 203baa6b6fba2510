/- Contracts of this seat's functions, and their mathematics (WorN Mem RegP). -/
import Derived.Test.YtfejobjgbadfjaaGreatK25
import Derived.Test.YtfejobjgbadfjaaGreatK3
import Derived.Laws.IdiomCopy
import Derived.Test.YtfejobjgbadfjaaGreatK17
set_option linter.unusedVariables false
set_option linter.unusedSimpArgs false
set_option maxRecDepth 10000
set_option maxHeartbeats 8000000
namespace Go.Proofs.YtfejobjgbadfjaaGreat.Wor
open Go.RowKit RowG Hop Roa Pum Lin
theorem doTurn {T:TypeId}{pre post:List Value}{ow:Nat}(hTa:T≠69)(k B:Nat)(W:Wd)(hp ro pl n:Int)(tx:ByteArray)(htx:tx.size≤2097152)(w:World){g:Nat}(lay:WLay T pre post ow w B k g W)(hB:B≤w.heap.size)(hkB:NT T)(ok:okW W=true):
  Calls Tryz.prog 46 #[.pointer (some ⟨k,ow,none⟩),(⟨10,hp,ro,pl,n,tx⟩:Ac).v] w fun x w'=>x=.returned (.bool (doW W ⟨10,hp,ro,pl,n,tx⟩).2)∧WLay T pre post ow w' B k g (doW W ⟨10,hp,ro,pl,n,tx⟩).1∧KW B k g w w':=by
 obtain⟨cH,xs,aR,cR,A⟩:=lay
 have hmix:=Tak.mix
 obtain⟨okh,oks⟩:=ok_parts.1 ok
 obtain⟨ya,hx,hxh⟩:=A.hop okh (show 0<3 by omega)
 obtain⟨hxo,hxr⟩:=at_ok okh (show 0<3 by omega)
 rw [←hxh]at hxo hxr
 obtain⟨hw30,hgo,hto,hlo⟩:=hop_ok hxo
 have HXH:Hid (ya.h=W.at 0):=hxh
 clear hxh
 obtain⟨s1,s2,s3,s4⟩:=stream_iff.1 oks
 have bW:=(Below.refl w.heap.size w).alloc (Nat.le_refl _) (.cells #[.int .i64 10,.int .i64 hp,.int .i64 ro,.int .i64 pl,.int .i64 n,.string tx] 69)
 have v0:Var 69 (w.alloc (.cells #[.int .i64 10,.int .i64 hp,.int .i64 ro,.int .i64 pl,.int .i64 n,.string tx] 69)) w.heap.size [.int .i64 10,.int .i64 hp,.int .i64 ro,.int .i64 pl,.int .i64 n,.string tx]:=Var.new w _
 replace A:=A.later bW
 have e0:=A.v.cell0 rfl
 obtain⟨d0,d1,d2,d3,d4,d5⟩:=v0.c6
 have hIn: ∀w',Calls Tryz.prog 57 #[.int .i64 10,.int .i64 3,.int .i64 8] w' fun x w''=>x=.returned (.bool (decide (3≤10∧10≤8)))∧w'=w'':=fun w'=>Tak.l1In _ _ _ w'
 have HIN:Hid _:=hIn
 clear hIn
 go_enter Tryz.func46,Tryz.ntmps46
 go_upto_region 1 with(fail)
 generalize w.alloc (.cells #[.int .i64 10,.int .i64 hp,.int .i64 ro,.int .i64 pl,.int .i64 n,.string tx] 69)=V at *
 go_wp2_with fail
 refine(HIN.out _).mono ?_
 rintro e w1 ⟨rfl,rfl⟩
 clear HIN
 have e1:=A.v.cell (i:=1) rfl
 have hR:Hid (doW W ⟨10,hp,ro,pl,n,tx⟩=({W with rs:=turnL W.rs ro (decide (n=1))},turnB W.rs ro (decide (n=1)))):=by
  show _=_
  simp [doW]
 have hrl:W.rs.length≤2097152:=by have:=(hops_iff.1 okh).2.1;simp only [roadsB,Bool.and_eq_true,decide_eq_true_eq]at this;omega
 have hBV:B≤V.heap.size:=Nat.le_trans hB bW.size
 have hnc:=A.R.none_cap
 have hkV:k<V.heap.size:=A.v.lt
 have haV:w.heap.size<V.heap.size:=v0.lt
 go_wp2_with fail
 refine wp_region_held_drew (S:=(fun w'=>w'.cell? ⟨k,ow+1,none⟩=some (.slice aR W.rs.length cR)∧w'.cell? ⟨w.heap.size,2,none⟩=some (.int .i64 ro)∧w'.cell? ⟨w.heap.size,4,none⟩=some (.int .i64 n))) (by kernel_rfl) ?_ (fun hHeld=>?_)
 focus ((try dsimp only) <;>(first|exact⟨e1,d2,d4⟩|exact hHeld|exact hS2))
 refine wpAnyH_take (i:=0) (v:=?_) rfl (by kernel_rfl) (by kernel_rfl) (by kernel_rfl) (fun _ _ _ h=>h) (Or.inl ⟨by rfl,?_⟩) (by assumption) ?_
 rotate_left 1
 focus (intro s h;(try dsimp only at h);go_simp;(try apply And.intro) <;>with_reducible rfl)
 (try simp only [Act.put,Draw.lays])
 refine wpAnyH_take (i:=1) (v:=?_) rfl (by kernel_rfl) (by kernel_rfl) (by kernel_rfl) (fun _ _ _ h=>h) (Or.inl ⟨by rfl,?_⟩) (by assumption) ?_
 rotate_left 1
 focus (intro s h;(try dsimp only at h);go_simp;(try apply And.intro) <;>with_reducible rfl)
 (try simp only [Act.put,Draw.lays])
 refine wpAnyH_take (i:=2) (v:=?_) rfl (by kernel_rfl) (by kernel_rfl) (by kernel_rfl) (fun _ _ _ h=>h) (Or.inl ⟨by rfl,?_⟩) (by assumption) ?_
 rotate_left 1
 focus (intro s h;(try dsimp only at h);go_simp;(try apply And.intro) <;>with_reducible rfl)
 (try simp only [Act.put,Draw.lays])
 refine wpAnyH_take (i:=3) (v:=?_) rfl (by kernel_rfl) (by kernel_rfl) (by kernel_rfl) (fun _ _ _ h=>h) (Or.inl ⟨by rfl,?_⟩) (by assumption) ?_
 rotate_left 1
 focus (intro s h;(try dsimp only at h);go_simp;(try apply And.intro) <;>with_reducible rfl)
 (try simp only [Act.put,Draw.lays])
 refine wpAnyH_take (i:=4) (v:=?_) rfl (by kernel_rfl) (by kernel_rfl) (by kernel_rfl) (fun _ _ _ h=>h) (Or.inl ⟨by rfl,?_⟩) (by assumption) ?_
 rotate_left 1
 focus (intro s h;(try dsimp only at h);go_simp;(try apply And.intro) <;>with_reducible rfl)
 (try simp only [Act.put,Draw.lays])
 refine wpAnyH_take (i:=5) (v:=?_) rfl (by kernel_rfl) (by kernel_rfl) (by kernel_rfl) (fun _ _ _ h=>h) (Or.inl ⟨by rfl,?_⟩) (by assumption) ?_
 rotate_left 1
 focus (intro s h;(try dsimp only at h);go_simp;(try apply And.intro) <;>with_reducible rfl)
 (try simp only [Act.put,Draw.lays])
 refine wpAnyH_take (i:=6) (v:=?_) rfl (by kernel_rfl) (by kernel_rfl) (by kernel_rfl) (fun _ _ _ h=>h) (Or.inl ⟨by rfl,?_⟩) (by assumption) ?_
 rotate_left 1
 focus (intro s h;(try dsimp only at h);go_simp;(try apply And.intro) <;>with_reducible rfl)
 (try simp only [Act.put,Draw.lays])
 refine wpAnyH_take (i:=7) (v:=?_) rfl (by kernel_rfl) (by kernel_rfl) (by kernel_rfl) (fun _ _ _ h=>h) (Or.inl ⟨by rfl,?_⟩) (by assumption) ?_
 rotate_left 1
 focus (intro s h;(try dsimp only at h);go_simp;(try apply And.intro) <;>with_reducible rfl)
 (try simp only [Act.put,Draw.lays])
 refine wpAnyH_take (i:=8) (v:=?_) rfl (by kernel_rfl) (by kernel_rfl) (by kernel_rfl) (fun _ _ _ h=>h) (Or.inl ⟨by rfl,?_⟩) (by assumption) ?_
 rotate_left 1
 focus (intro s h;(try dsimp only at h);go_simp;(try apply And.intro) <;>with_reducible rfl)
 (try simp only [Act.put,Draw.lays])
 refine wpAnyH_take (i:=9) (v:=?_) rfl (by kernel_rfl) (by kernel_rfl) (by kernel_rfl) (fun _ _ _ h=>h) (Or.inl ⟨by rfl,?_⟩) (by assumption) ?_
 rotate_left 1
 focus (intro s h;(try dsimp only at h);go_simp;(try apply And.intro) <;>with_reducible rfl)
 (try simp only [Act.put,Draw.lays])
 refine wpAnyH_ready (rs:=[10]) (by kernel_rfl) (by simp) ?_
 refine AllReadyH.cons rfl (fun K hK=>?_) AllReadyH.nil
 (go_simp;refine(Roa.specTurn aR W.rs.length cR W.rs ro (n==1) _ rfl A.R.drew.lies hnc hrl).mono ?_;rintro x wa ⟨gR,cR',rfl,oR,ba⟩;have hS2:=And.intro ((ba.cell (p:=⟨k,ow+1,none⟩) hkV).trans e1) (And.intro ((ba.cell (p:=⟨w.heap.size,2,none⟩) haV).trans d2) ((ba.cell (p:=⟨w.heap.size,4,none⟩) haV).trans d4));have A3:WAt T pre post ow wa B k g cH xs aR cR W:=⟨A.v.drew.later ba,A.L.drew.later ba,A.hs,A.R.drew.later ba⟩)
 refine hK.out _ _ ?_ (fun hHeld=>?_)
 focus ((try dsimp only) <;>(first|exact⟨e1,d2,d4⟩|exact hHeld|exact hS2))
 clear hK K
 (try simp only [Act.put,Draw.lays])
 refine wpAnyH_take (i:=11) (v:=?_) rfl (by kernel_rfl) (by kernel_rfl) (by kernel_rfl) (fun _ _ _ h=>h) (Or.inl ⟨by rfl,?_⟩) (by assumption) ?_
 rotate_left 1
 focus (intro s h;(try dsimp only at h);go_simp;(try apply And.intro) <;>with_reducible rfl)
 (try simp only [Act.put,Draw.lays])
 refine wpAnyH_take (i:=12) (v:=?_) rfl (by kernel_rfl) (by kernel_rfl) (by kernel_rfl) (fun _ _ _ h=>h) (Or.inl ⟨by rfl,?_⟩) (by assumption) ?_
 rotate_left 1
 focus (intro s h;(try dsimp only at h);go_simp;(try apply And.intro) <;>with_reducible rfl)
 (try simp only [Act.put,Draw.lays])
 refine wpAnyH_take (i:=13) (v:=?_) rfl (by kernel_rfl) (by kernel_rfl) (by kernel_rfl) (fun _ _ _ h=>h) (Or.inl ⟨by rfl,?_⟩) (by assumption) ?_
 rotate_left 1
 focus (intro s h;(try dsimp only at h);go_simp;(try apply And.intro) <;>with_reducible rfl)
 (try simp only [Act.put,Draw.lays])
 refine wpAnyH_take (i:=14) (v:=?_) rfl (by kernel_rfl) (by kernel_rfl) (by kernel_rfl) (fun _ _ _ h=>h) (Or.inl ⟨by rfl,?_⟩) (by assumption) ?_
 rotate_left 1
 focus (intro s h;(try dsimp only at h);go_simp;(try apply And.intro) <;>with_reducible rfl)
 (try simp only [Act.put,Draw.lays])
 refine wpAnyH_take (i:=15) (v:=?_) rfl (by kernel_rfl) (by kernel_rfl) (by kernel_rfl) (fun _ _ _ h=>h) (Or.inl ⟨by rfl,?_⟩) (by assumption) ?_
 rotate_left 1
 focus (intro s h;(try dsimp only at h);go_simp;(try apply And.intro) <;>with_reducible rfl)
 (try simp only [Act.put,Draw.lays])
 refine wpAnyH_done (by kernel_rfl) ?_ _
 have e1':=A3.v.cell (i:=1) rfl
 have f1':=A3.v.free 1
 have k1:Draw.Kept k wa (wa.setCell ⟨k,ow+1,none⟩ (.slice (some ⟨gR,0,none⟩) (turnL W.rs ro (n==1)).length cR')):=(Draw.Kept.refl k wa).setCell (p:=⟨k,ow+1,none⟩) (.inl rfl) _
 have v1:=A3.v.set 1 (.slice (some ⟨gR,0,none⟩) (turnL W.rs ro (n==1)).length cR')
 have oR':Roa.E.Own 95 wa B (some ⟨gR,0,none⟩) cR' (turnL W.rs ro (n==1)):=El.Own.mono (E:=Roa.E) oR hBV
 have A4:WAt T pre post ow (wa.setCell ⟨k,ow+1,none⟩ (.slice (some ⟨gR,0,none⟩) (turnL W.rs ro (n==1)).length cR')) B k g cH xs (some ⟨gR,0,none⟩) cR' {W with rs:=turnL W.rs ro (n==1)}:=⟨v1,A3.L.keptW A3.v hkB k1,A3.hs,oR'.kept k1 (own_win hkB.r oR' A3.v)⟩
 have K4:KW B k g w (wa.setCell ⟨k,ow+1,none⟩ (.slice (some ⟨gR,0,none⟩) (turnL W.rs ro (n==1)).length cR')):=((KW.ofBelow bW.drew hB).trans (KW.ofBelow ba hBV)).trans (KW.ofKept k1 (Nat.le_trans hBV ba.size))
 have HA4:Hid _:=A4
 have HK4:Hid _:=K4
 clear A4 K4 oR' v1 k1 A3 oR ba hHeld hS2 A v0 bW e1 d2 d4 d0 d1 d3 d5 e0
 go_wp2_with fail
 go_ret
 exact⟨by rw [hR.out];rfl,by rw [hR.out];exact⟨cH,xs,_,cR',HA4.out⟩,HK4.out⟩
theorem l16Do {T:TypeId}{pre post:List Value}{ow:Nat}(hTa:T≠69)(k B:Nat)(W:Wd)(a:Ac)(htx:a.tx.size≤2097152)(w:World){g:Nat}(lay:WLay T pre post ow w B k g W)(hB:B≤w.heap.size)(hkB:NT T)(ok:okW W=true):
  Calls Tryz.prog 46 #[.pointer (some ⟨k,ow,none⟩),a.v] w fun x w'=>x=.returned (.bool (doW W a).2)∧WLay T pre post ow w' B k g (doW W a).1∧KW B k g w w':=by
 obtain⟨kd,hp,ro,pl,n,tx⟩:=a
 by_cases h1:kd<1∨11<kd
 ·exact doNone hTa k B W kd hp ro pl n h1 tx htx w lay hB hkB ok
 by_cases h2:3≤kd∧kd≤8
 ·exact doHop hTa k B W kd hp ro pl n h2 tx htx w lay hB hkB ok
 have h3:kd=1∨kd=2∨kd=9∨kd=10∨kd=11:=by omega
 rcases h3 with rfl|rfl|rfl|rfl|rfl
 ·exact doWrite hTa k B W hp ro pl n tx htx w lay hB hkB ok
 ·exact doEnd hTa k B W hp ro pl n tx htx w lay hB hkB ok
 ·exact doRead hTa k B W hp ro pl n tx htx w lay hB hkB ok
 ·exact doTurn hTa k B W hp ro pl n tx htx w lay hB hkB ok
 ·exact doLook hTa k B W hp ro pl n tx htx w lay hB hkB ok
end Go.Proofs.YtfejobjgbadfjaaGreat.Wor
namespace Go.Proofs.YtfejobjgbadfjaaGreat.RowG
open Go.RowKit
theorem win_part {T:TypeId}{k:Nat}: ∀(vs:List Value) (o:Nat) (w:World) (p m q:List Value),Var T w k (p++m++q)→p.length=o→m.length=vs.length→Var T (w.setCells k o vs) k (p++vs++q)
 | [],o,w,p,m,q,h,hp,hm=>by
  have:m=[]:=List.eq_nil_of_length_eq_zero hm
  subst this
  exact h
 | v::vs,o,w,p,m,q,h,hp,hm=>by
  cases m with
  | nil=>simp at hm
  | cons u m=>
   have h1:=h.set o v
   have e:(p++u::m++q).set o v=(p++[v])++m++q:=by
    subst hp
    simp
   rw [e]at h1
   have:=win_part vs (o+1) _ (p++[v]) m q h1 (by simp [hp]) (by simpa using hm)
   simpa [World.setCells]using this
theorem kept_cells {k:Nat}{w0:World}: ∀(vs:List Value) (o:Nat) (w:World),Draw.Kept k w0 w→Draw.Kept k w0 (w.setCells k o vs)
 | [],_,_,h=>h
 | v::vs,o,w,h=>kept_cells vs (o+1) _ (h.setCell (p:=⟨k,o,none⟩) (.inl rfl) v)
variable {P:Program} {T T0:TypeId} {pre post:List Value} {o:Nat}
theorem run_store_win {w:World}{k:Nat}{old vs:List Value}(hi:(P.info? T).map (·.size)=some vs.length)(hw:Win T0 pre post o w k old)(hl:old.length=vs.length)(h1: ∀v∈vs,v.oneCell'=true):
  ∃w',(Instr.storeAt T (.pointer (some ⟨k,o,none⟩)) (.agg vs.toArray)).run P w=.ok () w'∧Win T0 pre post o w' k vs∧Draw.Kept k w w':=by
 obtain⟨i,hi,hs⟩: ∃i,P.info? T=some i∧i.size=vs.length:=by
  cases h:P.info? T with
  | none=>rw [h]at hi;cases hi
  | some i=>rw [h]at hi;exact⟨i,rfl,by simpa using hi⟩
 have hst:=run_storeCells_cells (P:=P) k o vs 0 w (fun j hj=>by
   rw [Nat.add_zero,hw.cell (i:=j) (List.getElem?_eq_getElem (by omega))];rfl) (fun j _=>by rw [Nat.add_zero];exact hw.free j) h1
 rw [Nat.add_zero]at hst
 refine⟨w.setCells k o vs,?_,⟨hw.len,win_part vs o w pre old post hw.var hw.len hl⟩,kept_cells vs o w (Draw.Kept.refl _ _)⟩
 simp [Instr.storeAt,storeVar,Instr.sureAddr,asAddr,sizeOf,typeInfo,hi,hs,Value.cells,hst,Result.andThen]
theorem run_load_win {w:World}{k:Nat}{vs:List Value}(hi:(P.info? T).map (·.size)=some vs.length)(hu: ∃fs,P.underlying T=some (.struct fs))(hw:Win T0 pre post o w k vs):
  (Instr.loadAt T (.pointer (some ⟨k,o,none⟩))).run P w=.ok (.agg vs.toArray) w:=by
 obtain⟨i,hi,hs⟩: ∃i,P.info? T=some i∧i.size=vs.length:=by
  cases h:P.info? T with
  | none=>rw [h]at hi;cases hi
  | some i=>rw [h]at hi;exact⟨i,rfl,by simpa using hi⟩
 obtain⟨fs,hu⟩:=hu
 have hld:=run_loadCells_list (P:=P) (w:=w) ⟨k,o,none⟩ vs (fun j v hv=>by rw [add_lit];exact hw.cell hv)
 simp [Instr.loadAt,loadVar,Instr.sureAddr,asAddr,isAgg,run_underlying hu,sizeOf,typeInfo,hi,hs,hld,Result.andThen]
theorem wp_store_win {w:World}{op:Oper}{a:Act}{K:Act→World→Prop}{Q:Exit→Act→World→Prop}(p x:Operand)(ho:op.op=.store T p x){k:Nat}{old vs:List Value}(hp:a.eval p=.pointer (some ⟨k,o,none⟩))(hx:a.eval x=.agg vs.toArray)
  (hi:(P.info? T).map (·.size)=some vs.length) (hw:Win T0 pre post o w k old) (hl:old.length=vs.length) (h1: ∀v∈vs,v.oneCell'=true) (h: ∀w',Win T0 pre post o w' k vs→Draw.Kept k w w'→K (a.put op.dst undef) w'):op.wp P a w K Q:=by
 obtain⟨w',hr,h2,h3⟩:=run_store_win (P:=P) (T:=T) hi hw hl h1
 unfold Oper.wp
 simp [execOp,ho,hp,hx,hr,Result.andThen,Oper.upon]
 exact h w' h2 h3
theorem wp_load_win {w:World}{op:Oper}{a:Act}{K:Act→World→Prop}{Q:Exit→Act→World→Prop}(p:Operand)(ho:op.op=.load T p){k:Nat}{vs:List Value}(hp:a.eval p=.pointer (some ⟨k,o,none⟩))
  (hi:(P.info? T).map (·.size)=some vs.length) (hu: ∃fs,P.underlying T=some (.struct fs)) (hw:Win T0 pre post o w k vs) (h:K (a.put op.dst (.agg vs.toArray)) w):op.wp P a w K Q:=by
 have hr:=run_load_win (P:=P) (T:=T) hi hu hw
 unfold Oper.wp
 simp [execOp,ho,hp,hr,Result.andThen,Oper.upon]
 exact h
theorem step_store_win {w:World}{op:Oper}{a:Act}{K:Act→World→Prop}{Q:Exit→Act→World→Prop}{X:Prop}{ops:Array Oper}(hgd:op.guard=none)(p x:Operand)(ho:op.op=.store T p x){k:Nat}{old vs:List Value}(hp:a.eval p=.pointer (some ⟨k,o,none⟩))(hx:a.eval x=.agg vs.toArray)
  (hi:(P.info? T).map (·.size)=some vs.length) (hw:Win T0 pre post o w k old) (hl:old.length=vs.length) (h1: ∀v∈vs,v.oneCell'=true) (h: ∀w',Win T0 pre post o w' k vs→Draw.Kept k w w'→K (a.put op.dst undef) w'):if Region.wanted op (yielded ops a.tmps)=true then Oper.wp P op a w K Q else X:=by
 rw [if_pos (by simp [Region.wanted,hgd])]
 exact wp_store_win p x ho hp hx hi hw hl h1 h
theorem step_load_win {w:World}{op:Oper}{a:Act}{K:Act→World→Prop}{Q:Exit→Act→World→Prop}{X:Prop}{ops:Array Oper}(hgd:op.guard=none)(p:Operand)(ho:op.op=.load T p){k:Nat}{vs:List Value}(hp:a.eval p=.pointer (some ⟨k,o,none⟩))
  (hi:(P.info? T).map (·.size)=some vs.length) (hu: ∃fs,P.underlying T=some (.struct fs)) (hw:Win T0 pre post o w k vs) (h:K (a.put op.dst (.agg vs.toArray)) w):if Region.wanted op (yielded ops a.tmps)=true then Oper.wp P op a w K Q else X:=by
 rw [if_pos (by simp [Region.wanted,hgd])]
 exact wp_load_win p ho hp hi hu hw h
theorem run_load_cells {w:World}{k:Nat}{vs:List Value}(hi:(P.info? T).map (·.size)=some vs.length)(hu: ∃fs,P.underlying T=some (.struct fs))(hw: ∀j v,vs[j]? =some v→w.cell? ⟨k,o+j,none⟩=some v):
  (Instr.loadAt T (.pointer (some ⟨k,o,none⟩))).run P w=.ok (.agg vs.toArray) w:=by
 obtain⟨i,hi,hs⟩: ∃i,P.info? T=some i∧i.size=vs.length:=by
  cases h:P.info? T with
  | none=>rw [h]at hi;cases hi
  | some i=>rw [h]at hi;exact⟨i,rfl,by simpa using hi⟩
 obtain⟨fs,hu⟩:=hu
 have hld:=run_loadCells_list (P:=P) (w:=w) ⟨k,o,none⟩ vs (fun j v hv=>by rw [add_lit];exact hw j v hv)
 simp [Instr.loadAt,loadVar,Instr.sureAddr,asAddr,isAgg,run_underlying hu,sizeOf,typeInfo,hi,hs,hld,Result.andThen]
theorem step_load_cells {w:World}{op:Oper}{a:Act}{K:Act→World→Prop}{Q:Exit→Act→World→Prop}{X:Prop}{ops:Array Oper}(hgd:op.guard=none)(p:Operand)(ho:op.op=.load T p){k:Nat}{vs:List Value}(hp:a.eval p=.pointer (some ⟨k,o,none⟩))
  (hi:(P.info? T).map (·.size)=some vs.length) (hu: ∃fs,P.underlying T=some (.struct fs)) (hw: ∀j v,vs[j]? =some v→w.cell? ⟨k,o+j,none⟩=some v) (h:K (a.put op.dst (.agg vs.toArray)) w):if Region.wanted op (yielded ops a.tmps)=true then Oper.wp P op a w K Q else X:=by
 rw [if_pos (by simp [Region.wanted,hgd])]
 have hr:=run_load_cells (P:=P) (T:=T) hi hu hw
 unfold Oper.wp
 simp [execOp,ho,hp,hr,Result.andThen,Oper.upon]
 exact h
theorem El.Lies.cells {α:Type}{E:El α}{w:World}{b off:Nat}{l:List α}(h:E.Lies w (some ⟨b,off,Option.none⟩) l){i:Nat}{x:α}(hx:l[i]? =some x): ∀j v,(E.enc x)[j]? =some v→w.cell? ⟨b,off+i*E.size+j,Option.none⟩=some v:=by
 intro j v hv
 rcases h with h|⟨b',off',he,h⟩
 ·subst h;simp at hx
 ·cases he
  rw [Nat.add_assoc]
  exact El.Lies.cell h hx hv
end Go.Proofs.YtfejobjgbadfjaaGreat.RowG
namespace Go.Proofs.YtfejobjgbadfjaaGreat.RegJ
open Go.RowKit
abbrev Tie:=Nat×Nat×(Value→World→Prop)
def ValP (vs:List (Option Value))(ps:List Tie)(d:Nat→Bool)(j:Nat)(v:Value)(w:World):Prop:=Val vs d j v w∧ ∀q∈ps,j=q.1→d q.2.1=false→q.2.2 v w
theorem ValP.keep {vs:List (Option Value)}{ps:List Tie}{d:Nat→Bool}{x:Nat→Value}{w w':World}{i:Nat}(h: ∀q∈ps,i=q.1∨i=q.2.1∨d q.2.1=true∨ ∀v,q.2.2 v w→q.2.2 v w'):
  ∀j,j≠i→ValP vs ps d j (x j) w→ValP vs ps (fun j=>j==i||d j) j (x j) w':=fun j hj hv=>
 ⟨Val.keep j hj hv.1,fun q hq he hz=>by
  have hz':(q.2.1==i)=false∧d q.2.1=false:=by simpa using hz
  rcases h q hq with h1|h1|h1|h1
  ·exact absurd (he.trans h1.symm) hj
  ·simp [h1]at hz'
  ·rw [hz'.2]at h1;cases h1
  ·exact h1 _ (hv.2 q hq he hz'.2)⟩
theorem ValP.same {vs:List (Option Value)}{ps:List Tie}{d:Nat→Bool}{x:Nat→Value}{w:World}{i:Nat}: ∀j,j≠i→ValP vs ps d j (x j) w→ValP vs ps (fun j=>j==i||d j) j (x j) w:=ValP.keep fun _ _=>.inr (.inr (.inr fun _ h=>h))
theorem ValP.this {vs:List (Option Value)}{ps:List Tie}{d:Nat→Bool}{w:World}{i:Nat}{v:Value}(h:vs[i]? =some (some v)∨vs[i]? =some none)(hp: ∀q∈ps,i=q.1→q.2.2 v w):ValP vs ps (fun j=>j==i||d j) i v w:=
 ⟨Val.this h,fun q hq he _=>hp q hq he⟩
theorem ValP.free {vs:List (Option Value)}{ps:List Tie}{d:Nat→Bool}{w:World}{i:Nat}{v:Value}(h:vs[i]? =some (some v)∨vs[i]? =some none)(hn:(ps.all fun q=>q.1 !=i)=true):ValP vs ps (fun j=>j==i||d j) i v w:=
 ValP.this h fun q hq he=>by
  simp only [List.all_eq_true]at hn
  have:=hn q hq
  simp [he]at this
theorem ValP.val {vs:List (Option Value)}{ps:List Tie}{d:Nat→Bool}{j:Nat}{v:Value}{w:World}(h:ValP vs ps d j v w){u:Value}(hu:vs[j]? =some (some u)):v=u:=h.1.2 u hu
theorem ValP.done {vs:List (Option Value)}{ps:List Tie}{d:Nat→Bool}{j:Nat}{v:Value}{w:World}(h:ValP vs ps d j v w):d j=true:=h.1.1
theorem ValP.tie {vs:List (Option Value)}{ps:List Tie}{d:Nat→Bool}{j:Nat}{v:Value}{w:World}(h:ValP vs ps d j v w)(q:Tie)(hq:q∈ps)(he:j=q.1)(hz:d q.2.1=false):q.2.2 v w:=h.2 q hq he hz
end Go.Proofs.YtfejobjgbadfjaaGreat.RegJ
