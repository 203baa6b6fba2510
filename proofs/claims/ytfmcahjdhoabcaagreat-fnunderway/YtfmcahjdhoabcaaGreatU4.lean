/- Contracts of this seat's functions, and their mathematics (Win Take TakeZ TakeY GivB). -/
import Derived.Test.YtfmcahjdhoabcaaGreatU1
import Derived.Deep.RegionHeld3
import Derived.Test.YtfmcahjdhoabcaaGreatU3
import Derived.BigQuiet
set_option linter.unusedVariables false
set_option linter.unusedSimpArgs false
set_option maxRecDepth 10000
set_option maxHeartbeats 4000000
namespace Go.Proofs.YtfmcahjdhoabcaaGreat.RowG
open Go.RowKit
structure Win (T:TypeId)(pre post:List Value)(o:Nat)(w:World)(k:Nat)(vs:List Value):Prop where
 len:pre.length=o
 blk:w.heap[k]? =some (.cells (pre++vs++post).toArray T (0,0))
variable {T:TypeId} {pre post:List Value} {o:Nat}
theorem Win.var {w:World}{k:Nat}{vs:List Value}(h:Win T pre post o w k vs):Var T w k (pre++vs++post):=h.blk
theorem Win.of {w:World}{k:Nat}{vs:List Value}(hl:pre.length=o)(h:Var T w k (pre++vs++post)):Win T pre post o w k vs:=⟨hl,h⟩
theorem Win.cell {w:World}{k:Nat}{vs:List Value}(h:Win T pre post o w k vs){i:Nat}{v:Value}(hv:vs[i]? =some v):w.cell? ⟨k,o+i,Option.none⟩=some v:=by
 refine h.var.cell ?_
 have hi:i<vs.length:=(List.getElem?_eq_some_iff.1 hv).1
 rw [←h.len,List.getElem?_append_left (by simp;omega),List.getElem?_append_right (by omega)]
 simpa using hv
theorem Win.cell0 {w:World}{k:Nat}{vs:List Value}(h:Win T pre post o w k vs){v:Value}(hv:vs[0]? =some v):w.cell? ⟨k,o,Option.none⟩=some v:=h.cell (i:=0) hv
theorem Win.free {w:World}{k:Nat}{vs:List Value}(h:Win T pre post o w k vs)(i:Nat):w.frozen? ⟨k,o+i,Option.none⟩=false:=h.var.free _
theorem Win.free0 {w:World}{k:Nat}{vs:List Value}(h:Win T pre post o w k vs):w.frozen? ⟨k,o,Option.none⟩=false:=h.var.free _
theorem Win.c6 {w:World}{k:Nat}{a0 a1 a2 a3 a4 a5:Value}(h:Win T pre post o w k [a0,a1,a2,a3,a4,a5]):w.cell? ⟨k,o+0,Option.none⟩=some a0∧w.cell? ⟨k,o+1,Option.none⟩=some a1∧w.cell? ⟨k,o+2,Option.none⟩=some a2∧w.cell? ⟨k,o+3,Option.none⟩=some a3∧w.cell? ⟨k,o+4,Option.none⟩=some a4∧w.cell? ⟨k,o+5,Option.none⟩=some a5:=⟨h.cell (i:=0) rfl,h.cell (i:=1) rfl,h.cell (i:=2) rfl,h.cell (i:=3) rfl,h.cell (i:=4) rfl,h.cell (i:=5) rfl⟩
theorem Win.f6 {w:World}{k:Nat}{vs:List Value}(h:Win T pre post o w k vs):w.frozen? ⟨k,o+0,Option.none⟩=false∧w.frozen? ⟨k,o+1,Option.none⟩=false∧w.frozen? ⟨k,o+2,Option.none⟩=false∧w.frozen? ⟨k,o+3,Option.none⟩=false∧w.frozen? ⟨k,o+4,Option.none⟩=false∧w.frozen? ⟨k,o+5,Option.none⟩=false:=⟨h.free 0,h.free 1,h.free 2,h.free 3,h.free 4,h.free 5⟩
theorem Win.c7 {w:World}{k:Nat}{a0 a1 a2 a3 a4 a5 a6:Value}(h:Win T pre post o w k [a0,a1,a2,a3,a4,a5,a6]):w.cell? ⟨k,o+0,Option.none⟩=some a0∧w.cell? ⟨k,o+1,Option.none⟩=some a1∧w.cell? ⟨k,o+2,Option.none⟩=some a2∧w.cell? ⟨k,o+3,Option.none⟩=some a3∧w.cell? ⟨k,o+4,Option.none⟩=some a4∧w.cell? ⟨k,o+5,Option.none⟩=some a5∧w.cell? ⟨k,o+6,Option.none⟩=some a6:=⟨h.cell (i:=0) rfl,h.cell (i:=1) rfl,h.cell (i:=2) rfl,h.cell (i:=3) rfl,h.cell (i:=4) rfl,h.cell (i:=5) rfl,h.cell (i:=6) rfl⟩
theorem Win.f7 {w:World}{k:Nat}{vs:List Value}(h:Win T pre post o w k vs):w.frozen? ⟨k,o+0,Option.none⟩=false∧w.frozen? ⟨k,o+1,Option.none⟩=false∧w.frozen? ⟨k,o+2,Option.none⟩=false∧w.frozen? ⟨k,o+3,Option.none⟩=false∧w.frozen? ⟨k,o+4,Option.none⟩=false∧w.frozen? ⟨k,o+5,Option.none⟩=false∧w.frozen? ⟨k,o+6,Option.none⟩=false:=⟨h.free 0,h.free 1,h.free 2,h.free 3,h.free 4,h.free 5,h.free 6⟩
theorem Win.c13 {w:World}{k:Nat}{a0 a1 a2 a3 a4 a5 a6 a7 a8 a9 a10 a11 a12:Value}(h:Win T pre post o w k [a0,a1,a2,a3,a4,a5,a6,a7,a8,a9,a10,a11,a12]):w.cell? ⟨k,o+0,Option.none⟩=some a0∧w.cell? ⟨k,o+1,Option.none⟩=some a1∧w.cell? ⟨k,o+2,Option.none⟩=some a2∧w.cell? ⟨k,o+3,Option.none⟩=some a3∧w.cell? ⟨k,o+4,Option.none⟩=some a4∧w.cell? ⟨k,o+5,Option.none⟩=some a5∧w.cell? ⟨k,o+6,Option.none⟩=some a6∧w.cell? ⟨k,o+7,Option.none⟩=some a7∧w.cell? ⟨k,o+8,Option.none⟩=some a8∧w.cell? ⟨k,o+9,Option.none⟩=some a9∧w.cell? ⟨k,o+10,Option.none⟩=some a10∧w.cell? ⟨k,o+11,Option.none⟩=some a11∧w.cell? ⟨k,o+12,Option.none⟩=some a12:=⟨h.cell (i:=0) rfl,h.cell (i:=1) rfl,h.cell (i:=2) rfl,h.cell (i:=3) rfl,h.cell (i:=4) rfl,h.cell (i:=5) rfl,h.cell (i:=6) rfl,h.cell (i:=7) rfl,h.cell (i:=8) rfl,h.cell (i:=9) rfl,h.cell (i:=10) rfl,h.cell (i:=11) rfl,h.cell (i:=12) rfl⟩
theorem Win.f13 {w:World}{k:Nat}{vs:List Value}(h:Win T pre post o w k vs):w.frozen? ⟨k,o+0,Option.none⟩=false∧w.frozen? ⟨k,o+1,Option.none⟩=false∧w.frozen? ⟨k,o+2,Option.none⟩=false∧w.frozen? ⟨k,o+3,Option.none⟩=false∧w.frozen? ⟨k,o+4,Option.none⟩=false∧w.frozen? ⟨k,o+5,Option.none⟩=false∧w.frozen? ⟨k,o+6,Option.none⟩=false∧w.frozen? ⟨k,o+7,Option.none⟩=false∧w.frozen? ⟨k,o+8,Option.none⟩=false∧w.frozen? ⟨k,o+9,Option.none⟩=false∧w.frozen? ⟨k,o+10,Option.none⟩=false∧w.frozen? ⟨k,o+11,Option.none⟩=false∧w.frozen? ⟨k,o+12,Option.none⟩=false:=⟨h.free 0,h.free 1,h.free 2,h.free 3,h.free 4,h.free 5,h.free 6,h.free 7,h.free 8,h.free 9,h.free 10,h.free 11,h.free 12⟩
theorem Win.lt {w:World}{k:Nat}{vs:List Value}(h:Win T pre post o w k vs):k<w.heap.size:=h.var.lt
theorem Win.same {w w':World}{k:Nat}{vs:List Value}(h:Win T pre post o w k vs)(e:w'.heap[k]? =w.heap[k]?):Win T pre post o w' k vs:=⟨h.len,e.trans h.blk⟩
theorem Win.later {w w':World}{k:Nat}{vs:List Value}(h:Win T pre post o w k vs)(hb:Below w.heap.size w w'):Win T pre post o w' k vs:=h.same (hb.block k h.lt)
theorem Win.kept {w w':World}{k c:Nat}{vs:List Value}(h:Win T pre post o w k vs)(hk:Draw.Kept c w w')(hc:k≠c):Win T pre post o w' k vs:=h.same (hk.block k h.lt hc)
theorem Win.grown {w w':World}{k:Nat}{r:Option Nat}{vs:List Value}(h:Win T pre post o w k vs)(hg:w.grownBy w' r)(hc: ∀g,r=some g→k≠g):Win T pre post o w' k vs:=h.same (hg.block k h.lt (fun e=>hc k e.symm rfl))
theorem Win.alloc {w:World}{k:Nat}{vs:List Value}(h:Win T pre post o w k vs)(x:Obj):Win T pre post o (w.alloc x) k vs:=h.same (Below.heap_alloc _ _ _ h.lt)
theorem Win.other {w:World}{k:Nat}{vs:List Value}(h:Win T pre post o w k vs){p:Addr}(hp:k≠p.block)(v:Value):Win T pre post o (w.setCell p v) k vs:=h.same (Below.heap_setCell _ _ _ _ hp)
theorem Win.set {w:World}{k:Nat}{vs:List Value}(h:Win T pre post o w k vs)(i:Nat)(v:Value)(hi:i<vs.length:=by simp):Win T pre post o (w.setCell ⟨k,o+i,Option.none⟩ v) k (vs.set i v):=by
 refine⟨h.len,?_⟩
 have:=h.var.set (o+i) v
 rw [←h.len,List.append_assoc,List.set_append_right _ _ (by omega),List.set_append_left _ _ (by omega),Nat.add_sub_cancel_left]at this
 rw [←h.len,List.append_assoc]
 exact this
theorem Win.set0 {w:World}{k:Nat}{vs:List Value}(h:Win T pre post o w k vs)(v:Value)(hi:0<vs.length:=by simp):Win T pre post o (w.setCell ⟨k,o,Option.none⟩ v) k (vs.set 0 v):=h.set 0 v hi
theorem Win.drew {w:World}{k:Nat}{vs:List Value}(h:Win T pre post o w k vs):Win T pre post o w.drew k vs:=⟨h.len,h.blk⟩
theorem Var.win {w:World}{k:Nat}{vs:List Value}(h:Var T w k vs):Win T [] [] 0 w k vs:=⟨rfl,by simpa [Var]using h⟩
theorem Win.whole {w:World}{k:Nat}{vs:List Value}(h:Win T [] [] 0 w k vs):Var T w k vs:=by
 have:=h.blk
 simpa [Var]using this
end Go.Proofs.YtfmcahjdhoabcaaGreat.RowG
namespace Go.Proofs.YtfmcahjdhoabcaaGreat.Draw
open Go.RowKit
section
variable {P:Program} {ops:Array Oper} {Q:Exit→Act→World→Prop} {md:Region.Mode} {S:World→Prop}
structure Still (P:Program)(ops:Array Oper)(S:World→Prop)(o:Oper)(v:Value)(a:Act):Prop where
 wanted:Region.wanted o (yielded ops a.tmps)=true
 call: ∃f args,(∀w,S w→(execOp a.eval o).run P w=.ok (.enter f args) w)∧ ∀w,S w→Calls P f args w fun e w'=>e=.returned v∧w=w'
theorem Still.turn {o o':Oper}{v:Value}{a:Act}(h:Still P ops S o v a)(hs: ∀cs b,o.op≠ .select cs b)(hap:o.apart ops o'=true)(d:List _)(u:Value):Still P ops S o v (({a with defers:=d}:Act).put o'.dst u):=by
 have h3:=(Oper.apart_spec hap).2.2
 refine⟨(wanted_put o {a with defers:=d} o'.dst u h3).trans h.wanted,?_⟩
 rw [execOp_put o hs {a with defers:=d} o'.dst u h3]
 exact h.call
end
end Go.Proofs.YtfmcahjdhoabcaaGreat.Draw
namespace Go.Proofs.YtfmcahjdhoabcaaGreat.Draw
open Go.RowKit
section
variable {P:Program} {ops:Array Oper} {Q:Exit→Act→World→Prop} {md:Region.Mode} {S:World→Prop} {z:Nat}
def wpAnyZ (P:Program)(md:Region.Mode)(ops:Array Oper)(Q:Exit→Act→World→Prop)(S:World→Prop)(z:Nat):Nat→Array Bool→Act→World→Prop
 | 0,listed,a,w=>Region.ready md ops listed=[]∧Q .normal a w
 | fuel+1,listed,a,w=>(Region.ready md ops listed=[]→Q .normal a w)∧ ∀i∈Region.ready md ops listed,wpOp P ops Q i (fun a' w'=>(i≠z→S w')∧wpAnyZ P md ops Q S z fuel (listed.setIfInBounds i true) a' w') a w
theorem wpAny_of_Z: ∀(fuel:Nat) (listed:Array Bool) (a:Act) (w:World),wpAnyZ P md ops Q S z fuel listed a w→wpAny P md ops Q fuel listed a w
 | 0,_,_,_,h=>h
 | fuel+1,_,_,_,h=>⟨h.1,fun i hi=>wpOp_mono (fun a' w' h'=>wpAny_of_Z fuel _ a' w' h'.2) (h.2 i hi)⟩
def waits (md:Region.Mode)(ops:Array Oper)(z i:Nat):Bool:=match ops[z]? with
 | some o=>o.after.toList.any fun e=>Region.binds md e&&(e.on==i)
 | none=>false
theorem not_ready {listed:Array Bool}{i:Nat}(hw:waits md ops z i=true)(hr:i∈Region.ready md ops listed):z ∉ Region.ready md ops listed:=by
 intro hz
 obtain⟨_,oz,hoz,hall⟩:=mem_ready.1 hz
 have hi0:=(mem_ready.1 hr).1
 simp only [waits,hoz,List.any_eq_true,Bool.and_eq_true,beq_iff_eq]at hw
 obtain⟨e,he,hb,heq⟩:=hw
 have h1:=hall e (by simpa using he) hb
 rw [heq]at h1
 by_cases hl:i<listed.size
 ·simp [hl]at hi0 h1
  simp [hi0]at h1
 ·simp [Array.getElem?_eq_none (Nat.le_of_not_lt hl)]at h1
theorem wpAnyZ_first {i:Nat}{oi:Oper}{v:Value}(hi:ops[i]? =some oi)(hw:waits md ops z i=true)(hsel: ∀(j:Nat) (o:Oper) cs b,ops[j]? =some o→o.op≠ .select cs b)(hQ: ∀c a w,Q (.panic c) (a.put oi.dst v) w→Q (.panic c) a w):
  ∀(fuel:Nat) (listed:Array Bool) (a:Act) (w:World),(∀j oj,ops[j]? =some oj→j≠i→listed.getD j true=false→(∀e∈oj.after,Region.binds md e=true→e.on≠i)→oi.apart ops oj=true)→i∈Region.ready md ops listed→YieldsIf P ops S oi v a→S w→
   wpAnyZ P md ops Q S z fuel (listed.setIfInBounds i true) (a.put oi.dst v) w→wpAnyZ P md ops Q S z (fuel+1) listed a w
 | fuel,listed,a,w,hfree,hr,hy,hS,H=>by
  refine⟨fun h=>absurd hr (by simp [h]),fun j hj=>?_⟩
  by_cases hji:j=i
  ·subst hji
   exact hy.wpOp hi hS ⟨fun _=>hS,H⟩
  ·have hjz:j≠z:=fun e=>not_ready hw hr (e▸hj)
   match fuel,H with
   | 0,H=>exact absurd (ready_mono hj hji) (by simp [H.1])
   | fuel+1,H=>
    obtain⟨hjun,oj,hoj,hall⟩:=mem_ready.1 hj
    have hi0:=(mem_ready.1 hr).1
    have hap:oi.apart ops oj=true:=hfree j oj hoj hji hjun fun e he hb heq=>by
     have h1:=hall e he hb
     rw [heq]at h1
     by_cases hl:i<listed.size
     ·simp [hl]at hi0 h1
      simp [hi0]at h1
     ·simp [Array.getElem?_eq_none (Nat.le_of_not_lt hl)]at h1
    refine wpOp_mono ?_ (wpOp_putIf hoj hap (fun cs b=>hsel i oi cs b hi) (fun cs b=>hsel j oj cs b hoj) hQ hy (H.2 j (ready_mono hj hji)))
    rintro a' w' ⟨hy',hS',H'⟩
    refine⟨hS',wpAnyZ_first hi hw hsel hQ fuel (listed.setIfInBounds j true) _ w' ?_ (ready_mono hr (Ne.symm hji)) hy' (hS' hjz) (by rw [Array.setIfInBounds_comm _ _ hji];exact H')⟩
    intro k ok hk hki hun hno
    refine hfree k ok hk hki ?_ hno
    by_cases hjk:j=k
    ·rw [←hjk];exact hjun
    ·rw [getD_set_ne true hjk]at hun;exact hun
theorem wpAnyZ_take {i:Nat}{oi:Oper}{v:Value}{fuel:Nat}{listed:Array Bool}{a:Act}{w:World}(hi:ops[i]? =some oi)(hw:waits md ops z i=true)
  (hs:Region.noSelect ops=true) (hf:Region.free md ops listed i=true) (hr:(Region.ready md ops listed).contains i=true)
  (hQ: ∀c a w,Q (.panic c) (a.put oi.dst v) w→Q (.panic c) a w) (hy:YieldsIf P ops S oi v a) (hS:S w)
  (h:wpAnyZ P md ops Q S z fuel (listed.setIfInBounds i true) (a.put oi.dst v) w):wpAnyZ P md ops Q S z (fuel+1) listed a w:=
 wpAnyZ_first hi hw (Region.noSelect_spec hs) hQ fuel listed a w (Region.free_spec hi hf) (by simpa using hr) hy hS h
def AllReadyZ (P:Program)(md:Region.Mode)(ops:Array Oper)(Q:Exit→Act→World→Prop)(S:World→Prop)(z fuel:Nat)(listed:Array Bool)(a:Act)(w:World)(rs:List Nat):Prop:=
 ∀i∈rs,wpOp P ops Q i (fun a' w'=>(i≠z→S w')∧wpAnyZ P md ops Q S z fuel (listed.setIfInBounds i true) a' w') a w
theorem AllReadyZ.nil {fuel:Nat}{listed:Array Bool}{a:Act}{w:World}:AllReadyZ P md ops Q S z fuel listed a w []:=fun _ h=>by cases h
theorem AllReadyZ.cons {fuel:Nat}{listed:Array Bool}{a:Act}{w:World}{i:Nat}{o:Oper}{rs:List Nat}(ho:ops[i]? =some o)
  (h: ∀K':Act→World→Prop,Shut (∀a w,(i≠z→S w)→((i≠z→S w)→wpAnyZ P md ops Q S z fuel (listed.setIfInBounds i true) a w)→K' a w)→if Region.wanted o (yielded ops a.tmps)=true then Oper.wp P o a w K' Q else K' (a.put o.dst undef) w)
  (hs:AllReadyZ P md ops Q S z fuel listed a w rs):AllReadyZ P md ops Q S z fuel listed a w (i::rs):=fun j hj=>by
 rcases List.mem_cons.1 hj with rfl|hj
 ·exact wpOp_step ho (fun K' hK=>h K' (fun a w hS hW=>hK a w ⟨hS,hW hS⟩))
 ·exact hs j hj
theorem wpAnyZ_ready {rs:List Nat}{fuel:Nat}{listed:Array Bool}{a:Act}{w:World}(hr:Region.ready md ops listed=rs)(hne:rs≠ [])
  (h:AllReadyZ P md ops Q S z fuel listed a w rs):wpAnyZ P md ops Q S z (fuel+1) listed a w:=⟨fun h0=>absurd (hr▸h0) hne,hr▸h⟩
theorem wpAnyZ_done {listed:Array Bool}{a:Act}{w:World}(hr:Region.ready md ops listed=[])(h:Q .normal a w): ∀fuel,wpAnyZ P md ops Q S z fuel listed a w
 | 0=>⟨hr,h⟩
 | _+1=>⟨fun _=>h,by rw [hr];simp⟩
theorem wp_region_Z (z:Nat){id:Nat}{a:Act}{w:World}(hm:P.follows .mixedOrders=true)(hS:S w.drew)
  (h:S w.drew→wpAnyZ P .any ops Q S z ops.size (Array.replicate ops.size false) a w.drew):(Code.region id ops true).wp P Q a w:=
 wp_region_any hm (wpAny_of_Z _ _ _ _ (h hS))
end
end Go.Proofs.YtfmcahjdhoabcaaGreat.Draw
namespace Go.Proofs.YtfmcahjdhoabcaaGreat.Draw
open Go.RowKit
section
variable {P:Program} {ops:Array Oper} {Q:Exit→Act→World→Prop} {md:Region.Mode} {S:World→Prop} {z:Nat}
def wpAnyY (P:Program)(md:Region.Mode)(ops:Array Oper)(Q:Exit→Act→World→Prop)(S:World→Prop)(z:Nat):Nat→Array Bool→Act→World→Prop
 | 0,listed,a,w=>Region.ready md ops listed=[]∧Q .normal a w
 | fuel+1,listed,a,w=>(Region.ready md ops listed=[]→Q .normal a w)∧ ∀i∈Region.ready md ops listed,wpOp P ops Q i (fun a' w'=>(i≠z→S w→S w')∧wpAnyY P md ops Q S z fuel (listed.setIfInBounds i true) a' w') a w
theorem wpAny_of_Y: ∀(fuel:Nat) (listed:Array Bool) (a:Act) (w:World),wpAnyY P md ops Q S z fuel listed a w→wpAny P md ops Q fuel listed a w
 | 0,_,_,_,h=>h
 | fuel+1,_,_,_,h=>⟨h.1,fun i hi=>wpOp_mono (fun a' w' h'=>wpAny_of_Y fuel _ a' w' h'.2) (h.2 i hi)⟩
theorem wpAnyY_first {i:Nat}{oi:Oper}{v:Value}(hi:ops[i]? =some oi)(hw:waits md ops z i=true)(hsel: ∀(j:Nat) (o:Oper) cs b,ops[j]? =some o→o.op≠ .select cs b)(hQ: ∀c a w,Q (.panic c) (a.put oi.dst v) w→Q (.panic c) a w):
  ∀(fuel:Nat) (listed:Array Bool) (a:Act) (w:World),(∀j oj,ops[j]? =some oj→j≠i→listed.getD j true=false→(∀e∈oj.after,Region.binds md e=true→e.on≠i)→oi.apart ops oj=true)→i∈Region.ready md ops listed→YieldsIf P ops S oi v a→S w→
   wpAnyY P md ops Q S z fuel (listed.setIfInBounds i true) (a.put oi.dst v) w→wpAnyY P md ops Q S z (fuel+1) listed a w
 | fuel,listed,a,w,hfree,hr,hy,hS,H=>by
  refine⟨fun h=>absurd hr (by simp [h]),fun j hj=>?_⟩
  by_cases hji:j=i
  ·subst hji
   exact hy.wpOp hi hS ⟨fun _ h=>h,H⟩
  ·have hjz:j≠z:=fun e=>not_ready hw hr (e▸hj)
   match fuel,H with
   | 0,H=>exact absurd (ready_mono hj hji) (by simp [H.1])
   | fuel+1,H=>
    obtain⟨hjun,oj,hoj,hall⟩:=mem_ready.1 hj
    have hi0:=(mem_ready.1 hr).1
    have hap:oi.apart ops oj=true:=hfree j oj hoj hji hjun fun e he hb heq=>by
     have h1:=hall e he hb
     rw [heq]at h1
     by_cases hl:i<listed.size
     ·simp [hl]at hi0 h1
      simp [hi0]at h1
     ·simp [Array.getElem?_eq_none (Nat.le_of_not_lt hl)]at h1
    refine wpOp_mono ?_ (wpOp_putIf hoj hap (fun cs b=>hsel i oi cs b hi) (fun cs b=>hsel j oj cs b hoj) hQ hy (H.2 j (ready_mono hj hji)))
    rintro a' w' ⟨hy',hS',H'⟩
    refine⟨hS',wpAnyY_first hi hw hsel hQ fuel (listed.setIfInBounds j true) _ w' ?_ (ready_mono hr (Ne.symm hji)) hy' (hS' hjz hS) (by rw [Array.setIfInBounds_comm _ _ hji];exact H')⟩
    intro k ok hk hki hun hno
    refine hfree k ok hk hki ?_ hno
    by_cases hjk:j=k
    ·rw [←hjk];exact hjun
    ·rw [getD_set_ne true hjk]at hun;exact hun
theorem wpAnyY_firstT {i:Nat}{oi:Oper}{v:Value}(hi:ops[i]? =some oi)(hsel: ∀(j:Nat) (o:Oper) cs b,ops[j]? =some o→o.op≠ .select cs b)(hQ: ∀c a w,Q (.panic c) (a.put oi.dst v) w→Q (.panic c) a w):
  ∀(fuel:Nat) (listed:Array Bool) (a:Act) (w:World),(∀j oj,ops[j]? =some oj→j≠i→listed.getD j true=false→(∀e∈oj.after,Region.binds md e=true→e.on≠i)→oi.apart ops oj=true)→i∈Region.ready md ops listed→YieldsIf P ops (fun _=>True) oi v a→
   wpAnyY P md ops Q S z fuel (listed.setIfInBounds i true) (a.put oi.dst v) w→wpAnyY P md ops Q S z (fuel+1) listed a w
 | fuel,listed,a,w,hfree,hr,hy,H=>by
  refine⟨fun h=>absurd hr (by simp [h]),fun j hj=>?_⟩
  by_cases hji:j=i
  ·subst hji
   exact hy.wpOp hi trivial ⟨fun _ h=>h,H⟩
  ·match fuel,H with
   | 0,H=>exact absurd (ready_mono hj hji) (by simp [H.1])
   | fuel+1,H=>
    obtain⟨hjun,oj,hoj,hall⟩:=mem_ready.1 hj
    have hi0:=(mem_ready.1 hr).1
    have hap:oi.apart ops oj=true:=hfree j oj hoj hji hjun fun e he hb heq=>by
     have h1:=hall e he hb
     rw [heq]at h1
     by_cases hl:i<listed.size
     ·simp [hl]at hi0 h1
      simp [hi0]at h1
     ·simp [Array.getElem?_eq_none (Nat.le_of_not_lt hl)]at h1
    refine wpOp_mono ?_ (wpOp_putIf hoj hap (fun cs b=>hsel i oi cs b hi) (fun cs b=>hsel j oj cs b hoj) hQ hy (H.2 j (ready_mono hj hji)))
    rintro a' w' ⟨hy',hS',H'⟩
    refine⟨hS',wpAnyY_firstT hi hsel hQ fuel (listed.setIfInBounds j true) _ w' ?_ (ready_mono hr (Ne.symm hji)) hy' (by rw [Array.setIfInBounds_comm _ _ hji];exact H')⟩
    intro k ok hk hki hun hno
    refine hfree k ok hk hki ?_ hno
    by_cases hjk:j=k
    ·rw [←hjk];exact hjun
    ·rw [getD_set_ne true hjk]at hun;exact hun
theorem wpAnyY_takeT {i:Nat}{oi:Oper}{v:Value}{fuel:Nat}{listed:Array Bool}{a:Act}{w:World}(hi:ops[i]? =some oi)
  (hs:Region.noSelect ops=true) (hf:Region.free md ops listed i=true) (hr:(Region.ready md ops listed).contains i=true)
  (hQ: ∀c a w,Q (.panic c) (a.put oi.dst v) w→Q (.panic c) a w) (hy:YieldsIf P ops (fun _=>True) oi v a)
  (h:wpAnyY P md ops Q S z fuel (listed.setIfInBounds i true) (a.put oi.dst v) w):wpAnyY P md ops Q S z (fuel+1) listed a w:=
 wpAnyY_firstT hi (Region.noSelect_spec hs) hQ fuel listed a w (Region.free_spec hi hf) (by simpa using hr) hy h
theorem wpAnyY_take {i:Nat}{oi:Oper}{v:Value}{fuel:Nat}{listed:Array Bool}{a:Act}{w:World}(hi:ops[i]? =some oi)(hw:waits md ops z i=true)
  (hs:Region.noSelect ops=true) (hf:Region.free md ops listed i=true) (hr:(Region.ready md ops listed).contains i=true)
  (hQ: ∀c a w,Q (.panic c) (a.put oi.dst v) w→Q (.panic c) a w) (hy:YieldsIf P ops S oi v a) (hS:S w)
  (h:wpAnyY P md ops Q S z fuel (listed.setIfInBounds i true) (a.put oi.dst v) w):wpAnyY P md ops Q S z (fuel+1) listed a w:=
 wpAnyY_first hi hw (Region.noSelect_spec hs) hQ fuel listed a w (Region.free_spec hi hf) (by simpa using hr) hy hS h
def AllReadyY (P:Program)(md:Region.Mode)(ops:Array Oper)(Q:Exit→Act→World→Prop)(S:World→Prop)(z fuel:Nat)(listed:Array Bool)(a:Act)(w:World)(rs:List Nat):Prop:=
 ∀i∈rs,wpOp P ops Q i (fun a' w'=>(i≠z→S w→S w')∧wpAnyY P md ops Q S z fuel (listed.setIfInBounds i true) a' w') a w
theorem AllReadyY.nil {fuel:Nat}{listed:Array Bool}{a:Act}{w:World}:AllReadyY P md ops Q S z fuel listed a w []:=fun _ h=>by cases h
theorem AllReadyY.cons {fuel:Nat}{listed:Array Bool}{a:Act}{w:World}{i:Nat}{o:Oper}{rs:List Nat}(ho:ops[i]? =some o)
  (h: ∀K':Act→World→Prop,Shut (∀a' w',(i≠z→S w→S w')→((i≠z→S w→S w')→wpAnyY P md ops Q S z fuel (listed.setIfInBounds i true) a' w')→K' a' w')→if Region.wanted o (yielded ops a.tmps)=true then Oper.wp P o a w K' Q else K' (a.put o.dst undef) w)
  (hs:AllReadyY P md ops Q S z fuel listed a w rs):AllReadyY P md ops Q S z fuel listed a w (i::rs):=fun j hj=>by
 rcases List.mem_cons.1 hj with rfl|hj
 ·exact wpOp_step ho (fun K' hK=>h K' (fun a w hS hW=>hK a w ⟨hS,hW hS⟩))
 ·exact hs j hj
theorem wpAnyY_ready {rs:List Nat}{fuel:Nat}{listed:Array Bool}{a:Act}{w:World}(hr:Region.ready md ops listed=rs)(hne:rs≠ [])
  (h:AllReadyY P md ops Q S z fuel listed a w rs):wpAnyY P md ops Q S z (fuel+1) listed a w:=⟨fun h0=>absurd (hr▸h0) hne,hr▸h⟩
theorem wpAnyY_done {listed:Array Bool}{a:Act}{w:World}(hr:Region.ready md ops listed=[])(h:Q .normal a w): ∀fuel,wpAnyY P md ops Q S z fuel listed a w
 | 0=>⟨hr,h⟩
 | _+1=>⟨fun _=>h,by rw [hr];simp⟩
theorem wp_region_Y (z:Nat){id:Nat}{a:Act}{w:World}(hm:P.follows .mixedOrders=true)(hS:S w.drew)
  (h:S w.drew→wpAnyY P .any ops Q S z ops.size (Array.replicate ops.size false) a w.drew):(Code.region id ops true).wp P Q a w:=
 wp_region_any hm (wpAny_of_Y _ _ _ _ (h hS))
end
end Go.Proofs.YtfmcahjdhoabcaaGreat.Draw
namespace Go.Proofs.YtfmcahjdhoabcaaGreat.Giv
open Go.RowKit RowG
def fitN (g:Gv)(s:ByteArray):Int:=min (s.size:Int) (min (g.cp-g.bs.size) (1000000000-(g.ba+g.bs.size)))
def writeG (g:Gv)(s:ByteArray):Gv×Int:=if g.en then(g,0)else(⟨g.ba,g.bs++s.extract 0 (fitN g s).toNat,g.cp,g.lm,g.en,g.dn⟩,fitN g s)
theorem fit_in {g:Gv}(h:g.ok=true)(s:ByteArray):0≤fitN g s∧fitN g s≤s.size∧g.bs.size+fitN g s≤g.cp∧g.ba+(g.bs.size+fitN g s)≤1000000000:=by
 obtain⟨h1,h2,h3,h4,h5,h6,h7⟩:=ok_iff.1 h
 unfold fitN
 omega
theorem ext_size (b:ByteArray)(i j:Nat)(h:j≤b.size):(b.extract i j).size=j-i:=by
 rw [ByteArray.size_extract]
 omega
theorem write_ok {g:Gv}(h:g.ok=true)(s:ByteArray):(writeG g s).1.ok=true:=by
 obtain⟨f1,f2,f3,f4⟩:=fit_in h s
 obtain⟨h1,h2,h3,h4,h5,h6,h7⟩:=ok_iff.1 h
 unfold writeG
 split
 ·exact h
 ·rename_i he
  have e:(s.extract 0 (fitN g s).toNat).size=(fitN g s).toNat:=by rw [ext_size _ _ _ (by omega)];omega
  refine ok_iff.2 ⟨h1,h2,?_,?_,h5,h6,fun hd=>absurd (h7 hd).1 he⟩
  ·show((g.bs++s.extract 0 (fitN g s).toNat).size:Int)≤g.cp
   rw [ByteArray.size_append,e];omega
  ·show g.ba+((g.bs++s.extract 0 (fitN g s).toNat).size:Int)≤1000000000
   rw [ByteArray.size_append,e];omega
theorem l6WriteW {T:TypeId}{pre post:List Value}{ow:Nat}(k:Nat)(g:Gv)(s:ByteArray)(w:World)(hv:Win T pre post ow w k g.c)(hok:g.ok=true)(hs:s.size≤2097152):
  Calls Tryz.prog 81 #[.pointer (some ⟨k,ow,none⟩),.string s] w fun x w'=>x=.returned (.int .i64 (writeG g s).2)∧Win T pre post ow w' k (writeG g s).1.c∧Draw.Kept k w w':=by
 have hmix:=mix
 obtain⟨i1,i2,i3,i4,i5,i6,i7⟩:=ok_iff.1 hok
 obtain⟨f1,f2,f3,f4⟩:=fit_in hok s
 have hE:=fun w'=>l6End g w' ⟨⟨by omega,by omega⟩,by omega⟩
 have hM1: ∀w',Calls Tryz.prog 64 #[.int .i64 (g.cp-g.bs.size),.int .i64 (1000000000-(g.ba+g.bs.size))] w' fun e w''=>e=.returned (.int .i64 (min (g.cp-g.bs.size) (1000000000-(g.ba+g.bs.size))))∧w'=w'':=fun w'=>by
  have:=Tak.l1Min (g.cp-g.bs.size) (1000000000-(g.ba+g.bs.size)) w'
  rw [show(if g.cp-g.bs.size<1000000000-(g.ba+g.bs.size)then g.cp-g.bs.size else 1000000000-(g.ba+g.bs.size))=min (g.cp-g.bs.size) (1000000000-(g.ba+g.bs.size)) by split <;>omega]at this
  exact this
 have hM2: ∀w',Calls Tryz.prog 64 #[.int .i64 (s.size:Int),.int .i64 (min (g.cp-g.bs.size) (1000000000-(g.ba+g.bs.size)))] w' fun e w''=>e=.returned (.int .i64 (fitN g s))∧w'=w'':=fun w'=>by
  have:=Tak.l1Min (s.size:Int) (min (g.cp-g.bs.size) (1000000000-(g.ba+g.bs.size))) w'
  rw [show(if (s.size:Int)<min (g.cp-g.bs.size) (1000000000-(g.ba+g.bs.size))then(s.size:Int)else min (g.cp-g.bs.size) (1000000000-(g.ba+g.bs.size)))=fitN g s by unfold fitN;split <;>omega]at this
  exact this
 have hW:Hid _:=(show writeG g s=if g.en then(g,0)else(⟨g.ba,g.bs++s.extract 0 (fitN g s).toNat,g.cp,g.lm,g.en,g.dn⟩,fitN g s)from rfl)
 obtain⟨n,hn⟩: ∃n,fitN g s=n:=⟨_,rfl⟩
 obtain⟨m,hm⟩: ∃m,min (g.cp-g.bs.size) (1000000000-(g.ba+g.bs.size))=m:=⟨_,rfl⟩
 rw [hn]at hM2 f1 f2 f3 f4 hW
 rw [hm]at hM1 hM2
 clear hn hm hok i7
 obtain⟨i8,i9⟩:=i1
 obtain⟨j1,j2⟩:=i2
 obtain⟨ba,bs,cp,lm,en,dn⟩:=g
 dsimp only [Gv.c,Gv.v]at *
 have HE:Hid _:=hE
 have H1:Hid _:=hM1
 have H2:Hid _:=hM2
 clear hE hM1 hM2
 have e0:=hv.cell0 rfl
 have e1:=hv.cell (i:=1) rfl
 have e2:=hv.cell (i:=2) rfl
 have e3:=hv.cell (i:=3) rfl
 have e4:=hv.cell (i:=4) rfl
 have e5:=hv.cell (i:=5) rfl
 have d0:=Draw.Later.cell e0
 have d1:=Draw.Later.cell e1
 have d2:=Draw.Later.cell e2
 have d3:=Draw.Later.cell e3
 have d4:=Draw.Later.cell e4
 have d5:=Draw.Later.cell e5
 go_enter Tryz.func81,Tryz.ntmps81
 go_wp2_with fail
 refine Draw.wp_region_later hmix (by kernel_rfl) ?_
 repeat (go_big_quiet_step (first|(go_at_call 53;exact Draw.later_of (HE.out _))|(go_at_call 64;first|(with_reducible exact Draw.later_same (H1.out _))|(with_reducible exact Draw.later_same (H2.out _)))))
 refine wpQuiet_nil ?_
 intro wq hw'
 obtain⟨q9,hq⟩:=hw'
 have hBq:=q9.h
 rw [←hq]at hBq
 clear hq q9 d0 d1 d2 d3 d4 d5 e0 e1 e2 e3 e4 e5 HE H1 H2
 have hv2:=hv.later hBq
 have K2:Draw.Kept k w wq:=Draw.Kept.ofBelow hBq (Nat.le_refl _)
 clear hBq hv
 have e1:=hv2.cell (i:=1) rfl
 have e4:=hv2.cell (i:=4) rfl
 have x1:=hv2.free 1
 cases en
 case true=>
  go_wp2_with fail
  go_ret
  rw [hW.out]
  exact⟨rfl,hv2,K2⟩
 have hcat: ¬9223372036854775807<bs.size+n.toNat:=by omega
 go_wp2_with fail
 refine Draw.wp_region_Y (S:=(fun w'=>w'.cell? ⟨k,ow+1,none⟩=some (.string bs))) 11 (by kernel_rfl) ?_ (fun hHeld=>?_)
 focus ((try dsimp only) <;>(first|with_reducible exact hHeld|exact e1))
 refine Draw.wpAnyY_take (i:=0) (v:=?_) rfl (by kernel_rfl) (by kernel_rfl) (by kernel_rfl) (by kernel_rfl) (fun _ _ _ h=>h) (Or.inl ⟨by rfl,?_⟩) (by assumption) ?_
 rotate_left 1
 focus (intro s h;(try dsimp only at h);go_simp;(try apply And.intro) <;>with_reducible rfl)
 (try simp only [Act.put,Draw.lays])
 refine Draw.wpAnyY_take (i:=1) (v:=?_) rfl (by kernel_rfl) (by kernel_rfl) (by kernel_rfl) (by kernel_rfl) (fun _ _ _ h=>h) (Or.inl ⟨by rfl,?_⟩) (by assumption) ?_
 rotate_left 1
 focus (intro s h;(try dsimp only at h);go_simp;(try apply And.intro) <;>with_reducible rfl)
 (try simp only [Act.put,Draw.lays])
 refine Draw.wpAnyY_take (i:=2) (v:=?_) rfl (by kernel_rfl) (by kernel_rfl) (by kernel_rfl) (by kernel_rfl) (fun _ _ _ h=>h) (Or.inl ⟨by rfl,?_⟩) (by assumption) ?_
 rotate_left 1
 focus (intro s h;(try dsimp only at h);go_simp;(try apply And.intro) <;>with_reducible rfl)
 (try simp only [Act.put,Draw.lays])
 refine Draw.wpAnyY_take (i:=3) (v:=?_) rfl (by kernel_rfl) (by kernel_rfl) (by kernel_rfl) (by kernel_rfl) (fun _ _ _ h=>h) (Or.inl ⟨by rfl,?_⟩) (by assumption) ?_
 rotate_left 1
 focus (intro s h;(try dsimp only at h);go_simp;(try apply And.intro) <;>with_reducible rfl)
 (try simp only [Act.put,Draw.lays])
 refine Draw.wpAnyY_take (i:=4) (v:=?_) rfl (by kernel_rfl) (by kernel_rfl) (by kernel_rfl) (by kernel_rfl) (fun _ _ _ h=>h) (Or.inl ⟨by rfl,?_⟩) (by assumption) ?_
 rotate_left 1
 focus (intro s h;(try dsimp only at h);go_simp;(try apply And.intro) <;>with_reducible rfl)
 (try simp only [Act.put,Draw.lays])
 refine Draw.wpAnyY_take (i:=5) (v:=?_) rfl (by kernel_rfl) (by kernel_rfl) (by kernel_rfl) (by kernel_rfl) (fun _ _ _ h=>h) (Or.inl ⟨by rfl,?_⟩) (by assumption) ?_
 rotate_left 1
 focus (intro s h;(try dsimp only at h);go_simp;(try apply And.intro) <;>with_reducible rfl)
 (try simp only [Act.put,Draw.lays])
 refine Draw.wpAnyY_take (i:=6) (v:=?_) rfl (by kernel_rfl) (by kernel_rfl) (by kernel_rfl) (by kernel_rfl) (fun _ _ _ h=>h) (Or.inl ⟨by rfl,?_⟩) (by assumption) ?_
 rotate_left 1
 focus (intro s h;(try dsimp only at h);go_simp;(try apply And.intro) <;>with_reducible rfl)
 (try simp only [Act.put,Draw.lays])
 refine Draw.wpAnyY_take (i:=7) (v:=?_) rfl (by kernel_rfl) (by kernel_rfl) (by kernel_rfl) (by kernel_rfl) (fun _ _ _ h=>h) (Or.inl ⟨by rfl,?_⟩) (by assumption) ?_
 rotate_left 1
 focus (intro s h;(try dsimp only at h);go_simp;(try apply And.intro) <;>with_reducible rfl)
 (try simp only [Act.put,Draw.lays])
 refine Draw.wpAnyY_take (i:=8) (v:=?_) rfl (by kernel_rfl) (by kernel_rfl) (by kernel_rfl) (by kernel_rfl) (fun _ _ _ h=>h) (Or.inl ⟨by rfl,?_⟩) (by assumption) ?_
 rotate_left 1
 focus (intro s h;(try dsimp only at h);go_simp;(try apply And.intro) <;>with_reducible rfl)
 (try simp only [Act.put,Draw.lays])
 refine Draw.wpAnyY_takeT (i:=9) (v:=?_) rfl (by kernel_rfl) (by kernel_rfl) (by kernel_rfl) (fun _ _ _ h=>h) (Or.inl ⟨by rfl,?_⟩) ?_
 rotate_left 1
 focus (intro s h;(try dsimp only at h);go_simp;(try apply And.intro) <;>with_reducible rfl)
 (try simp only [Act.put,Draw.lays])
 refine Draw.wpAnyY_takeT (i:=10) (v:=?_) rfl (by kernel_rfl) (by kernel_rfl) (by kernel_rfl) (fun _ _ _ h=>h) (Or.inl ⟨by rfl,?_⟩) ?_
 rotate_left 1
 focus (intro s h;(try dsimp only at h);go_simp;(try apply And.intro) <;>with_reducible rfl)
 (try simp only [Act.put,Draw.lays])
 refine Draw.wpAnyY_ready (rs:=[11]) (by kernel_rfl) (by simp) ?_
 refine Draw.AllReadyY.cons rfl (fun K hK=>?_) Draw.AllReadyY.nil
 go_simp
 refine hK.out _ _ (fun h=>absurd rfl h) (fun hHeld2=>?_)
 clear hK K hHeld hHeld2
 (try simp only [Act.put,Draw.lays])
 refine Draw.wpAnyY_done (by kernel_rfl) ?_ _
 go_wp2_with fail
 go_ret
 rw [hW.out]
 exact⟨rfl,hv2.drew.set 1 _,(K2.drew).setCell (.inl rfl) _⟩
theorem l6Write (k:Nat)(g:Gv)(s:ByteArray)(w:World)(hv:Var 47 w k g.c)(hok:g.ok=true)(hs:s.size≤2097152):
  Calls Tryz.prog 81 #[.pointer (some ⟨k,0,none⟩),.string s] w fun x w'=>x=.returned (.int .i64 (writeG g s).2)∧Var 47 w' k (writeG g s).1.c∧Draw.Kept k w w':=
 (l6WriteW k g s w hv.win hok hs).mono fun _ _ ⟨h1,h2,h3⟩=>⟨h1,h2.whole,h3⟩
end Go.Proofs.YtfmcahjdhoabcaaGreat.Giv
