/- Contracts of this seat's functions, and their mathematics (Win Take TakeZ TakeY). -/
import Derived.Test.YtanfnphdgcnojaaGreatR1
import Derived.Deep.RegionHeld3
set_option linter.unusedVariables false
set_option linter.unusedSimpArgs false
namespace Go.Proofs.YtanfnphdgcnojaaGreat.RowG
open Go.RowKit
structure Win (T : TypeId) (pre post : List Value) (o : Nat) (w : World) (k : Nat) (vs : List Value) : Prop where
 len : pre.length = o
 blk : w.heap[k]? = some (.cells (pre ++ vs ++ post).toArray T (0, 0))
variable {T : TypeId} {pre post : List Value} {o : Nat}
theorem Win.var {w : World} {k : Nat} {vs : List Value} (h : Win T pre post o w k vs) : Var T w k (pre ++ vs ++ post) := h.blk
theorem Win.of {w : World} {k : Nat} {vs : List Value} (hl : pre.length = o) (h : Var T w k (pre ++ vs ++ post)) : Win T pre post o w k vs := ⟨hl, h⟩
theorem Win.cell {w : World} {k : Nat} {vs : List Value} (h : Win T pre post o w k vs) {i : Nat} {v : Value} (hv : vs[i]? = some v) : w.cell? ⟨k, o + i, Option.none⟩ = some v := by
 refine h.var.cell ?_
 have hi : i < vs.length := (List.getElem?_eq_some_iff.1 hv).1
 rw [← h.len, List.getElem?_append_left (by simp; omega), List.getElem?_append_right (by omega)]
 simpa using hv
theorem Win.cell0 {w : World} {k : Nat} {vs : List Value} (h : Win T pre post o w k vs) {v : Value} (hv : vs[0]? = some v) : w.cell? ⟨k, o, Option.none⟩ = some v := h.cell (i := 0) hv
theorem Win.free {w : World} {k : Nat} {vs : List Value} (h : Win T pre post o w k vs) (i : Nat) : w.frozen? ⟨k, o + i, Option.none⟩ = false := h.var.free _
theorem Win.free0 {w : World} {k : Nat} {vs : List Value} (h : Win T pre post o w k vs) : w.frozen? ⟨k, o, Option.none⟩ = false := h.var.free _
theorem Win.c6 {w : World} {k : Nat} {a0 a1 a2 a3 a4 a5 : Value} (h : Win T pre post o w k [a0, a1, a2, a3, a4, a5]) : w.cell? ⟨k, o + 0, Option.none⟩ = some a0 ∧ w.cell? ⟨k, o + 1, Option.none⟩ = some a1 ∧ w.cell? ⟨k, o + 2, Option.none⟩ = some a2 ∧ w.cell? ⟨k, o + 3, Option.none⟩ = some a3 ∧ w.cell? ⟨k, o + 4, Option.none⟩ = some a4 ∧ w.cell? ⟨k, o + 5, Option.none⟩ = some a5 := ⟨h.cell (i := 0) rfl, h.cell (i := 1) rfl, h.cell (i := 2) rfl, h.cell (i := 3) rfl, h.cell (i := 4) rfl, h.cell (i := 5) rfl⟩
theorem Win.f6 {w : World} {k : Nat} {vs : List Value} (h : Win T pre post o w k vs) : w.frozen? ⟨k, o + 0, Option.none⟩ = false ∧ w.frozen? ⟨k, o + 1, Option.none⟩ = false ∧ w.frozen? ⟨k, o + 2, Option.none⟩ = false ∧ w.frozen? ⟨k, o + 3, Option.none⟩ = false ∧ w.frozen? ⟨k, o + 4, Option.none⟩ = false ∧ w.frozen? ⟨k, o + 5, Option.none⟩ = false := ⟨h.free 0, h.free 1, h.free 2, h.free 3, h.free 4, h.free 5⟩
theorem Win.c7 {w : World} {k : Nat} {a0 a1 a2 a3 a4 a5 a6 : Value} (h : Win T pre post o w k [a0, a1, a2, a3, a4, a5, a6]) : w.cell? ⟨k, o + 0, Option.none⟩ = some a0 ∧ w.cell? ⟨k, o + 1, Option.none⟩ = some a1 ∧ w.cell? ⟨k, o + 2, Option.none⟩ = some a2 ∧ w.cell? ⟨k, o + 3, Option.none⟩ = some a3 ∧ w.cell? ⟨k, o + 4, Option.none⟩ = some a4 ∧ w.cell? ⟨k, o + 5, Option.none⟩ = some a5 ∧ w.cell? ⟨k, o + 6, Option.none⟩ = some a6 := ⟨h.cell (i := 0) rfl, h.cell (i := 1) rfl, h.cell (i := 2) rfl, h.cell (i := 3) rfl, h.cell (i := 4) rfl, h.cell (i := 5) rfl, h.cell (i := 6) rfl⟩
theorem Win.f7 {w : World} {k : Nat} {vs : List Value} (h : Win T pre post o w k vs) : w.frozen? ⟨k, o + 0, Option.none⟩ = false ∧ w.frozen? ⟨k, o + 1, Option.none⟩ = false ∧ w.frozen? ⟨k, o + 2, Option.none⟩ = false ∧ w.frozen? ⟨k, o + 3, Option.none⟩ = false ∧ w.frozen? ⟨k, o + 4, Option.none⟩ = false ∧ w.frozen? ⟨k, o + 5, Option.none⟩ = false ∧ w.frozen? ⟨k, o + 6, Option.none⟩ = false := ⟨h.free 0, h.free 1, h.free 2, h.free 3, h.free 4, h.free 5, h.free 6⟩
theorem Win.c13 {w : World} {k : Nat} {a0 a1 a2 a3 a4 a5 a6 a7 a8 a9 a10 a11 a12 : Value} (h : Win T pre post o w k [a0, a1, a2, a3, a4, a5, a6, a7, a8, a9, a10, a11, a12]) : w.cell? ⟨k, o + 0, Option.none⟩ = some a0 ∧ w.cell? ⟨k, o + 1, Option.none⟩ = some a1 ∧ w.cell? ⟨k, o + 2, Option.none⟩ = some a2 ∧ w.cell? ⟨k, o + 3, Option.none⟩ = some a3 ∧ w.cell? ⟨k, o + 4, Option.none⟩ = some a4 ∧ w.cell? ⟨k, o + 5, Option.none⟩ = some a5 ∧ w.cell? ⟨k, o + 6, Option.none⟩ = some a6 ∧ w.cell? ⟨k, o + 7, Option.none⟩ = some a7 ∧ w.cell? ⟨k, o + 8, Option.none⟩ = some a8 ∧ w.cell? ⟨k, o + 9, Option.none⟩ = some a9 ∧ w.cell? ⟨k, o + 10, Option.none⟩ = some a10 ∧ w.cell? ⟨k, o + 11, Option.none⟩ = some a11 ∧ w.cell? ⟨k, o + 12, Option.none⟩ = some a12 := ⟨h.cell (i := 0) rfl, h.cell (i := 1) rfl, h.cell (i := 2) rfl, h.cell (i := 3) rfl, h.cell (i := 4) rfl, h.cell (i := 5) rfl, h.cell (i := 6) rfl, h.cell (i := 7) rfl, h.cell (i := 8) rfl, h.cell (i := 9) rfl, h.cell (i := 10) rfl, h.cell (i := 11) rfl, h.cell (i := 12) rfl⟩
theorem Win.f13 {w : World} {k : Nat} {vs : List Value} (h : Win T pre post o w k vs) : w.frozen? ⟨k, o + 0, Option.none⟩ = false ∧ w.frozen? ⟨k, o + 1, Option.none⟩ = false ∧ w.frozen? ⟨k, o + 2, Option.none⟩ = false ∧ w.frozen? ⟨k, o + 3, Option.none⟩ = false ∧ w.frozen? ⟨k, o + 4, Option.none⟩ = false ∧ w.frozen? ⟨k, o + 5, Option.none⟩ = false ∧ w.frozen? ⟨k, o + 6, Option.none⟩ = false ∧ w.frozen? ⟨k, o + 7, Option.none⟩ = false ∧ w.frozen? ⟨k, o + 8, Option.none⟩ = false ∧ w.frozen? ⟨k, o + 9, Option.none⟩ = false ∧ w.frozen? ⟨k, o + 10, Option.none⟩ = false ∧ w.frozen? ⟨k, o + 11, Option.none⟩ = false ∧ w.frozen? ⟨k, o + 12, Option.none⟩ = false := ⟨h.free 0, h.free 1, h.free 2, h.free 3, h.free 4, h.free 5, h.free 6, h.free 7, h.free 8, h.free 9, h.free 10, h.free 11, h.free 12⟩
theorem Win.lt {w : World} {k : Nat} {vs : List Value} (h : Win T pre post o w k vs) : k < w.heap.size := h.var.lt
theorem Win.same {w w' : World} {k : Nat} {vs : List Value} (h : Win T pre post o w k vs) (e : w'.heap[k]? = w.heap[k]?) : Win T pre post o w' k vs := ⟨h.len, e.trans h.blk⟩
theorem Win.later {w w' : World} {k : Nat} {vs : List Value} (h : Win T pre post o w k vs) (hb : Below w.heap.size w w') : Win T pre post o w' k vs := h.same (hb.block k h.lt)
theorem Win.kept {w w' : World} {k c : Nat} {vs : List Value} (h : Win T pre post o w k vs) (hk : Draw.Kept c w w') (hc : k ≠ c) : Win T pre post o w' k vs := h.same (hk.block k h.lt hc)
theorem Win.grown {w w' : World} {k : Nat} {r : Option Nat} {vs : List Value} (h : Win T pre post o w k vs) (hg : w.grownBy w' r) (hc : ∀ g, r = some g → k ≠ g) : Win T pre post o w' k vs := h.same (hg.block k h.lt (fun e => hc k e.symm rfl))
theorem Win.alloc {w : World} {k : Nat} {vs : List Value} (h : Win T pre post o w k vs) (x : Obj) : Win T pre post o (w.alloc x) k vs := h.same (Below.heap_alloc _ _ _ h.lt)
theorem Win.other {w : World} {k : Nat} {vs : List Value} (h : Win T pre post o w k vs) {p : Addr} (hp : k ≠ p.block) (v : Value) : Win T pre post o (w.setCell p v) k vs := h.same (Below.heap_setCell _ _ _ _ hp)
theorem Win.set {w : World} {k : Nat} {vs : List Value} (h : Win T pre post o w k vs) (i : Nat) (v : Value) (hi : i < vs.length := by simp) : Win T pre post o (w.setCell ⟨k, o + i, Option.none⟩ v) k (vs.set i v) := by
 refine ⟨h.len, ?_⟩
 have := h.var.set (o + i) v
 rw [← h.len, List.append_assoc, List.set_append_right _ _ (by omega), List.set_append_left _ _ (by omega), Nat.add_sub_cancel_left] at this
 rw [← h.len, List.append_assoc]
 exact this
theorem Win.set0 {w : World} {k : Nat} {vs : List Value} (h : Win T pre post o w k vs) (v : Value) (hi : 0 < vs.length := by simp) : Win T pre post o (w.setCell ⟨k, o, Option.none⟩ v) k (vs.set 0 v) := h.set 0 v hi
theorem Win.drew {w : World} {k : Nat} {vs : List Value} (h : Win T pre post o w k vs) : Win T pre post o w.drew k vs := ⟨h.len, h.blk⟩
theorem Var.win {w : World} {k : Nat} {vs : List Value} (h : Var T w k vs) : Win T [] [] 0 w k vs := ⟨rfl, by simpa [Var] using h⟩
theorem Win.whole {w : World} {k : Nat} {vs : List Value} (h : Win T [] [] 0 w k vs) : Var T w k vs := by
 have := h.blk
 simpa [Var] using this
end Go.Proofs.YtanfnphdgcnojaaGreat.RowG
namespace Go.Proofs.YtanfnphdgcnojaaGreat.Draw
open Go.RowKit
section
variable {P : Program} {ops : Array Oper} {Q : Exit → Act → World → Prop} {md : Region.Mode} {S : World → Prop}
end
end Go.Proofs.YtanfnphdgcnojaaGreat.Draw
namespace Go.Proofs.YtanfnphdgcnojaaGreat.Draw
open Go.RowKit
section
variable {P : Program} {ops : Array Oper} {Q : Exit → Act → World → Prop} {md : Region.Mode} {S : World → Prop} {z : Nat}
def wpAnyZ (P : Program) (md : Region.Mode) (ops : Array Oper) (Q : Exit → Act → World → Prop) (S : World → Prop) (z : Nat) : Nat → Array Bool → Act → World → Prop
 | 0, listed, a, w => Region.ready md ops listed = [] ∧ Q .normal a w
 | fuel + 1, listed, a, w => (Region.ready md ops listed = [] → Q .normal a w) ∧ ∀ i ∈ Region.ready md ops listed, wpOp P ops Q i (fun a' w' => (i ≠ z → S w') ∧ wpAnyZ P md ops Q S z fuel (listed.setIfInBounds i true) a' w') a w
theorem wpAny_of_Z : ∀ (fuel : Nat) (listed : Array Bool) (a : Act) (w : World), wpAnyZ P md ops Q S z fuel listed a w → wpAny P md ops Q fuel listed a w
 | 0, _, _, _, h => h
 | fuel + 1, _, _, _, h => ⟨h.1, fun i hi => wpOp_mono (fun a' w' h' => wpAny_of_Z fuel _ a' w' h'.2) (h.2 i hi)⟩
def waits (md : Region.Mode) (ops : Array Oper) (z i : Nat) : Bool := match ops[z]? with
 | some o => o.after.toList.any fun e => Region.binds md e && (e.on == i)
 | none => false
theorem not_ready {listed : Array Bool} {i : Nat} (hw : waits md ops z i = true) (hr : i ∈ Region.ready md ops listed) : z ∉ Region.ready md ops listed := by
 intro hz
 obtain ⟨_, oz, hoz, hall⟩ := mem_ready.1 hz
 have hi0 := (mem_ready.1 hr).1
 simp only [waits, hoz, List.any_eq_true, Bool.and_eq_true, beq_iff_eq] at hw
 obtain ⟨e, he, hb, heq⟩ := hw
 have h1 := hall e (by simpa using he) hb
 rw [heq] at h1
 by_cases hl : i < listed.size
 ·simp [hl] at hi0 h1
  simp [hi0] at h1
 ·simp [Array.getElem?_eq_none (Nat.le_of_not_lt hl)] at h1
theorem wpAnyZ_first {i : Nat} {oi : Oper} {v : Value} (hi : ops[i]? = some oi) (hw : waits md ops z i = true) (hsel : ∀ (j : Nat) (o : Oper) cs b, ops[j]? = some o → o.op ≠ .select cs b) (hQ : ∀ c a w, Q (.panic c) (a.put oi.dst v) w → Q (.panic c) a w) :
  ∀ (fuel : Nat) (listed : Array Bool) (a : Act) (w : World), (∀ j oj, ops[j]? = some oj → j ≠ i → listed.getD j true = false → (∀ e ∈ oj.after, Region.binds md e = true → e.on ≠ i) → oi.apart ops oj = true) → i ∈ Region.ready md ops listed → YieldsIf P ops S oi v a → S w →
   wpAnyZ P md ops Q S z fuel (listed.setIfInBounds i true) (a.put oi.dst v) w → wpAnyZ P md ops Q S z (fuel + 1) listed a w
 | fuel, listed, a, w, hfree, hr, hy, hS, H => by
  refine ⟨fun h => absurd hr (by simp [h]), fun j hj => ?_⟩
  by_cases hji : j = i
  ·subst hji
   exact hy.wpOp hi hS ⟨fun _ => hS, H⟩
  ·have hjz : j ≠ z := fun e => not_ready hw hr (e ▸ hj)
   match fuel, H with
   | 0, H => exact absurd (ready_mono hj hji) (by simp [H.1])
   | fuel + 1, H =>
    obtain ⟨hjun, oj, hoj, hall⟩ := mem_ready.1 hj
    have hi0 := (mem_ready.1 hr).1
    have hap : oi.apart ops oj = true := hfree j oj hoj hji hjun fun e he hb heq => by
     have h1 := hall e he hb
     rw [heq] at h1
     by_cases hl : i < listed.size
     ·simp [hl] at hi0 h1
      simp [hi0] at h1
     ·simp [Array.getElem?_eq_none (Nat.le_of_not_lt hl)] at h1
    refine wpOp_mono ?_ (wpOp_putIf hoj hap (fun cs b => hsel i oi cs b hi) (fun cs b => hsel j oj cs b hoj) hQ hy (H.2 j (ready_mono hj hji)))
    rintro a' w' ⟨hy', hS', H'⟩
    refine ⟨hS', wpAnyZ_first hi hw hsel hQ fuel (listed.setIfInBounds j true) _ w' ?_ (ready_mono hr (Ne.symm hji)) hy' (hS' hjz) (by rw [Array.setIfInBounds_comm _ _ hji]; exact H')⟩
    intro k ok hk hki hun hno
    refine hfree k ok hk hki ?_ hno
    by_cases hjk : j = k
    ·rw [← hjk]; exact hjun
    ·rw [getD_set_ne true hjk] at hun; exact hun
theorem wpAnyZ_take {i : Nat} {oi : Oper} {v : Value} {fuel : Nat} {listed : Array Bool} {a : Act} {w : World} (hi : ops[i]? = some oi) (hw : waits md ops z i = true)
  (hs : Region.noSelect ops = true) (hf : Region.free md ops listed i = true) (hr : (Region.ready md ops listed).contains i = true)
  (hQ : ∀ c a w, Q (.panic c) (a.put oi.dst v) w → Q (.panic c) a w) (hy : YieldsIf P ops S oi v a) (hS : S w)
  (h : wpAnyZ P md ops Q S z fuel (listed.setIfInBounds i true) (a.put oi.dst v) w) : wpAnyZ P md ops Q S z (fuel + 1) listed a w :=
 wpAnyZ_first hi hw (Region.noSelect_spec hs) hQ fuel listed a w (Region.free_spec hi hf) (by simpa using hr) hy hS h
def AllReadyZ (P : Program) (md : Region.Mode) (ops : Array Oper) (Q : Exit → Act → World → Prop) (S : World → Prop) (z fuel : Nat) (listed : Array Bool) (a : Act) (w : World) (rs : List Nat) : Prop :=
 ∀ i ∈ rs, wpOp P ops Q i (fun a' w' => (i ≠ z → S w') ∧ wpAnyZ P md ops Q S z fuel (listed.setIfInBounds i true) a' w') a w
theorem AllReadyZ.nil {fuel : Nat} {listed : Array Bool} {a : Act} {w : World} : AllReadyZ P md ops Q S z fuel listed a w [] := fun _ h => by cases h
theorem AllReadyZ.cons {fuel : Nat} {listed : Array Bool} {a : Act} {w : World} {i : Nat} {o : Oper} {rs : List Nat} (ho : ops[i]? = some o)
  (h : ∀ K' : Act → World → Prop, Shut (∀ a w, (i ≠ z → S w) → ((i ≠ z → S w) → wpAnyZ P md ops Q S z fuel (listed.setIfInBounds i true) a w) → K' a w) → if Region.wanted o (yielded ops a.tmps) = true then Oper.wp P o a w K' Q else K' (a.put o.dst undef) w)
  (hs : AllReadyZ P md ops Q S z fuel listed a w rs) : AllReadyZ P md ops Q S z fuel listed a w (i :: rs) := fun j hj => by
 rcases List.mem_cons.1 hj with rfl | hj
 ·exact wpOp_step ho (fun K' hK => h K' (fun a w hS hW => hK a w ⟨hS, hW hS⟩))
 ·exact hs j hj
theorem wpAnyZ_ready {rs : List Nat} {fuel : Nat} {listed : Array Bool} {a : Act} {w : World} (hr : Region.ready md ops listed = rs) (hne : rs ≠ [])
  (h : AllReadyZ P md ops Q S z fuel listed a w rs) : wpAnyZ P md ops Q S z (fuel + 1) listed a w := ⟨fun h0 => absurd (hr ▸ h0) hne, hr ▸ h⟩
theorem wpAnyZ_done {listed : Array Bool} {a : Act} {w : World} (hr : Region.ready md ops listed = []) (h : Q .normal a w) : ∀ fuel, wpAnyZ P md ops Q S z fuel listed a w
 | 0 => ⟨hr, h⟩
 | _ + 1 => ⟨fun _ => h, by rw [hr]; simp⟩
theorem wp_region_Z (z : Nat) {id : Nat} {a : Act} {w : World} (hm : P.follows .mixedOrders = true) (hS : S w.drew)
  (h : S w.drew → wpAnyZ P .any ops Q S z ops.size (Array.replicate ops.size false) a w.drew) : (Code.region id ops true).wp P Q a w :=
 wp_region_any hm (wpAny_of_Z _ _ _ _ (h hS))
end
end Go.Proofs.YtanfnphdgcnojaaGreat.Draw
namespace Go.Proofs.YtanfnphdgcnojaaGreat.Draw
open Go.RowKit
section
variable {P : Program} {ops : Array Oper} {Q : Exit → Act → World → Prop} {md : Region.Mode} {S : World → Prop} {z : Nat}
def wpAnyY (P : Program) (md : Region.Mode) (ops : Array Oper) (Q : Exit → Act → World → Prop) (S : World → Prop) (z : Nat) : Nat → Array Bool → Act → World → Prop
 | 0, listed, a, w => Region.ready md ops listed = [] ∧ Q .normal a w
 | fuel + 1, listed, a, w => (Region.ready md ops listed = [] → Q .normal a w) ∧ ∀ i ∈ Region.ready md ops listed, wpOp P ops Q i (fun a' w' => (i ≠ z → S w → S w') ∧ wpAnyY P md ops Q S z fuel (listed.setIfInBounds i true) a' w') a w
theorem wpAny_of_Y : ∀ (fuel : Nat) (listed : Array Bool) (a : Act) (w : World), wpAnyY P md ops Q S z fuel listed a w → wpAny P md ops Q fuel listed a w
 | 0, _, _, _, h => h
 | fuel + 1, _, _, _, h => ⟨h.1, fun i hi => wpOp_mono (fun a' w' h' => wpAny_of_Y fuel _ a' w' h'.2) (h.2 i hi)⟩
theorem wpAnyY_first {i : Nat} {oi : Oper} {v : Value} (hi : ops[i]? = some oi) (hw : waits md ops z i = true) (hsel : ∀ (j : Nat) (o : Oper) cs b, ops[j]? = some o → o.op ≠ .select cs b) (hQ : ∀ c a w, Q (.panic c) (a.put oi.dst v) w → Q (.panic c) a w) :
  ∀ (fuel : Nat) (listed : Array Bool) (a : Act) (w : World), (∀ j oj, ops[j]? = some oj → j ≠ i → listed.getD j true = false → (∀ e ∈ oj.after, Region.binds md e = true → e.on ≠ i) → oi.apart ops oj = true) → i ∈ Region.ready md ops listed → YieldsIf P ops S oi v a → S w →
   wpAnyY P md ops Q S z fuel (listed.setIfInBounds i true) (a.put oi.dst v) w → wpAnyY P md ops Q S z (fuel + 1) listed a w
 | fuel, listed, a, w, hfree, hr, hy, hS, H => by
  refine ⟨fun h => absurd hr (by simp [h]), fun j hj => ?_⟩
  by_cases hji : j = i
  ·subst hji
   exact hy.wpOp hi hS ⟨fun _ h => h, H⟩
  ·have hjz : j ≠ z := fun e => not_ready hw hr (e ▸ hj)
   match fuel, H with
   | 0, H => exact absurd (ready_mono hj hji) (by simp [H.1])
   | fuel + 1, H =>
    obtain ⟨hjun, oj, hoj, hall⟩ := mem_ready.1 hj
    have hi0 := (mem_ready.1 hr).1
    have hap : oi.apart ops oj = true := hfree j oj hoj hji hjun fun e he hb heq => by
     have h1 := hall e he hb
     rw [heq] at h1
     by_cases hl : i < listed.size
     ·simp [hl] at hi0 h1
      simp [hi0] at h1
     ·simp [Array.getElem?_eq_none (Nat.le_of_not_lt hl)] at h1
    refine wpOp_mono ?_ (wpOp_putIf hoj hap (fun cs b => hsel i oi cs b hi) (fun cs b => hsel j oj cs b hoj) hQ hy (H.2 j (ready_mono hj hji)))
    rintro a' w' ⟨hy', hS', H'⟩
    refine ⟨hS', wpAnyY_first hi hw hsel hQ fuel (listed.setIfInBounds j true) _ w' ?_ (ready_mono hr (Ne.symm hji)) hy' (hS' hjz hS) (by rw [Array.setIfInBounds_comm _ _ hji]; exact H')⟩
    intro k ok hk hki hun hno
    refine hfree k ok hk hki ?_ hno
    by_cases hjk : j = k
    ·rw [← hjk]; exact hjun
    ·rw [getD_set_ne true hjk] at hun; exact hun
theorem wpAnyY_firstT {i : Nat} {oi : Oper} {v : Value} (hi : ops[i]? = some oi) (hsel : ∀ (j : Nat) (o : Oper) cs b, ops[j]? = some o → o.op ≠ .select cs b) (hQ : ∀ c a w, Q (.panic c) (a.put oi.dst v) w → Q (.panic c) a w) :
  ∀ (fuel : Nat) (listed : Array Bool) (a : Act) (w : World), (∀ j oj, ops[j]? = some oj → j ≠ i → listed.getD j true = false → (∀ e ∈ oj.after, Region.binds md e = true → e.on ≠ i) → oi.apart ops oj = true) → i ∈ Region.ready md ops listed → YieldsIf P ops (fun _ => True) oi v a →
   wpAnyY P md ops Q S z fuel (listed.setIfInBounds i true) (a.put oi.dst v) w → wpAnyY P md ops Q S z (fuel + 1) listed a w
 | fuel, listed, a, w, hfree, hr, hy, H => by
  refine ⟨fun h => absurd hr (by simp [h]), fun j hj => ?_⟩
  by_cases hji : j = i
  ·subst hji
   exact hy.wpOp hi trivial ⟨fun _ h => h, H⟩
  ·match fuel, H with
   | 0, H => exact absurd (ready_mono hj hji) (by simp [H.1])
   | fuel + 1, H =>
    obtain ⟨hjun, oj, hoj, hall⟩ := mem_ready.1 hj
    have hi0 := (mem_ready.1 hr).1
    have hap : oi.apart ops oj = true := hfree j oj hoj hji hjun fun e he hb heq => by
     have h1 := hall e he hb
     rw [heq] at h1
     by_cases hl : i < listed.size
     ·simp [hl] at hi0 h1
      simp [hi0] at h1
     ·simp [Array.getElem?_eq_none (Nat.le_of_not_lt hl)] at h1
    refine wpOp_mono ?_ (wpOp_putIf hoj hap (fun cs b => hsel i oi cs b hi) (fun cs b => hsel j oj cs b hoj) hQ hy (H.2 j (ready_mono hj hji)))
    rintro a' w' ⟨hy', hS', H'⟩
    refine ⟨hS', wpAnyY_firstT hi hsel hQ fuel (listed.setIfInBounds j true) _ w' ?_ (ready_mono hr (Ne.symm hji)) hy' (by rw [Array.setIfInBounds_comm _ _ hji]; exact H')⟩
    intro k ok hk hki hun hno
    refine hfree k ok hk hki ?_ hno
    by_cases hjk : j = k
    ·rw [← hjk]; exact hjun
    ·rw [getD_set_ne true hjk] at hun; exact hun
theorem wpAnyY_takeT {i : Nat} {oi : Oper} {v : Value} {fuel : Nat} {listed : Array Bool} {a : Act} {w : World} (hi : ops[i]? = some oi)
  (hs : Region.noSelect ops = true) (hf : Region.free md ops listed i = true) (hr : (Region.ready md ops listed).contains i = true)
  (hQ : ∀ c a w, Q (.panic c) (a.put oi.dst v) w → Q (.panic c) a w) (hy : YieldsIf P ops (fun _ => True) oi v a)
  (h : wpAnyY P md ops Q S z fuel (listed.setIfInBounds i true) (a.put oi.dst v) w) : wpAnyY P md ops Q S z (fuel + 1) listed a w :=
 wpAnyY_firstT hi (Region.noSelect_spec hs) hQ fuel listed a w (Region.free_spec hi hf) (by simpa using hr) hy h
theorem wpAnyY_take {i : Nat} {oi : Oper} {v : Value} {fuel : Nat} {listed : Array Bool} {a : Act} {w : World} (hi : ops[i]? = some oi) (hw : waits md ops z i = true)
  (hs : Region.noSelect ops = true) (hf : Region.free md ops listed i = true) (hr : (Region.ready md ops listed).contains i = true)
  (hQ : ∀ c a w, Q (.panic c) (a.put oi.dst v) w → Q (.panic c) a w) (hy : YieldsIf P ops S oi v a) (hS : S w)
  (h : wpAnyY P md ops Q S z fuel (listed.setIfInBounds i true) (a.put oi.dst v) w) : wpAnyY P md ops Q S z (fuel + 1) listed a w :=
 wpAnyY_first hi hw (Region.noSelect_spec hs) hQ fuel listed a w (Region.free_spec hi hf) (by simpa using hr) hy hS h
def AllReadyY (P : Program) (md : Region.Mode) (ops : Array Oper) (Q : Exit → Act → World → Prop) (S : World → Prop) (z fuel : Nat) (listed : Array Bool) (a : Act) (w : World) (rs : List Nat) : Prop :=
 ∀ i ∈ rs, wpOp P ops Q i (fun a' w' => (i ≠ z → S w → S w') ∧ wpAnyY P md ops Q S z fuel (listed.setIfInBounds i true) a' w') a w
theorem AllReadyY.nil {fuel : Nat} {listed : Array Bool} {a : Act} {w : World} : AllReadyY P md ops Q S z fuel listed a w [] := fun _ h => by cases h
theorem AllReadyY.cons {fuel : Nat} {listed : Array Bool} {a : Act} {w : World} {i : Nat} {o : Oper} {rs : List Nat} (ho : ops[i]? = some o)
  (h : ∀ K' : Act → World → Prop, Shut (∀ a' w', (i ≠ z → S w → S w') → ((i ≠ z → S w → S w') → wpAnyY P md ops Q S z fuel (listed.setIfInBounds i true) a' w') → K' a' w') → if Region.wanted o (yielded ops a.tmps) = true then Oper.wp P o a w K' Q else K' (a.put o.dst undef) w)
  (hs : AllReadyY P md ops Q S z fuel listed a w rs) : AllReadyY P md ops Q S z fuel listed a w (i :: rs) := fun j hj => by
 rcases List.mem_cons.1 hj with rfl | hj
 ·exact wpOp_step ho (fun K' hK => h K' (fun a w hS hW => hK a w ⟨hS, hW hS⟩))
 ·exact hs j hj
theorem wpAnyY_ready {rs : List Nat} {fuel : Nat} {listed : Array Bool} {a : Act} {w : World} (hr : Region.ready md ops listed = rs) (hne : rs ≠ [])
  (h : AllReadyY P md ops Q S z fuel listed a w rs) : wpAnyY P md ops Q S z (fuel + 1) listed a w := ⟨fun h0 => absurd (hr ▸ h0) hne, hr ▸ h⟩
theorem wpAnyY_done {listed : Array Bool} {a : Act} {w : World} (hr : Region.ready md ops listed = []) (h : Q .normal a w) : ∀ fuel, wpAnyY P md ops Q S z fuel listed a w
 | 0 => ⟨hr, h⟩
 | _ + 1 => ⟨fun _ => h, by rw [hr]; simp⟩
theorem wp_region_Y (z : Nat) {id : Nat} {a : Act} {w : World} (hm : P.follows .mixedOrders = true) (hS : S w.drew)
  (h : S w.drew → wpAnyY P .any ops Q S z ops.size (Array.replicate ops.size false) a w.drew) : (Code.region id ops true).wp P Q a w :=
 wp_region_any hm (wpAny_of_Y _ _ _ _ (h hS))
end
end Go.Proofs.YtanfnphdgcnojaaGreat.Draw
