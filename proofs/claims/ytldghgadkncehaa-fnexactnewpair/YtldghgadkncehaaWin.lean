/- A window of a block: cells o, o + 1, .. of block k hold vs, the cells ahead of them hold pre, those behind hold post; plain. -/
import Derived.Test.YtldghgadkncehaaRowG
namespace Go.Proofs.Ytldghgadkncehaa.RowG
open Go.RowKit
set_option linter.unusedVariables false
set_option linter.unusedSimpArgs false

structure Win (T : TypeId) (pre post : List Value) (o : Nat) (w : World) (k : Nat) (vs : List Value) : Prop where
  len : pre.length = o
  blk : w.heap[k]? = some (.cells (pre ++ vs ++ post).toArray T (0, 0))
variable {T : TypeId} {pre post : List Value} {o : Nat}
theorem Win.var {w : World} {k : Nat} {vs : List Value} (h : Win T pre post o w k vs) : Var T w k (pre ++ vs ++ post) := h.blk
theorem Win.of {w : World} {k : Nat} {vs : List Value} (hl : pre.length = o) (h : Var T w k (pre ++ vs ++ post)) : Win T pre post o w k vs := ⟨hl, h⟩
theorem Win.cell {w : World} {k : Nat} {vs : List Value} (h : Win T pre post o w k vs) {i : Nat} {v : Value} (hv : vs[i]? = some v) : w.cell? ⟨k, o + i, Option.none⟩ = some v := by
  refine h.var.cell ?_
  have hi : i < vs.length := (List.getElem?_eq_some_iff.1 hv).1
  rw [← h.len, List.getElem?_append_left (by simp; omega), List.getElem?_append_right (by omega)]
  simpa using hv
theorem Win.cell0 {w : World} {k : Nat} {vs : List Value} (h : Win T pre post o w k vs) {v : Value} (hv : vs[0]? = some v) : w.cell? ⟨k, o, Option.none⟩ = some v := h.cell (i := 0) hv
theorem Win.free {w : World} {k : Nat} {vs : List Value} (h : Win T pre post o w k vs) (i : Nat) : w.frozen? ⟨k, o + i, Option.none⟩ = false := h.var.free _
theorem Win.free0 {w : World} {k : Nat} {vs : List Value} (h : Win T pre post o w k vs) : w.frozen? ⟨k, o, Option.none⟩ = false := h.var.free _
theorem Win.lt {w : World} {k : Nat} {vs : List Value} (h : Win T pre post o w k vs) : k < w.heap.size := h.var.lt
theorem Win.same {w w' : World} {k : Nat} {vs : List Value} (h : Win T pre post o w k vs) (e : w'.heap[k]? = w.heap[k]?) : Win T pre post o w' k vs := ⟨h.len, e.trans h.blk⟩
theorem Win.later {w w' : World} {k : Nat} {vs : List Value} (h : Win T pre post o w k vs) (hb : Below w.heap.size w w') : Win T pre post o w' k vs := h.same (hb.block k h.lt)
theorem Win.kept {w w' : World} {k c : Nat} {vs : List Value} (h : Win T pre post o w k vs) (hk : Draw.Kept c w w') (hc : k ≠ c) : Win T pre post o w' k vs := h.same (hk.block k h.lt hc)
theorem Win.grown {w w' : World} {k : Nat} {r : Option Nat} {vs : List Value} (h : Win T pre post o w k vs) (hg : w.grownBy w' r) (hc : ∀ g, r = some g → k ≠ g) : Win T pre post o w' k vs := h.same (hg.block k h.lt (fun e => hc k e.symm rfl))
theorem Win.alloc {w : World} {k : Nat} {vs : List Value} (h : Win T pre post o w k vs) (x : Obj) : Win T pre post o (w.alloc x) k vs := h.same (Below.heap_alloc _ _ _ h.lt)
theorem Win.other {w : World} {k : Nat} {vs : List Value} (h : Win T pre post o w k vs) {p : Addr} (hp : k ≠ p.block) (v : Value) : Win T pre post o (w.setCell p v) k vs := h.same (Below.heap_setCell _ _ _ _ hp)
theorem Win.set {w : World} {k : Nat} {vs : List Value} (h : Win T pre post o w k vs) (i : Nat) (v : Value) (hi : i < vs.length := by simp) : Win T pre post o (w.setCell ⟨k, o + i, Option.none⟩ v) k (vs.set i v) := by
  refine ⟨h.len, ?_⟩
  have := h.var.set (o + i) v
  rw [← h.len, List.append_assoc, List.set_append_right _ _ (by omega), List.set_append_left _ _ (by omega), Nat.add_sub_cancel_left] at this
  rw [← h.len, List.append_assoc]
  exact this
theorem Win.set0 {w : World} {k : Nat} {vs : List Value} (h : Win T pre post o w k vs) (v : Value) (hi : 0 < vs.length := by simp) : Win T pre post o (w.setCell ⟨k, o, Option.none⟩ v) k (vs.set 0 v) := h.set 0 v hi
theorem Win.drew {w : World} {k : Nat} {vs : List Value} (h : Win T pre post o w k vs) : Win T pre post o w.drew k vs := ⟨h.len, h.blk⟩
theorem Var.win {w : World} {k : Nat} {vs : List Value} (h : Var T w k vs) : Win T [] [] 0 w k vs := ⟨rfl, by simpa [Var] using h⟩
theorem Win.whole {w : World} {k : Nat} {vs : List Value} (h : Win T [] [] 0 w k vs) : Var T w k vs := by
  have := h.blk
  simpa [Var] using this

end Go.Proofs.Ytldghgadkncehaa.RowG
