/- Contracts of this seat's functions, and their mathematics (HopG HopI). -/
import Derived.Test.YtldghgadkncehaaM41
import Derived.Test.YtldghgadkncehaaM38
set_option linter.unusedVariables false
set_option linter.unusedSimpArgs false
namespace Go.Proofs.Ytldghgadkncehaa.Hop
open Go.RowKit RowG
def zeroH : Hp := ⟨Giv.zeroG, Tak.zeroK, []⟩
/-- A hop in a window of block k, its rows in blocks of their own from B on. -/
def Lay (T : TypeId) (pre post : List Value) (ow : Nat) (w : World) (B k : Nat) (h : Hp) : Prop :=
  ∃ aT cT aW cW, Win T pre post ow w k (h.c aT cT aW cW) ∧ Tak.partE.Own 136 w B aT cT h.t.l ∧ letE.Own 87 w B aW cW h.ws
/-- Of the blocks below B none has turned but, it may be, block k. -/
structure KB (B k : Nat) (w w' : World) : Prop where
  os : w'.os = w.os
  tape : w'.tape = w.tape
  output : w'.output = w.output
  size : w.heap.size ≤ w'.heap.size
  block : ∀ i, i < B → i ≠ k → w'.heap[i]? = w.heap[i]?
theorem KB.refl (B k : Nat) (w : World) : KB B k w w := ⟨rfl, rfl, rfl, Nat.le_refl _, fun _ _ _ => rfl⟩
theorem KB.trans {B k : Nat} {a b d : World} (h : KB B k a b) (h' : KB B k b d) : KB B k a d := ⟨h'.os.trans h.os, h'.tape.trans h.tape, h'.output.trans h.output, Nat.le_trans h.size h'.size, fun i hi hk => (h'.block i hi hk).trans (h.block i hi hk)⟩
theorem KB.ofKept {B k : Nat} {w w' : World} (h : Draw.Kept k w w') (hB : B ≤ w.heap.size) : KB B k w w' := ⟨h.os, h.tape, h.output, h.size, fun i hi hk => h.block i (by omega) hk⟩
theorem KB.ofKeep {B k : Nat} {r : Option Nat} {w w' : World} (h : Keep k r w w') (hB : B ≤ w.heap.size) (hr : ∀ i, r = some i → B ≤ i) : KB B k w w' := ⟨h.os, h.tape, h.output, h.size, fun i hi hk => h.block i (by omega) hk (fun e => by have := hr i e.symm; omega)⟩
theorem KB.ofBelow {B k : Nat} {w w' : World} (h : Below w.heap.size w w') (hB : B ≤ w.heap.size) : KB B k w w' := ⟨h.os, h.tape, h.output, h.size, fun i hi hk => h.block i (by omega)⟩
theorem KB.below {B B' k : Nat} {w w' : World} (h : KB B k w w') (h1 : B' ≤ B) (h2 : B' ≤ k) : Below B' w w' := ⟨h.os, h.tape, h.output, h.size, fun i hi => h.block i (by omega) (by omega)⟩
theorem KB.var {B k i : Nat} {T : TypeId} {vs : List Value} {w w' : World} (h : KB B k w w') (v : Var T w i vs) (h1 : i < B) (h2 : i ≠ k) : Var T w' i vs := v.same (h.block i h1 h2)
theorem blk_ge {α : Type} {E : El α} {T : TypeId} {w : World} {B : Nat} {a : Option Addr} {c : Nat} {l : List α} (o : E.Own T w B a c l) : ∀ i, blk a = some i → B ≤ i := by
  intro i hi
  cases a with
  | none => simp [blk] at hi
  | some x =>
    simp [blk] at hi
    have := (o.lt x rfl).1
    omega
theorem Lay.later {T : TypeId} {pre post : List Value} {ow : Nat} {w w' : World} {B k : Nat} {h : Hp} (l : Lay T pre post ow w B k h) (b : Below w.heap.size w w') : Lay T pre post ow w' B k h := by
  obtain ⟨aT, cT, aW, cW, v, o1, o2⟩ := l
  exact ⟨aT, cT, aW, cW, v.later b, o1.later b, o2.later b⟩
theorem Lay.kept {T : TypeId} {pre post : List Value} {ow : Nat} {w w' : World} {B k c : Nat} {h : Hp} (l : Lay T pre post ow w B k h) (b : Draw.Kept c w w') (h1 : c < B) (h2 : c ≠ k) : Lay T pre post ow w' B k h := by
  obtain ⟨aT, cT, aW, cW, v, o1, o2⟩ := l
  exact ⟨aT, cT, aW, cW, v.kept b (Ne.symm h2), o1.kept b (fun x hx => by have := (o1.lt x hx).1; omega), o2.kept b (fun x hx => by have := (o2.lt x hx).1; omega)⟩
theorem Lay.drew {T : TypeId} {pre post : List Value} {ow : Nat} {w : World} {B k : Nat} {h : Hp} (l : Lay T pre post ow w B k h) : Lay T pre post ow w.drew B k h := by
  obtain ⟨aT, cT, aW, cW, v, o1, o2⟩ := l
  exact ⟨aT, cT, aW, cW, v.drew, o1.drew, o2.drew⟩
theorem Lay.alloc {T : TypeId} {pre post : List Value} {ow : Nat} {w : World} {B k : Nat} {h : Hp} (l : Lay T pre post ow w B k h) (o : Obj) : Lay T pre post ow (w.alloc o) B k h := l.later ((Below.refl _ _).alloc (Nat.le_refl _) _)
end Go.Proofs.Ytldghgadkncehaa.Hop
namespace Go.Proofs.Ytldghgadkncehaa.Hop
open Go.RowKit RowG
def zeroL : Lt := ⟨false, 0, 0, ⟨#[]⟩, false, 0, false⟩
/-- Letter k, taken out. -/
def outH (h : Hp) (k : Int) : Hp × Lt × Bool := if 0 ≤ k then (match h.ws[k.toNat]? with
  | some x => (⟨h.g, h.t, h.ws.take k.toNat ++ h.ws.drop (k.toNat + 1)⟩, x, true)
  | none => (h, zeroL, false)) else (h, zeroL, false)
theorem outH_none {h : Hp} {k : Int} (hk : k < 0 ∨ (h.ws.length : Int) ≤ k) : outH h k = (h, zeroL, false) := by
  unfold outH
  split
  · rw [List.getElem?_eq_none (by omega)]
  · rfl
theorem outH_some {h : Hp} {k : Nat} {x : Lt} (hx : h.ws[k]? = some x) : outH h k = (⟨h.g, h.t, h.ws.take k ++ h.ws.drop (k + 1)⟩, x, true) := by
  unfold outH
  rw [if_pos (by omega), Int.toNat_natCast, hx]
end Go.Proofs.Ytldghgadkncehaa.Hop
