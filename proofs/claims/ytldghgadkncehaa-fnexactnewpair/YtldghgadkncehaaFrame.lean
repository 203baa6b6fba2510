/- Plain facts on memory: 'Kept c w w'' says that of all blocks of w only block c may have turned; no condition. -/
import Derived.Test.YtldghgadkncehaaRows
import Derived.WalkKit
import Derived.Below
import Derived.Deep.QuietTactic
import Derived.BigQuiet
import Derived.Laws.BitsLemmas
namespace Go.Proofs.Ytldghgadkncehaa.Draw
open Go.RowKit

/-- Of the blocks of w none has turned but, it may be, block c; none has gone. -/
structure Kept (c : Nat) (w w' : World) : Prop where
  os : w'.os = w.os
  tape : w'.tape = w.tape
  output : w'.output = w.output
  size : w.heap.size ≤ w'.heap.size
  block : ∀ k, k < w.heap.size → k ≠ c → w'.heap[k]? = w.heap[k]?

theorem Kept.refl (c : Nat) (w : World) : Kept c w w := ⟨rfl, rfl, rfl, Nat.le_refl _, fun _ _ _ => rfl⟩
theorem Kept.trans {c : Nat} {a b d : World} (h : Kept c a b) (k : Kept c b d) : Kept c a d :=
  ⟨k.os.trans h.os, k.tape.trans h.tape, k.output.trans h.output, Nat.le_trans h.size k.size, fun i hi hc => (k.block i (Nat.lt_of_lt_of_le hi h.size) hc).trans (h.block i hi hc)⟩
theorem Kept.drew {c : Nat} {a w : World} (h : Kept c a w) : Kept c a w.drew := ⟨h.os, h.tape, h.output, h.size, h.block⟩
theorem Kept.drewN {c : Nat} {a w : World} (h : Kept c a w) (n : Nat) : Kept c a (w.drewN n) := ⟨h.os, h.tape, h.output, h.size, h.block⟩
theorem Kept.alloc {c : Nat} {a w : World} (h : Kept c a w) (o : Obj) : Kept c a (w.alloc o) :=
  h.trans ⟨rfl, rfl, rfl, by simp, fun k hk _ => Below.heap_alloc _ _ _ hk⟩
theorem Kept.setCell {c : Nat} {a w : World} (h : Kept c a w) {p : Addr} (hp : p.block = c ∨ a.heap.size ≤ p.block) (u : Value) : Kept c a (w.setCell p u) :=
  ⟨h.os, h.tape, h.output, by simpa [World.setCell] using h.size, fun k hk hc => (Below.heap_setCell _ _ _ _ (by omega)).trans (h.block k hk hc)⟩
theorem Kept.below {c B : Nat} {w w' : World} (h : Kept c w w') (hB : B ≤ c) (hs : B ≤ w.heap.size) : Below B w w' :=
  ⟨h.os, h.tape, h.output, h.size, fun k hk => h.block k (by omega) (by omega)⟩
theorem Kept.ofBelow {c B : Nat} {w w' : World} (h : Below B w w') (hs : w.heap.size ≤ B) : Kept c w w' :=
  ⟨h.os, h.tape, h.output, h.size, fun k hk _ => h.block k (by omega)⟩
theorem Kept.cell {c : Nat} {w w' : World} (h : Kept c w w') {p : Addr} (hp : p.block < w.heap.size) (hc : p.block ≠ c) : w'.cell? p = w.cell? p := World.cell?_of_block (w := w) (h.block p.block hp hc)
theorem Kept.frozen {c : Nat} {w w' : World} (h : Kept c w w') {p : Addr} (hp : p.block < w.heap.size) (hc : p.block ≠ c) : w'.frozen? p = w.frozen? p := World.frozen?_of_block (w := w) (h.block p.block hp hc)
theorem lt_of_cell {w : World} {p : Addr} {v : Value} (h : w.cell? p = some v) : p.block < w.heap.size := by
  by_cases hb : p.block < w.heap.size
  · exact hb
  · have : w.heap[p.block]? = none := by simp; omega
    simp [World.cell?, this] at h

theorem and255 (n : Int) : bits .and .i64 n 255 = n % 256 := by
  have h255 : (BitVec.ofInt 64 255).toNat = 2 ^ 8 - 1 := by decide
  have key : (BitVec.ofInt 64 n &&& BitVec.ofInt 64 255).toNat = (n % ((2 ^ 64 : Nat) : Int)).toNat % 2 ^ 8 := by
    rw [BitVec.toNat_and, BitVec.toNat_ofInt, h255, Nat.and_two_pow_sub_one_eq_mod]
  show IntKind.i64.wrap ((BitVec.ofInt 64 n &&& BitVec.ofInt 64 255).toNat : Nat) = n % 256
  rw [key, IntKind.wrap_i64]
  omega

/-- The bytes of a slice that came in can be read. -/
def Bytes (w : World) (a : Option Addr) (len : Nat) : Prop :=
  len = 0 ∨ ∃ b off, a = some ⟨b, off, none⟩ ∧ ∀ i, i < len → ∃ z : Int, 0 ≤ z ∧ z ≤ 255 ∧ w.cell? ⟨b, off + i, none⟩ = some (.int .u8 z)

theorem Bytes.kept {c : Nat} {w w' : World} {a : Option Addr} {len : Nat} (h : Bytes w a len) (k : Kept c w w') (hc : len = 0 ∨ ∀ x, a = some x → x.block ≠ c) : Bytes w' a len := by
  rcases hc with hc | hc
  · exact .inl hc
  rcases h with h | ⟨b, off, rfl, h⟩
  · exact .inl h
  · refine .inr ⟨b, off, rfl, fun i hi => ?_⟩
    obtain ⟨z, h0, h1, h2⟩ := h i hi
    exact ⟨z, h0, h1, by rw [k.cell (p := ⟨b, off + i, none⟩) (lt_of_cell h2) (show b ≠ c from hc ⟨b, off, none⟩ rfl)]; exact h2⟩

theorem Bytes.below {B : Nat} {w w' : World} {a : Option Addr} {len : Nat} (h : Bytes w a len) (k : Below B w w') (hs : w.heap.size ≤ B) : Bytes w' a len := by
  rcases h with h | ⟨b, off, rfl, h⟩
  · exact .inl h
  · refine .inr ⟨b, off, rfl, fun i hi => ?_⟩
    obtain ⟨z, h0, h1, h2⟩ := h i hi
    have hl : b < w.heap.size := lt_of_cell h2
    exact ⟨z, h0, h1, by rw [k.cell (p := ⟨b, off + i, none⟩) (show b < B by omega)]; exact h2⟩

/-- A cursor over the bytes (a, len) lies in block c. -/
structure Cur (w : World) (c : Nat) : Prop where
  ex : ∃ (a : Option Addr) (len cap : Nat) (i : Nat) (h : Int), len ≤ 4096 ∧ (w.cell? ⟨c, 0, none⟩ = some (.slice a len cap) ∧ w.cell? ⟨c, 1, none⟩ = some (.int .i64 i) ∧ w.cell? ⟨c, 2, none⟩ = some (.int .i64 h)) ∧ i ≤ len ∧ Bytes w a len ∧ (len = 0 ∨ ∀ x, a = some x → x.block < c)
  fz : ∀ o, w.frozen? ⟨c, o, none⟩ = false

theorem Cur.drewN {w : World} {c : Nat} (h : Cur w c) (n : Nat) : Cur (w.drewN n) c := ⟨h.ex, h.fz⟩
theorem Cur.drew {w : World} {c : Nat} (h : Cur w c) : Cur w.drew c := ⟨h.ex, h.fz⟩

theorem Cur.lt {w : World} {c : Nat} (h : Cur w c) : c < w.heap.size := by
  obtain ⟨_, _, _, _, _, _, ⟨h0, _, _⟩, _⟩ := h.ex
  exact lt_of_cell h0

/-- A cursor stays one while no block up to its own turns. -/
theorem Cur.upto {w w' : World} {c : Nat} (h : Cur w c) (k : ∀ i, i ≤ c → w'.heap[i]? = w.heap[i]?) : Cur w' c := by
  obtain ⟨a, len, cap, i, x, hle, ⟨h0, h1, h2⟩, hi, hb, hc⟩ := h.ex
  have hcell : ∀ o, w'.cell? ⟨c, o, none⟩ = w.cell? ⟨c, o, none⟩ := fun o => World.cell?_of_block (w := w) (a := ⟨c, o, none⟩) (k c (Nat.le_refl _))
  refine ⟨⟨a, len, cap, i, x, hle, ⟨(hcell 0).trans h0, (hcell 1).trans h1, (hcell 2).trans h2⟩, hi, ?_, hc⟩, fun o => ?_⟩
  · rcases hc with hc | hc
    · exact .inl hc
    rcases hb with hb | ⟨b, off, rfl, hb⟩
    · exact .inl hb
    · refine .inr ⟨b, off, rfl, fun j hj => ?_⟩
      obtain ⟨z, z0, z1, hz⟩ := hb j hj
      have hlt : b < c := hc ⟨b, off, none⟩ rfl
      exact ⟨z, z0, z1, (World.cell?_of_block (w := w) (a := ⟨b, off + j, none⟩) (k b (Nat.le_of_lt hlt))).trans hz⟩
  · exact (World.frozen?_of_block (w := w) (a := ⟨c, o, none⟩) (k c (Nat.le_refl _))).trans (h.fz o)

/-- A cursor stays one while other blocks than its own, and than that of its bytes, turn: here: while none of those that were there turns. -/
theorem Cur.below {w w' : World} {c B : Nat} (h : Cur w c) (k : Below B w w') (hs : w.heap.size ≤ B) : Cur w' c := by
  have hl := h.lt
  obtain ⟨a, len, cap, i, x, hle, ⟨h0, h1, h2⟩, hi, hb, hc⟩ := h.ex
  refine ⟨⟨a, len, cap, i, x, hle, ⟨?_, ?_, ?_⟩, hi, hb.below k hs, hc⟩, fun o => ?_⟩
  · rw [k.cell (p := ⟨c, 0, none⟩) (show c < B by omega)]; exact h0
  · rw [k.cell (p := ⟨c, 1, none⟩) (show c < B by omega)]; exact h1
  · rw [k.cell (p := ⟨c, 2, none⟩) (show c < B by omega)]; exact h2
  · rw [k.frozen (p := ⟨c, o, none⟩) (show c < B by omega)]; exact h.fz o

/-- A world that is as w was in all of w's blocks: the class for a region that draws its order, whose operations only read and whose callees may make memory of their own. -/
structure Later (w : World) where
  v : World
  h : Below w.heap.size w v
instance (w : World) : Inhabited (Later w) := ⟨⟨w, Below.refl _ _⟩⟩
theorem wp_region_later {P : Program} {id : Nat} {Q : Exit → Act → World → Prop} {a : Act} {w : World} {l : List Oper} (hm : P.follows .mixedOrders = true) (hB : Region.lexB .any l.toArray = true)
    (h : wpQuiet P l.toArray (fun w' => ∃ p : Later w, w' = p.v) (fun a' => ∀ w', (∃ p : Later w, w' = p.v) → Q .normal a' w') l a) : (Code.region id l.toArray true).wp P Q a w :=
  wp_region_quiet (C := fun w' => ∃ p : Later w, w' = p.v) hm hB ⟨⟨w.drew, (Below.refl _ _).drew⟩, rfl⟩ (by simpa using h)
theorem Later.cell {w : World} {a : Addr} {v : Value} (h : w.cell? a = some v) (p : Later w) : p.v.cell? a = some v := (p.h.cell (lt_of_cell h)).trans h
theorem later_of {P : Program} {f : FuncId} {args : Array Value} {w : World} {p : Later w} {v : Value} (h : Calls P f args p.v fun e w' => e = .returned v ∧ Below p.v.heap.size p.v w') : Calls P f args p.v fun e w'' => e = .returned v ∧ ∃ q : Later w, w'' = q.v :=
  h.mono fun _ w' ⟨he, hb⟩ => ⟨he, ⟨w', p.h.trans (hb.mono p.h.size)⟩, rfl⟩
theorem later_same {P : Program} {f : FuncId} {args : Array Value} {w : World} {p : Later w} {v : Value} (h : Calls P f args p.v fun e w' => e = .returned v ∧ p.v = w') : Calls P f args p.v fun e w'' => e = .returned v ∧ ∃ q : Later w, w'' = q.v :=
  h.mono fun _ _ ⟨he, hb⟩ => ⟨he, p, hb.symm⟩

/-- What is laid into a frame's slots, as simp reads it (each part is a law of its own). -/
theorem lays {α : Type} : (∀ (xs : List α) (i : Nat) (h : i < xs.toArray.size), xs.toArray[i] = xs[i]'(by simpa using h)) ∧ (∀ (a : α) (l : List α) (h : 0 < (a :: l).length), (a :: l)[0] = a) ∧ (∀ (a : α) (l : List α) (i : Nat) (h : i + 1 < (a :: l).length), (a :: l)[i + 1] = l[i]'(by simpa using h)) ∧ (∀ (xs : List α) (i : Nat) (a : α), xs.toArray.setIfInBounds i a = (xs.set i a).toArray) ∧ (∀ (a b : α) (l : List α), (a :: l).set 0 b = b :: l) ∧ ∀ (a b : α) (l : List α) (i : Nat), (a :: l).set (i + 1) b = a :: l.set i b :=
  ⟨fun _ _ _ => rfl, fun _ _ _ => rfl, fun _ _ _ _ => rfl, fun xs i a => by simp, fun _ _ _ => rfl, fun _ _ _ _ => rfl⟩

end Go.Proofs.Ytldghgadkncehaa.Draw
