/- Contracts of this seat's functions, and their mathematics (RowH TakE). -/
import Derived.Test.YtldghgadkncehaaM1
import Derived.Test.YtldghgadkncehaaM5
import Derived.Test.YtldghgadkncehaaM6
set_option linter.unusedVariables false
set_option linter.unusedSimpArgs false
namespace Go.Proofs.Ytldghgadkncehaa.RowG
open Go.RowKit
variable {α : Type} {E : El α} {T : TypeId}
theorem El.Lies.grown {w w' : World} {r : Option Nat} {a : Option Addr} {l : List α} (h : E.Lies w a l) (g : w.grownBy w' r) (hr : ∀ x, a = some x → some x.block ≠ r) : E.Lies w' a l :=
  h.same fun x hx hl => g.block x.block hl (hr x hx)
theorem El.Own.grown {w w' : World} {B : Nat} {r : Option Nat} {a : Option Addr} {c : Nat} {l : List α} (h : E.Own T w B a c l) (g : w.grownBy w' r) (hr : ∀ x, a = some x → some x.block ≠ r) : E.Own T w' B a c l :=
  h.same fun x hx => g.block x.block (h.lt x hx).2 (hr x hx)
theorem El.Lies.alloc {w : World} {a : Option Addr} {l : List α} (h : E.Lies w a l) (o : Obj) : E.Lies (w.alloc o) a l :=
  h.same fun x hx hl => Below.heap_alloc _ _ _ hl
theorem grown_cell {w w' : World} {r : Option Nat} (g : w.grownBy w' r) {p : Addr} {v : Value} (h : w.cell? p = some v) (hr : some p.block ≠ r) : w'.cell? p = some v := by
  rw [World.cell?_of_block (w := w) (g.block p.block (Draw.lt_of_cell h) hr), h]
theorem alloc_cell {w : World} {p : Addr} {v : Value} (h : w.cell? p = some v) (o : Obj) : (w.alloc o).cell? p = some v := by
  rw [World.cell?_of_block (w := w) (Below.heap_alloc _ _ _ (Draw.lt_of_cell h)), h]
theorem kept_grown {w0 w w' : World} {r : Option Nat} {c : Nat} (k : Draw.Kept c w0 w) (g : w.grownBy w' r) (hr : ∀ x, r = some x → w0.heap.size ≤ x ∨ x = c) : Draw.Kept c w0 w' :=
  ⟨g.os.trans k.os, g.tape.trans k.tape, g.output.trans k.output, Nat.le_trans k.size g.size, fun i hi hc => (g.block i (Nat.lt_of_lt_of_le hi k.size) (fun e => by rcases hr i e.symm with q | q <;> omega)).trans (k.block i hi hc)⟩
end Go.Proofs.Ytldghgadkncehaa.RowG
namespace Go.Proofs.Ytldghgadkncehaa.Tak
open Go.RowKit RowG
/-- How many of a list's first elements f holds of. -/
def cnt {α : Type} (f : α → Bool) : List α → Nat
  | [] => 0
  | x :: l => if f x = true then cnt f l + 1 else 0
theorem cnt_le {α : Type} (f : α → Bool) : ∀ l : List α, cnt f l ≤ l.length
  | [] => Nat.le_refl _
  | x :: l => by
    have := cnt_le f l
    simp only [cnt, List.length_cons]
    split <;> omega
theorem cnt_is {α : Type} {f : α → Bool} : ∀ {l : List α} {k : Nat}, k ≤ l.length → (∀ j x, j < k → l[j]? = some x → f x = true) → (∀ x, l[k]? = some x → f x = false) → cnt f l = k
  | [], k, h, _, _ => by simp at h; simp [cnt, h]
  | x :: l, 0, _, _, h => by
    have h0 : f x = false := h x rfl
    simp [cnt, h0]
  | x :: l, k + 1, h, ha, hb => by
    have h0 : f x = true := ha 0 x (by omega) rfl
    have h1 := cnt_is (f := f) (l := l) (k := k) (by simpa using h) (fun j y hj hy => ha (j + 1) y (by omega) (by simpa using hy)) (fun y hy => hb y (by simpa using hy))
    simp [cnt, h0, h1]
def ahead (p : Pt) (x : Pt) : Bool := decide (x.1 < p.1)
theorem triple {α : Type} {E : El α} {w w' : World} {r : Option Nat} {p q s : Addr} {x y z : Value} (g : w.grownBy w' r) (h : w.cell? p = some x ∧ w.cell? q = some y ∧ w.cell? s = some z) (hp : some p.block ≠ r) (hq : some q.block ≠ r) (hs : some s.block ≠ r) : w'.cell? p = some x ∧ w'.cell? q = some y ∧ w'.cell? s = some z :=
  ⟨grown_cell g h.1 hp, grown_cell g h.2.1 hq, grown_cell g h.2.2 hs⟩
theorem _root_.Go.Proofs.Ytldghgadkncehaa.RowG.El.Own.blk_ne {α : Type} {E : El α} {T : TypeId} {w : World} {B : Nat} {a : Option Addr} {c : Nat} {l : List α} (h : E.Own T w B a c l) {k : Nat} (hk : k < B) : some k ≠ blk a := by
  intro e
  cases a with
  | none => simp [blk] at e
  | some x =>
    have := (h.lt x rfl).1
    simp [blk] at e
    omega
theorem _root_.Go.Proofs.Ytldghgadkncehaa.RowG.El.Own.blk_le {α : Type} {E : El α} {T : TypeId} {w : World} {B : Nat} {a : Option Addr} {c : Nat} {l : List α} (h : E.Own T w B a c l) {k : Nat} (hk : blk a = some k) : B ≤ k := by
  cases a with
  | none => simp [blk] at hk
  | some x =>
    have := (h.lt x rfl).1
    simp [blk] at hk
    omega
/-- A part more, where it belongs. -/
def putP (l : List Pt) (p : Pt) : List Pt := l.take (cnt (ahead p) l) ++ [p] ++ l.drop (cnt (ahead p) l)
theorem putP_len (l : List Pt) (p : Pt) : (putP l p).length = l.length + 1 := by
  have := cnt_le (ahead p) l
  simp [putP]
  omega
end Go.Proofs.Ytldghgadkncehaa.Tak
