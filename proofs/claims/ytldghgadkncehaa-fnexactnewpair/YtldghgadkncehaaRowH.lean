/- More of rows of structs: what stays behind an append elsewhere; plain. -/
import Derived.Test.YtldghgadkncehaaRowG
namespace Go.Proofs.Ytldghgadkncehaa.RowG
open Go.RowKit
set_option linter.unusedVariables false

variable {α : Type} {E : El α} {T : TypeId}
theorem El.Lies.grown {w w' : World} {r : Option Nat} {a : Option Addr} {l : List α} (h : E.Lies w a l) (g : w.grownBy w' r) (hr : ∀ x, a = some x → some x.block ≠ r) : E.Lies w' a l :=
  h.same fun x hx hl => g.block x.block hl (hr x hx)
theorem El.Own.grown {w w' : World} {B : Nat} {r : Option Nat} {a : Option Addr} {c : Nat} {l : List α} (h : E.Own T w B a c l) (g : w.grownBy w' r) (hr : ∀ x, a = some x → some x.block ≠ r) : E.Own T w' B a c l :=
  h.same fun x hx => g.block x.block (h.lt x hx).2 (hr x hx)
theorem El.Lies.alloc {w : World} {a : Option Addr} {l : List α} (h : E.Lies w a l) (o : Obj) : E.Lies (w.alloc o) a l :=
  h.same fun x hx hl => Below.heap_alloc _ _ _ hl
theorem grown_cell {w w' : World} {r : Option Nat} (g : w.grownBy w' r) {p : Addr} {v : Value} (h : w.cell? p = some v) (hr : some p.block ≠ r) : w'.cell? p = some v := by
  rw [World.cell?_of_block (w := w) (g.block p.block (Draw.lt_of_cell h) hr), h]
theorem alloc_cell {w : World} {p : Addr} {v : Value} (h : w.cell? p = some v) (o : Obj) : (w.alloc o).cell? p = some v := by
  rw [World.cell?_of_block (w := w) (Below.heap_alloc _ _ _ (Draw.lt_of_cell h)), h]
theorem kept_grown {w0 w w' : World} {r : Option Nat} {c : Nat} (k : Draw.Kept c w0 w) (g : w.grownBy w' r) (hr : ∀ x, r = some x → w0.heap.size ≤ x ∨ x = c) : Draw.Kept c w0 w' :=
  ⟨g.os.trans k.os, g.tape.trans k.tape, g.output.trans k.output, Nat.le_trans k.size g.size, fun i hi hc => (g.block i (Nat.lt_of_lt_of_le hi k.size) (fun e => by rcases hr i e.symm with q | q <;> omega)).trans (k.block i hi hc)⟩

end Go.Proofs.Ytldghgadkncehaa.RowG
