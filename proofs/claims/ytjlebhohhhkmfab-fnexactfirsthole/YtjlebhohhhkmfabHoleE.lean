/- Contracts of the specification's l4Add and Added; lists of at most 2^21 spans. -/
import Derived.Test.YtjlebhohhhkmfabHoleD
import Derived.Deep.Cut
namespace Go.Proofs.Ytjlebhohhhkmfab.Hole
open Go.RowKit
set_option linter.unusedVariables false

/-- One span of the list, as it is gone through while s is put in: what is out, whether s is, and s grown. -/
def addStep (st : List Sp × Bool × Sp) (x : Sp) : List Sp × Bool × Sp :=
  if x.2 < st.2.2.1 then (st.1 ++ [x], st.2.1, st.2.2)
  else if st.2.2.2 < x.1 then ((if st.2.1 then st.1 else st.1 ++ [st.2.2]) ++ [x], true, st.2.2)
  else (st.1, st.2.1, ((if st.2.2.1 < x.1 then st.2.2.1 else x.1), (if x.2 < st.2.2.2 then st.2.2.2 else x.2)))
def addAll (l : List Sp) (s : Sp) : List Sp × Bool × Sp := l.foldl addStep ([], false, s)
def addL (l : List Sp) (s : Sp) : List Sp := if (addAll l s).2.1 then (addAll l s).1 else (addAll l s).1 ++ [(addAll l s).2.2]

/-- The boxed span, and that it may be written. -/
def Box (w : World) (k : Nat) (s : Sp) : Prop := (w.cell? ⟨k, 0, none⟩ = some (.int .i64 s.1) ∧ w.cell? ⟨k, 1, none⟩ = some (.int .i64 s.2)) ∧ (w.frozen? ⟨k, 0, none⟩ = false ∧ w.frozen? ⟨k, 1, none⟩ = false)

theorem Box.new (w : World) (f t : Int) (T : TypeId) (o : Obj) : Box ((w.alloc (.cells #[.int .i64 f, .int .i64 t] T)).alloc o) w.heap.size (f, t) := by
  have hB : Below (w.heap.size + 1) (w.alloc (.cells #[.int .i64 f, .int .i64 t] T)) ((w.alloc (.cells #[.int .i64 f, .int .i64 t] T)).alloc o) := (Below.refl _ _).alloc (by simp) _
  refine ⟨⟨?_, ?_⟩, ?_, ?_⟩
  · rw [hB.cell (p := ⟨w.heap.size, 0, none⟩) (by show w.heap.size < _; omega)]; simp
  · rw [hB.cell (p := ⟨w.heap.size, 1, none⟩) (by show w.heap.size < _; omega)]; simp
  · rw [hB.frozen (p := ⟨w.heap.size, 0, none⟩) (by show w.heap.size < _; omega)]; simp
  · rw [hB.frozen (p := ⟨w.heap.size, 1, none⟩) (by show w.heap.size < _; omega)]; simp
theorem Box.same {w w' : World} {k : Nat} {s : Sp} (h : Box w k s) (e : w'.heap[k]? = w.heap[k]?) : Box w' k s :=
  ⟨⟨(World.cell?_of_block (w := w) (a := ⟨k, 0, none⟩) e).trans h.1.1, (World.cell?_of_block (w := w) (a := ⟨k, 1, none⟩) e).trans h.1.2⟩, (World.frozen?_of_block (w := w) (a := ⟨k, 0, none⟩) e).trans h.2.1, (World.frozen?_of_block (w := w) (a := ⟨k, 1, none⟩) e).trans h.2.2⟩
theorem Box.lt {w : World} {k : Nat} {s : Sp} (h : Box w k s) : k < w.heap.size := Draw.lt_of_cell h.1.1
theorem Box.alloc {w : World} {k : Nat} {s : Sp} (h : Box w k s) (o : Obj) : Box (w.alloc o) k s := h.same (Below.heap_alloc _ _ _ h.lt)
theorem Box.grown {w w' : World} {k g n c : Nat} {s : Sp} (h : Box w k s) (hg : w.grownBy w' (Value.slice (some ⟨g, 0, none⟩) n c).ownBlock) (hne : k ≠ g) : Box w' k s :=
  h.same (hg.block k h.lt (by simp [Value.ownBlock]; exact hne))
theorem Box.one (w : World) (f t : Int) (T : TypeId) : Box (w.alloc (.cells #[.int .i64 f, .int .i64 t] T)) w.heap.size (f, t) := ⟨⟨by simp, by simp⟩, by simp, by simp⟩
theorem own_mono {w : World} {B B' g c : Nat} {l : List Sp} (h : Own w B' g c l) (hB : B ≤ B') : Own w B g c l := by
  refine ⟨h.1, ?_⟩
  rcases h.2 with ⟨hv, hn⟩ | ⟨g', c', cur, hv, hb, rest⟩
  · exact .inl ⟨hv, hn⟩
  · exact .inr ⟨g', c', cur, hv, Nat.le_trans hB hb, rest⟩

theorem Own.setCell {w : World} {B g c : Nat} {l : List Sp} (h : Own w B g c l) {p : Addr} (hp : p.block ≠ g) (v : Value) : Own (w.setCell p v) B g c l :=
  World.ownsRow.kept (row := some p.block) h ⟨rfl, rfl, rfl, by simp [World.setCell], fun k hk hne => Below.heap_setCell _ _ _ _ (by intro e; exact hne (by rw [e]))⟩ (.inr (by simp [Value.ownBlock]; exact fun e => hp e.symm))
theorem Box.put {w : World} {k : Nat} {s : Sp} (h : Box w k s) (m M : Int) : Box ((w.setCell ⟨k, 0, none⟩ (.int .i64 m)).setCell ⟨k, 1, none⟩ (.int .i64 M)) k (m, M) := by
  have c0 : (w.setCell ⟨k, 0, none⟩ (.int .i64 m)).cell? ⟨k, 0, none⟩ = some (.int .i64 m) := World.cell?_setCell_same w _ _ h.1.1
  have c1 : (w.setCell ⟨k, 0, none⟩ (.int .i64 m)).cell? ⟨k, 1, none⟩ = some (.int .i64 s.2) := (World.cell?_setCell_other _ _ _ _ (by intro e; cases e)).trans h.1.2
  refine ⟨⟨(World.cell?_setCell_other _ _ _ _ (by intro e; cases e)).trans c0, World.cell?_setCell_same _ _ _ c1⟩, ?_, ?_⟩
  · rw [World.frozen?_setCell, World.frozen?_setCell]; exact h.2.1
  · rw [World.frozen?_setCell, World.frozen?_setCell]; exact h.2.2
theorem news1 {w : World} {f t : Int} {T : TypeId} : ∀ j u, [Value.int .i64 f, .int .i64 t][j]? = some u → (w.alloc (.cells #[.int .i64 f, .int .i64 t] T)).cell? ((⟨w.heap.size, 0, none⟩ : Addr).add j) = some u :=
  World.news_of_block (heap_alloc_new w (.cells #[.int .i64 f, .int .i64 t] T))

/-- Added: what comes out, and whether s is in. -/
def addedL (l : List Sp) (s : Sp) : List Sp := if spansB l = true then (if spB s = true ∧ (addL l s).length ≤ 30 then addL l s else l) else []
def addedB (l : List Sp) (s : Sp) : Bool := spansB l && (spB s && decide ((addL l s).length ≤ 30))

end Go.Proofs.Ytjlebhohhhkmfab.Hole
