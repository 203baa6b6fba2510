/- Contracts of the specification's l4Copy and Cut; how spans of the call's own lie in memory; lists of at most 2^21 spans. -/
import Derived.Test.YtjlebhohhhkmfabHoleC
import Derived.Deep.AppendLies
import Derived.Laws.AppendOwnNone
namespace Go.Proofs.Ytjlebhohhhkmfab.Hole
open Go.RowKit
set_option linter.unusedVariables false

def vals (l : List Sp) : List Value := l.flatMap fun s => [.int .i64 s.1, .int .i64 s.2]
theorem vals_len (l : List Sp) : (vals l).length = l.length * 2 := by
  induction l with
  | nil => rfl
  | cons s l ih => simp only [vals, List.flatMap_cons, List.length_append, List.length_cons, List.length_nil] at ih ⊢; omega
theorem vals_snoc (l : List Sp) (f t : Int) : vals l ++ [.int .i64 f, .int .i64 t] = vals (l ++ [(f, t)]) := by simp [vals]
theorem vals_at : ∀ (l : List Sp) (i : Nat), i < l.length → (vals l)[i * 2]? = some (.int .i64 (l.getD i (0, 0)).1) ∧ (vals l)[i * 2 + 1]? = some (.int .i64 (l.getD i (0, 0)).2)
  | [], i, h => by simp at h
  | s :: l, 0, h => by simp [vals]
  | s :: l, i + 1, h => by
    have ih := vals_at l i (by simpa using h)
    have e : vals (s :: l) = .int .i64 s.1 :: .int .i64 s.2 :: vals l := by simp [vals]
    have e1 : (i + 1) * 2 = i * 2 + 1 + 1 := by omega
    rw [e, e1]
    simpa using ih
theorem infoSpan : (Try.prog.info? 32).map (fun i => (i.zero, i.size, i.bytes)) = some (some (.agg #[.int .i64 0, .int .i64 0]), 2, 16) := by kernel_rfl
theorem two_cells (f t : Int) : ∀ u ∈ [Value.int .i64 f, .int .i64 t], u.oneCell' = true := by
  intro u hu
  simp at hu
  rcases hu with rfl | rfl <;> rfl
theorem news2 {w : World} {o : Obj} {f t : Int} {T : TypeId} : ∀ j u, [Value.int .i64 f, .int .i64 t][j]? = some u → ((w.alloc o).alloc (.cells #[.int .i64 f, .int .i64 t] T)).cell? ((⟨w.heap.size + 1, 0, none⟩ : Addr).add j) = some u := by
  have h := World.news_of_block (heap_alloc_new (w.alloc o) (.cells #[.int .i64 f, .int .i64 t] T))
  have e : (w.alloc o).heap.size = w.heap.size + 1 := by simp
  rw [e] at h
  exact h
/-- A slice of spans of the call's own. -/
def Own (w : World) (B g cap : Nat) (l : List Sp) : Prop := w.ownsRow B 32 2 (.slice (some ⟨g, 0, none⟩) l.length cap) l.length (vals l)
theorem Own.spans {w : World} {B g cap : Nat} {l : List Sp} (h : Own w B g cap l) : Spans w (some ⟨g, 0, none⟩) l := by
  refine .inr ⟨g, 0, rfl, fun i hi => ?_⟩
  have e : ∀ j, (⟨g, 0, none⟩ : Addr).add j = ⟨g, 0 + j, none⟩ := fun j => by unfold Addr.add; split <;> simp_all
  have hv := vals_at l i hi
  exact ⟨by rw [← e]; exact h.cells (g := g) rfl _ _ hv.1, by rw [Nat.add_assoc, ← e]; exact h.cells (g := g) rfl _ _ hv.2⟩
theorem Own.lt {w : World} {B g cap : Nat} {l : List Sp} (h : Own w B g cap l) : B ≤ g ∧ g < w.heap.size := World.ownsRow.lt h g rfl
theorem Own.later {w w' : World} {B g cap : Nat} {l : List Sp} (h : Own w B g cap l) (hb : Below w.heap.size w w') : Own w' B g cap l :=
  World.ownsRow.kept (row := none) h ⟨hb.os, hb.tape, hb.output, hb.size, fun k hk _ => hb.block k hk⟩ (.inr (by simp [Value.ownBlock]))
theorem own_nil (w : World) : Own (w.alloc (.cells #[] 32)) w.heap.size w.heap.size 0 [] := World.ownsRow_made w #[] 0 (Nat.le_refl _) (Nat.zero_le _) rfl

theorem own_app {w : World} {B g cap : Nat} {out : List Sp} {f t : Int} (h : w.ownsRow B 32 2 (.slice (some ⟨g, 0, none⟩) (out.length + 1) cap) (out.length + 1) (vals out ++ [.int .i64 f, .int .i64 t])) : Own w B g cap (out ++ [(f, t)]) := by
  rw [vals_snoc] at h
  unfold Own
  rw [List.length_append]
  exact h
theorem below_app {B g n c : Nat} {w wx w3 : World} (hx : Below B w wx) (hB : B ≤ w.heap.size) (hg : B ≤ g) (h : wx.grownBy w3 (Value.slice (some ⟨g, 0, none⟩) n c).ownBlock) : Below B w w3 :=
  hx.grown h (Nat.le_trans hB hx.size) (fun j hj => by simp [Value.ownBlock] at hj; omega)

/-- What of a list is not below p. -/
def cutStep (p : Int) (out : List Sp) (x : Sp) : List Sp := if (if p < x.1 then x.1 else p) < x.2 then out ++ [((if p < x.1 then x.1 else p), x.2)] else out
def cutL (l : List Sp) (p : Int) : List Sp := if spansB l = true ∧ Num.plB p = true then l.foldl (cutStep p) [] else []
theorem cut_len (p : Int) (l out : List Sp) : (l.foldl (cutStep p) out).length ≤ out.length + l.length := by
  induction l generalizing out with
  | nil => simp
  | cons x l ih =>
    have h := ih (cutStep p out x)
    have : (cutStep p out x).length ≤ out.length + 1 := by unfold cutStep; generalize (if p < x.1 then x.1 else p) = m; split <;> simp
    simp only [List.foldl_cons, List.length_cons]
    omega

theorem src_cells {w : World} {a : Option Addr} {l : List Sp} {x : Addr} (h : Spans w a l) (ha : a = some x) : ∀ j u, (vals l)[j]? = some u → w.cell? (x.add j) = some u := by
  rcases h with h | ⟨b, off, rfl, h⟩
  · intro j u hu; rw [h] at hu; simp [vals] at hu
  · cases ha
    intro j u hu
    have e : (⟨b, off, none⟩ : Addr).add j = ⟨b, off + j, none⟩ := by unfold Addr.add; split <;> simp_all
    have hj : j < (vals l).length := (List.getElem?_eq_some_iff.1 hu).1
    rw [vals_len] at hj
    have hi : j / 2 < l.length := by omega
    have hv := vals_at l (j / 2) hi
    have hc := h (j / 2) hi
    rw [e]
    rcases Nat.mod_two_eq_zero_or_one j with m | m
    · have ej : j / 2 * 2 = j := by omega
      rw [ej] at hv hc
      rw [hc.1, ← hv.1, hu]
    · have ej : j / 2 * 2 + 1 = j := by omega
      rw [Nat.add_assoc, ej] at hc
      rw [ej] at hv
      rw [hc.2, ← hv.2, hu]
theorem all_cells (l : List Sp) : ∀ u ∈ vals l, u.oneCell' = true := by
  intro u hu
  simp only [vals, List.mem_flatMap] at hu
  obtain ⟨s, _, hs⟩ := hu
  exact two_cells _ _ u hs

end Go.Proofs.Ytjlebhohhhkmfab.Hole
