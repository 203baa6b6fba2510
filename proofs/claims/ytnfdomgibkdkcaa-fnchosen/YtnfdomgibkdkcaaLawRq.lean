/- Contracts of the laws' own helpers over lists of numbers (eqInt64S of equal ones, markInt64S, heldInt64S, likeInts), likeRoads of equal ones; lists of at most 2^22. -/
import Derived.Test.YtnfdomgibkdkcaaLawRp
import Derived.Test.YtnfdomgibkdkcaaRoaT
namespace Go.Proofs.Ytnfdomgibkdkcaa.Roa
open Go.RowKit RowG
set_option linter.unusedVariables false
set_option linter.unusedSimpArgs false

theorem Own.later {w w' : World} {B g c : Nat} {l : List Rd} (h : Own w B g c l) (hb : Below w.heap.size w w') : Own w' B g c l := El.Own.later (E := E) h hb
theorem Own.lt {w : World} {B g c : Nat} {l : List Rd} (h : Own w B g c l) : B ≤ g ∧ g < w.heap.size := El.Own.lt (E := E) h _ rfl
theorem Own.other {w w' : World} {k B g c : Nat} {l : List Rd} (h : Own w B g c l) (q : Draw.Kept k w w') (hc : g ≠ k) : Own w' B g c l := El.Own.kept (E := E) h q (fun x hx => by cases hx; exact hc)
theorem Own.lies {w : World} {B g c : Nat} {l : List Rd} (h : Own w B g c l) : E.Lies w (some ⟨g, 0, none⟩) l := El.Own.lies (E := E) h
theorem own_ownI {w : World} {B B' g g' c c' : Nat} {l : List Rd} {l' : List Int} (o : Own w B g c l) (o' : OwnI w B' g' c' l') : g ≠ g' := own_twoS (E := E) (E' := EI) tne' o o'
theorem turnL_len (l : List Rd) (r : Int) (o : Bool) : (turnL l r o).length ≤ l.length := by
  unfold turnL
  split
  · split
    · rw [List.length_set]; exact Nat.le_refl _
    · exact Nat.le_refl _
  · simp
theorem usedL_len (l : List Rd) (r : Int) (o : Bool) : (usedL l r o).length ≤ l.length := by
  unfold usedL
  split
  · split
    · rw [List.length_set]; exact Nat.le_refl _
    · exact Nat.le_refl _
  · simp

/-- The marks that are written into a list of n numbers, from k on. -/
def marksI (k : Int) : Nat → List Int
  | 0 => []
  | n + 1 => marksI k n ++ [k + (n : Int)]
theorem marksI_len (k : Int) (n : Nat) : (marksI k n).length = n := by
  induction n with
  | zero => rfl
  | succ n ih => simp [marksI, ih]
theorem marksI_at (k : Int) : ∀ (n i : Nat), i < n → (marksI k n).getD i 0 = k + (i : Int)
  | 0, i, h => by omega
  | n + 1, i, h => by
    rw [marksI, List.getD_eq_getElem?_getD]
    by_cases e : i = n
    · subst e
      rw [List.getElem?_append_right (by rw [marksI_len]; exact Nat.le_refl _), marksI_len]
      simp
    · rw [List.getElem?_append_left (by rw [marksI_len]; omega), ← List.getD_eq_getElem?_getD]
      exact marksI_at k n i (by omega)

end Go.Proofs.Ytnfdomgibkdkcaa.Roa
