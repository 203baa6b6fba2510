/- Windows into a row of structs: an element's cells, and the row again when they alone were turned. Plain. -/
import Derived.Test.YtldghgadkncehaaWin
namespace Go.Proofs.Ytldghgadkncehaa.RowG
open Go.RowKit
set_option linter.unusedVariables false
set_option linter.unusedSimpArgs false

theorem El.vals_split {α : Type} (E : El α) {l : List α} {i : Nat} {x : α} (hx : l[i]? = some x) : E.vals l = E.vals (l.take i) ++ E.enc x ++ E.vals (l.drop (i + 1)) := by
  have hi := (List.getElem?_eq_some_iff.1 hx).1
  have hl : l = l.take i ++ x :: l.drop (i + 1) := by
    have h1 := List.take_append_drop i l
    have h2 : l.drop i = x :: l.drop (i + 1) := by
      rw [List.drop_eq_getElem_cons hi]
      have := (List.getElem?_eq_some_iff.1 hx).2
      rw [this]
    rw [h2] at h1
    exact h1.symm
  conv => lhs; rw [hl]
  simp [El.vals]
theorem El.vals_setTo {α : Type} (E : El α) {l : List α} {i : Nat} (hi : i < l.length) (y : α) : E.vals (l.set i y) = E.vals (l.take i) ++ E.enc y ++ E.vals (l.drop (i + 1)) := by
  have := El.vals_split E (l := l.set i y) (i := i) (x := y) (by rw [List.getElem?_set_self (by simpa using hi)])
  rw [this, List.take_set_of_le (by omega), List.drop_set_of_lt (by omega)]
theorem El.Own.win {α : Type} {E : El α} {T : TypeId} {w : World} {B g c : Nat} {l : List α} (h : E.Own T w B (some ⟨g, 0, Option.none⟩) c l) {i : Nat} {x : α} (hx : l[i]? = some x) :
    ∃ pre post, Win T pre post (i * E.size) w g (E.enc x) ∧ ∀ w' y, Win T pre post (i * E.size) w' g (E.enc y) → E.Own T w' B (some ⟨g, 0, Option.none⟩) c (l.set i y) := by
  have hi := (List.getElem?_eq_some_iff.1 hx).1
  obtain ⟨h1, h2⟩ := h
  rcases h2 with ⟨e, _⟩ | ⟨g', cap, cur, e, hB, hg, hc, hm, hs, ht⟩
  · simp at e
  injection e with e1 e2 e3
  injection e1 with e1
  injection e1 with e1
  subst e1 e3
  have hp : (E.vals (l.take i)).length = i * E.size := by rw [E.vals_len, List.length_take, Nat.min_eq_left (by omega)]
  have hcur : cur.toList = E.vals l ++ cur.toList.drop (l.length * E.size) := by
    conv => lhs; rw [← List.take_append_drop (l.length * E.size) cur.toList, ht]
  refine ⟨E.vals (l.take i), E.vals (l.drop (i + 1)) ++ cur.toList.drop (l.length * E.size), ⟨hp, ?_⟩, ?_⟩
  · have : cur = (E.vals (l.take i) ++ E.enc x ++ (E.vals (l.drop (i + 1)) ++ cur.toList.drop (l.length * E.size))).toArray := by
      apply Array.ext'
      rw [List.toList_toArray, ← List.append_assoc, ← El.vals_split E hx]
      exact hcur
    rw [hg, ← this]
  · intro w' y v
    have hb := v.blk
    have hv := E.vals_setTo hi y
    refine ⟨by rw [E.vals_len], .inr ⟨g, c, _, by rw [List.length_set], hB, hb, by rw [List.length_set]; exact hc, hm, ?_, ?_⟩⟩
    · have hx' : (E.enc x).length = (E.enc y).length := by rw [E.len, E.len]
      have h3 := congrArg List.length hcur
      rw [El.vals_split E hx] at h3
      simp only [List.length_append, Array.length_toList] at h3
      simp only [List.size_toArray, List.length_append]
      omega
    · rw [List.length_set, List.toList_toArray, ← List.append_assoc, ← hv, List.take_left' (by rw [E.vals_len, List.length_set])]

end Go.Proofs.Ytldghgadkncehaa.RowG
