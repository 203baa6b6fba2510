/- What is taken away leaves a taker right (FnTakenAway): plain mathematics of chapter 5; no condition. -/
import Derived.Test.YtldghgadkncehaaTakL
namespace Go.Proofs.Ytldghgadkncehaa.Tak
set_option linter.unusedVariables false

theorem okQ_lim {lim lim' : Int} (h : lim ≤ lim') : ∀ {l : List Pt} {lo : Int}, okQ lim lo l → okQ lim' lo l
  | [], _, _ => trivial
  | q :: r, lo, ⟨h1, h2, h3, h4⟩ => ⟨h1, h2, by omega, okQ_lim h h4⟩
theorem away_bad {t : Tk} {n : Int} (h : t.ok = false) : takenAway t n = (zeroK, ⟨#[]⟩) := by simp [takenAway, h]
theorem away_out {t : Tk} {n : Int} (h : t.ok = true) (hn : n < 0 ∨ (t.bs.size : Int) < n) : takenAway t n = (t, ⟨#[]⟩) := by simp [takenAway, h, hn]
theorem away_in {t : Tk} {n : Int} (h : t.ok = true) (h0 : 0 ≤ n) (h1 : n ≤ (t.bs.size : Int)) : takenAway t n = ({ t with bs := t.bs.extract n.toNat t.bs.size }, t.bs.extract 0 n.toNat) := by
  have hn : ¬ (n < 0 ∨ (t.bs.size : Int) < n) := by omega
  simp [takenAway, h, hn]
/-- What FnTakenAway asks of what was taken away. -/
theorem away_all {t : Tk} {n : Int} (h : t.ok = true) (h0 : 0 ≤ n) (h1 : n ≤ (t.bs.size : Int)) :
    (takenAway t n).1.ok = true ∧ (takenAway t n).2 ++ (takenAway t n).1.bs = t.bs ∧ ((takenAway t n).2.size : Int) = n ∧ (takenAway t n).1.nx = t.nx ∧ limT (takenAway t n).1.nx (takenAway t n).1.bs (takenAway t n).1.cp = limT t.nx t.bs t.cp + n := by
  rw [away_in h h0 h1]
  obtain ⟨hin, hq, he⟩ := ok_iff.1 h
  obtain ⟨⟨i1, i2⟩, ⟨i3, i4⟩, ⟨i5, i6⟩, i7⟩ := hin
  have hs : (t.bs.extract n.toNat t.bs.size).size = t.bs.size - n.toNat := ext_size _ _ _ (Nat.le_refl _)
  have hl : limT t.nx (t.bs.extract n.toNat t.bs.size) t.cp = limT t.nx t.bs t.cp + n := by
    unfold limT
    omega
  refine ⟨ok_iff.2 ⟨⟨⟨i1, i2⟩, ⟨i3, i4⟩, ⟨?_, ?_⟩, i7⟩, ?_, he⟩, ?_, ?_, rfl, hl⟩
  · show ((t.bs.extract n.toNat t.bs.size).size : Int) ≤ t.cp
    omega
  · show ((t.bs.extract n.toNat t.bs.size).size : Int) ≤ t.nx
    omega
  · show okQ (limT t.nx (t.bs.extract n.toNat t.bs.size) t.cp) (t.nx + 1) t.l
    rw [hl]
    exact okQ_lim (by omega) hq
  · show t.bs.extract 0 n.toNat ++ t.bs.extract n.toNat t.bs.size = t.bs
    rw [ByteArray.extract_append_extract, Nat.max_eq_right (by omega), Nat.min_eq_left (by omega)]
    exact ByteArray.extract_zero_size
  · show ((t.bs.extract 0 n.toNat).size : Int) = n
    rw [ext_size _ _ _ (by omega)]
    omega
theorem away_ok {t : Tk} {n : Int} (h : t.ok = true) : (takenAway t n).1.ok = true := by
  by_cases c : n < 0 ∨ (t.bs.size : Int) < n
  · rw [away_out h c]; exact h
  · exact (away_all h (by omega) (by omega)).1
theorem new_ok {n : Int} (h : capB n = true) : (⟨0, ⟨#[]⟩, [], n, -1, false⟩ : Tk).ok = true := by
  have hn : 1 ≤ n ∧ n ≤ 400 := of_decide_eq_true h
  refine ok_iff.2 ⟨⟨hn, by simp, ⟨by show (0 : Int) ≤ n; omega, by show (0 : Int) ≤ 0; omega⟩, by simp⟩, trivial, by show endB (-1) 0 0 false = true; decide⟩

end Go.Proofs.Ytldghgadkncehaa.Tak
