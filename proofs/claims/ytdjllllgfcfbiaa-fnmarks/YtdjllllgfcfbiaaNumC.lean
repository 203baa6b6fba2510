/- Plain arithmetic behind FnMarks and FnAhead: what the three answers of chapter 1 have to do with one another. -/
import Derived.Test.YtdjllllgfcfbiaaNumB
namespace Go.Proofs.Ytdjllllgfcfbiaa.Num

theorem placeOf_cases (s n m : Int) : placeOf s n m = -1 ∨ (0 ≤ placeOf s n m ∧ placeOf s n m ≤ 1000000000 ∧ 0 ≤ n ∧ n ≤ 1000000000 ∧ markOf s (placeOf s n m) = m) := by
  by_cases h : mkB s = true ∧ plB n = true ∧ mkB m = true ∧ plB (n + wayOf (markOf s n) m) = true
  · obtain ⟨h1, h2, h3, h4⟩ := h
    right
    rw [placeOf_yes h1 h2 h3 h4, markOf_yes h1 h4]
    have k2 := pl_t h2
    have k3 := mk_t h3
    have k4 := pl_t h4
    refine ⟨by omega, by omega, by omega, by omega, ?_⟩
    rw [markOf_yes h1 h2] at *
    unfold wayOf
    split <;> omega
  · left
    simp [placeOf, h]

theorem place_back {s n p : Int} (h1 : mkB s = true) (h2 : plB n = true) (h3 : plB p = true) : placeOf s n (markOf s p) = p := by
  have k1 := mk_t h1
  have k2 := pl_t h2
  have k3 := pl_t h3
  have hw : n + wayOf (markOf s n) (markOf s p) = p := by
    rw [markOf_yes h1 h2, markOf_yes h1 h3]
    unfold wayOf
    split <;> omega
  rw [placeOf_yes h1 h2 (mkB_markOf h1 h3) (by rw [hw]; exact h3), hw]

theorem markOf_zero {s : Int} (h : mkB s = true) : markOf s 0 = s := by
  have k := mk_t h
  rw [markOf_yes h (pl_yes (by omega))]
  omega

theorem markOf_split (s p : Int) : (markOf s p = -1 ∧ (s < 0 ∨ 4294967295 < s ∨ p < 0 ∨ 1000000000 < p)) ∨ (mkB s = true ∧ plB p = true ∧ 0 ≤ markOf s p ∧ markOf s p ≤ 4294967295) := by
  by_cases h : mkB s = true ∧ plB p = true
  · right
    refine ⟨h.1, h.2, ?_, ?_⟩ <;> rw [markOf_yes h.1 h.2] <;> omega
  · left
    refine ⟨by simp [markOf, h], ?_⟩
    by_cases h1 : mkB s = true
    · have h2 : plB p = false := by cases h3 : plB p <;> simp_all
      have := pl_f h2
      omega
    · have h2 : mkB s = false := by cases h3 : mkB s <;> simp_all
      have := mk_f h2
      omega

theorem ahead_sum {a b : Int} (h1 : mkB a = true) (h2 : mkB b = true) : (a + wayOf a b + 4294967296) % 4294967296 = b := by
  have k1 := mk_t h1
  have k2 := mk_t h2
  unfold wayOf
  split <;> omega

theorem ahead_back {a b : Int} : (wayOf a b = -2147483648 ∧ wayOf b a = -2147483648) ∨ (wayOf a b ≠ -2147483648 ∧ wayOf b a = - wayOf a b) := by
  unfold wayOf
  split <;> split <;> omega
end Go.Proofs.Ytdjllllgfcfbiaa.Num
