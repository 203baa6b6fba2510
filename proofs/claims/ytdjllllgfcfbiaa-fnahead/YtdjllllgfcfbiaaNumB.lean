/- Contracts of Ahead and PlaceOf (chapter 1), the program's and the specification's. -/
import Derived.Test.YtdjllllgfcfbiaaNumA
namespace Go.Proofs.Ytdjllllgfcfbiaa.Num
open Go.RowKit
set_option linter.unusedVariables false

/-- The way from one mark to the other; the one fixed answer where one is none. -/
def aheadOf (a b : Int) : Int := if mkB a = true ∧ mkB b = true then wayOf a b else -2147483649
theorem aheadOf_yes {a b : Int} (h : mkB a = true) (k : mkB b = true) : aheadOf a b = wayOf a b := by simp [aheadOf, h, k]
theorem aheadOf_no {a b : Int} (h : mkB a = false ∨ mkB b = false) : aheadOf a b = -2147483649 := by rcases h with h | h <;> simp [aheadOf, h]
theorem wayOf_bd (a b : Int) : -2147483648 ≤ wayOf a b ∧ wayOf a b ≤ 2147483647 := by unfold wayOf; omega
theorem mkB_markOf {s p : Int} (h : mkB s = true) (k : plB p = true) : mkB (markOf s p) = true := by rw [markOf_yes h k]; exact mk_yes (by omega)
theorem way_pos {a b : Int} (h : ¬ 2147483648 ≤ (b - a) % 4294967296) : wayOf a b = (b - a) % 4294967296 := by unfold wayOf; omega
theorem way_neg {a b : Int} (h : 2147483648 ≤ (b - a) % 4294967296) : wayOf a b = (b - a) % 4294967296 - 4294967296 := by unfold wayOf; omega

set_option maxHeartbeats 400000 in
theorem specAhead (a b : Int) (w : World) : Calls Try.prog 18 #[.int .i64 a, .int .i64 b] w fun e w' => e = .returned (.int .i64 (aheadOf a b)) ∧ w = w' := by
  cases h1 : mkB a
  · go_enter Try.func18, Try.ntmps18
    go_wp2_with (go_at_call 29; refine (l1Mark _ _).mono ?_; rintro e w' ⟨rfl, rfl⟩)
    go_ret
    exact ⟨ret_int (aheadOf_no (.inl h1)).symm, rfl⟩
  · cases h2 : mkB b
    · go_enter Try.func18, Try.ntmps18
      go_wp2_with (go_at_call 29; refine (l1Mark _ _).mono ?_; rintro e w' ⟨rfl, rfl⟩)
      go_ret
      exact ⟨ret_int (aheadOf_no (.inr h2)).symm, rfl⟩
    · have k1 := mk_t h1
      have k2 := mk_t h2
      by_cases hd : 2147483648 ≤ (b - a) % 4294967296
      · have HD : Hid _ := hd
        go_enter Try.func18, Try.ntmps18
        go_wp2_with (go_at_call 29; refine (l1Mark _ _).mono ?_; rintro e w' ⟨rfl, rfl⟩)
        go_ret
        exact ⟨ret_int (by rw [aheadOf_yes h1 h2, way_neg HD.out] ), rfl⟩
      · have HD : Hid _ := hd
        go_enter Try.func18, Try.ntmps18
        go_wp2_with (go_at_call 29; refine (l1Mark _ _).mono ?_; rintro e w' ⟨rfl, rfl⟩)
        go_ret
        exact ⟨ret_int (by rw [aheadOf_yes h1 h2, way_pos HD.out]; omega), rfl⟩

set_option maxHeartbeats 400000 in
theorem implAhead (a b : Int) (w : World) : Calls Try.prog 17 #[.int .i64 a, .int .i64 b] w fun e w' => e = .returned (.int .i64 (aheadOf a b)) ∧ w = w' := by
  cases h1 : mkB a
  · go_enter Try.func17, Try.ntmps17
    go_wp2_with (first | (go_at_call 22; refine (isMark _ _).mono ?_; rintro e w' ⟨rfl, rfl⟩) | go_in)
    go_ret
    exact ⟨ret_int (aheadOf_no (.inl h1)).symm, rfl⟩
  · cases h2 : mkB b
    · go_enter Try.func17, Try.ntmps17
      go_wp2_with (first | (go_at_call 22; refine (isMark _ _).mono ?_; rintro e w' ⟨rfl, rfl⟩) | go_in)
      go_ret
      exact ⟨ret_int (aheadOf_no (.inr h2)).symm, rfl⟩
    · have k1 := mk_t h1
      have k2 := mk_t h2
      go_enter Try.func17, Try.ntmps17
      go_wp2_with (first | (go_at_call 22; refine (isMark _ _).mono ?_; rintro e w' ⟨rfl, rfl⟩) | (go_at_call 28; refine (wayTo _ _ _ k1.1 k1.2 k2.1 k2.2).mono ?_; rintro e w' ⟨rfl, rfl⟩) | go_in)
      go_ret
      exact ⟨ret_int (aheadOf_yes h1 h2).symm, rfl⟩

/-- The place whose mark this is, told from near. -/
def placeOf (s n m : Int) : Int := if mkB s = true ∧ plB n = true ∧ mkB m = true ∧ plB (n + wayOf (markOf s n) m) = true then n + wayOf (markOf s n) m else -1
theorem placeOf_yes {s n m : Int} (h : mkB s = true) (k : plB n = true) (l : mkB m = true) (p : plB (n + wayOf (markOf s n) m) = true) : placeOf s n m = n + wayOf (markOf s n) m := by simp [placeOf, h, k, l, p]
theorem placeOf_no {s n m : Int} (h : mkB s = false ∨ plB n = false ∨ mkB m = false ∨ plB (n + wayOf (markOf s n) m) = false) : placeOf s n m = -1 := by rcases h with h | h | h | h <;> simp [placeOf, h]
theorem markOf_bd (s n : Int) : -1 ≤ markOf s n ∧ markOf s n ≤ 4294967295 := by unfold markOf; split <;> omega
theorem markOf_neg {s n : Int} (h : mkB s = false ∨ plB n = false) : markOf s n < 0 := by rw [markOf_no h]; decide
theorem markOf_pos {s n : Int} (h : mkB s = true) (k : plB n = true) : ¬ markOf s n < 0 := by rw [markOf_yes h k]; omega

set_option maxHeartbeats 1000000 in
theorem specPlaceOf (s n m : Int) (w : World) : Calls Try.prog 14 #[.int .i64 s, .int .i64 n, .int .i64 m] w fun e w' => e = .returned (.int .i64 (placeOf s n m)) ∧ w = w' := by
  cases h1 : mkB m
  · go_enter Try.func14, Try.ntmps14
    go_wp2_with (first | (go_at_call 29; refine (l1Mark _ _).mono ?_; rintro e w' ⟨rfl, rfl⟩) | (go_at_call 13; refine (specMarkOf _ _ _).mono ?_; rintro e w' ⟨rfl, rfl⟩) | (go_at_call 18; refine (specAhead _ _ _).mono ?_; rintro e w' ⟨rfl, rfl⟩) | (go_at_call 30; refine (l1Place _ _).mono ?_; rintro e w' ⟨rfl, rfl⟩))
    go_ret
    exact ⟨ret_int (placeOf_no (.inr (.inr (.inl h1)))).symm, rfl⟩
  · have hb := markOf_bd s n
    by_cases h2 : mkB s = false ∨ plB n = false
    · have hn := markOf_neg h2
      go_enter Try.func14, Try.ntmps14
      go_wp2_with (first | (go_at_call 29; refine (l1Mark _ _).mono ?_; rintro e w' ⟨rfl, rfl⟩) | (go_at_call 13; refine (specMarkOf _ _ _).mono ?_; rintro e w' ⟨rfl, rfl⟩) | (go_at_call 18; refine (specAhead _ _ _).mono ?_; rintro e w' ⟨rfl, rfl⟩) | (go_at_call 30; refine (l1Place _ _).mono ?_; rintro e w' ⟨rfl, rfl⟩))
      go_ret
      exact ⟨ret_int (placeOf_no (by rcases h2 with h | h <;> simp [h])).symm, rfl⟩
    · have h3 : mkB s = true := by cases h : mkB s <;> simp_all
      have h4 : plB n = true := by cases h : plB n <;> simp_all
      clear h2
      have hp := markOf_pos h3 h4
      have hk := mkB_markOf h3 h4
      have hw := wayOf_bd (markOf s n) m
      have ha : aheadOf (markOf s n) m = wayOf (markOf s n) m := aheadOf_yes hk h1
      have hn := pl_t h4
      have HA : Hid _ := placeOf_yes h3 h4 h1
      have HB : Hid (plB (n + wayOf (markOf s n) m) = false → placeOf s n m = -1) := fun h => placeOf_no (.inr (.inr (.inr h)))
      clear h3 h4 hk
      cases h5 : plB (n + wayOf (markOf s n) m)
      · by_cases h6 : (wayOf (markOf s n) m == -2147483648) = true
        · go_enter Try.func14, Try.ntmps14
          go_wp2_with (first | (go_at_call 29; refine (l1Mark _ _).mono ?_; rintro e w' ⟨rfl, rfl⟩) | (go_at_call 13; refine (specMarkOf _ _ _).mono ?_; rintro e w' ⟨rfl, rfl⟩) | (go_at_call 18; refine (specAhead _ _ _).mono ?_; rintro e w' ⟨rfl, rfl⟩) | (go_at_call 30; refine (l1Place _ _).mono ?_; rintro e w' ⟨rfl, rfl⟩))
          go_ret
          exact ⟨ret_int (HB.out h5).symm, rfl⟩
        · have h7 : (wayOf (markOf s n) m == -2147483648) = false := by simpa using h6
          clear h6
          go_enter Try.func14, Try.ntmps14
          go_wp2_with (first | (go_at_call 29; refine (l1Mark _ _).mono ?_; rintro e w' ⟨rfl, rfl⟩) | (go_at_call 13; refine (specMarkOf _ _ _).mono ?_; rintro e w' ⟨rfl, rfl⟩) | (go_at_call 18; refine (specAhead _ _ _).mono ?_; rintro e w' ⟨rfl, rfl⟩) | (go_at_call 30; refine (l1Place _ _).mono ?_; rintro e w' ⟨rfl, rfl⟩))
          go_ret
          exact ⟨ret_int (HB.out h5).symm, rfl⟩
      · have h6 := pl_t h5
        have h7 : (wayOf (markOf s n) m == -2147483648) = false := by simp; omega
        go_enter Try.func14, Try.ntmps14
        go_wp2_with (first | (go_at_call 29; refine (l1Mark _ _).mono ?_; rintro e w' ⟨rfl, rfl⟩) | (go_at_call 13; refine (specMarkOf _ _ _).mono ?_; rintro e w' ⟨rfl, rfl⟩) | (go_at_call 18; refine (specAhead _ _ _).mono ?_; rintro e w' ⟨rfl, rfl⟩) | (go_at_call 30; refine (l1Place _ _).mono ?_; rintro e w' ⟨rfl, rfl⟩))
        go_ret
        exact ⟨ret_int (HA.out h5).symm, rfl⟩

set_option maxHeartbeats 1000000 in
theorem implPlaceOf (s n m : Int) (w : World) : Calls Try.prog 12 #[.int .i64 s, .int .i64 n, .int .i64 m] w fun e w' => e = .returned (.int .i64 (placeOf s n m)) ∧ w = w' := by
  cases h1 : mkB s
  · go_enter Try.func12, Try.ntmps12
    go_wp2_with (first | (go_at_call 22; refine (isMark _ _).mono ?_; rintro e w' ⟨rfl, rfl⟩) | (go_at_call 23; refine (isPlace _ _).mono ?_; rintro e w' ⟨rfl, rfl⟩))
    go_ret
    exact ⟨ret_int (placeOf_no (.inl h1)).symm, rfl⟩
  · cases h2 : plB n
    · go_enter Try.func12, Try.ntmps12
      go_wp2_with (first | (go_at_call 22; refine (isMark _ _).mono ?_; rintro e w' ⟨rfl, rfl⟩) | (go_at_call 23; refine (isPlace _ _).mono ?_; rintro e w' ⟨rfl, rfl⟩))
      go_ret
      exact ⟨ret_int (placeOf_no (.inr (.inl h2))).symm, rfl⟩
    · cases h3 : mkB m
      · go_enter Try.func12, Try.ntmps12
        go_wp2_with (first | (go_at_call 22; refine (isMark _ _).mono ?_; rintro e w' ⟨rfl, rfl⟩) | (go_at_call 23; refine (isPlace _ _).mono ?_; rintro e w' ⟨rfl, rfl⟩))
        go_ret
        exact ⟨ret_int (placeOf_no (.inr (.inr (.inl h3)))).symm, rfl⟩
      · have k1 := mk_t h1
        have k2 := pl_t h2
        have k3 := mk_t h3
        have hw := wayOf_bd ((s + n) % 4294967296) m
        have hm : markOf s n = (s + n) % 4294967296 := markOf_yes h1 h2
        have HA : Hid (plB (n + wayOf ((s + n) % 4294967296) m) = true → placeOf s n m = n + wayOf ((s + n) % 4294967296) m) := fun h => by rw [← hm] at h ⊢; exact placeOf_yes h1 h2 h3 h
        have HB : Hid (plB (n + wayOf ((s + n) % 4294967296) m) = false → placeOf s n m = -1) := fun h => placeOf_no (.inr (.inr (.inr (by rw [hm]; exact h))))
        clear hm
        cases h5 : plB (n + wayOf ((s + n) % 4294967296) m)
        all_goals
          go_enter Try.func12, Try.ntmps12
          go_wp2_with (first | (go_at_call 22; refine (isMark _ _).mono ?_; rintro e w' ⟨rfl, rfl⟩) | (go_at_call 23; refine (isPlace _ _).mono ?_; rintro e w' ⟨rfl, rfl⟩) | (go_at_call 24; refine (after _ _ _ k1.1 k1.2 k2.1 k2.2).mono ?_; rintro e w' ⟨rfl, rfl⟩) | (go_at_call 28; refine (wayTo _ _ _ (by omega) (by omega) k3.1 k3.2).mono ?_; rintro e w' ⟨rfl, rfl⟩))
          go_ret
        · exact ⟨ret_int (HB.out h5).symm, rfl⟩
        · exact ⟨ret_int (HA.out h5).symm, rfl⟩
end Go.Proofs.Ytdjllllgfcfbiaa.Num
