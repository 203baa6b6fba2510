/- Contracts of the functions of chapter 1 (numbers that go round), as the walk runs them, without conditions. -/
import Derived.Test.YtdjllllgfcfbiaaRows
import Derived.WalkKit
import Derived.WalkSpells
import Derived.Below
namespace Go.Proofs.Ytdjllllgfcfbiaa.Num
open Go.RowKit
set_option linter.unusedVariables false

def mkB (n : Int) : Bool := decide (0 ≤ n ∧ n ≤ 4294967295)
def plB (n : Int) : Bool := decide (0 ≤ n ∧ n ≤ 1000000000)

theorem mk_t {n : Int} (h : mkB n = true) : 0 ≤ n ∧ n ≤ 4294967295 := by simpa [mkB] using h
theorem mk_f {n : Int} (h : mkB n = false) : ¬ (0 ≤ n ∧ n ≤ 4294967295) := by simpa [mkB] using h
theorem pl_t {n : Int} (h : plB n = true) : 0 ≤ n ∧ n ≤ 1000000000 := by simpa [plB] using h
theorem pl_f {n : Int} (h : plB n = false) : ¬ (0 ≤ n ∧ n ≤ 1000000000) := by simpa [plB] using h

theorem mk_yes {n : Int} (h : 0 ≤ n ∧ n ≤ 4294967295) : mkB n = true := by simpa [mkB] using h
theorem mk_no {n : Int} (h : ¬ (0 ≤ n ∧ n ≤ 4294967295)) : mkB n = false := by simpa [mkB] using h
theorem pl_yes {n : Int} (h : 0 ≤ n ∧ n ≤ 1000000000) : plB n = true := by simpa [plB] using h
theorem pl_no {n : Int} (h : ¬ (0 ≤ n ∧ n ≤ 1000000000)) : plB n = false := by simpa [plB] using h

theorem ret_bool {a b : Bool} (h : a = b) : Ending.returned (.bool a) = .returned (.bool b) := by rw [h]
theorem ret_int {k : IntKind} {a b : Int} (h : a = b) : Ending.returned (.int k a) = .returned (.int k b) := by rw [h]

set_option maxHeartbeats 400000 in
theorem isMark (n : Int) (w : World) : Calls Try.prog 22 #[.int .i64 n] w fun e w' => e = .returned (.bool (mkB n)) ∧ w = w' := by
  by_cases h0 : 0 ≤ n
  · by_cases h1 : n ≤ 4294967295
    · go_enter Try.func22, Try.ntmps22
      go_wp2
      go_ret
      exact ⟨ret_bool (by simp [mkB, h0, h1]), rfl⟩
    · go_enter Try.func22, Try.ntmps22
      go_wp2
      go_ret
      exact ⟨ret_bool (by simp [mkB, h0, h1]), rfl⟩
  · go_enter Try.func22, Try.ntmps22
    go_wp2
    go_ret
    exact ⟨ret_bool (mk_no (by omega)).symm, rfl⟩

set_option maxHeartbeats 400000 in
theorem isPlace (n : Int) (w : World) : Calls Try.prog 23 #[.int .i64 n] w fun e w' => e = .returned (.bool (plB n)) ∧ w = w' := by
  by_cases h0 : 0 ≤ n
  · by_cases h1 : n ≤ 1000000000
    · go_enter Try.func23, Try.ntmps23
      go_wp2
      go_ret
      exact ⟨ret_bool (by simp [plB, h0, h1]), rfl⟩
    · go_enter Try.func23, Try.ntmps23
      go_wp2
      go_ret
      exact ⟨ret_bool (by simp [plB, h0, h1]), rfl⟩
  · go_enter Try.func23, Try.ntmps23
    go_wp2
    go_ret
    exact ⟨ret_bool (pl_no (by omega)).symm, rfl⟩

set_option maxHeartbeats 400000 in
theorem l1Mark (n : Int) (w : World) : Calls Try.prog 29 #[.int .i64 n] w fun e w' => e = .returned (.bool (mkB n)) ∧ w = w' := by
  by_cases h0 : 0 ≤ n
  · by_cases h1 : n ≤ 4294967295
    · go_enter Try.func29, Try.ntmps29
      go_wp2
      go_ret
      exact ⟨ret_bool (by simp [mkB, h0, h1]), rfl⟩
    · go_enter Try.func29, Try.ntmps29
      go_wp2
      go_ret
      exact ⟨ret_bool (by simp [mkB, h0, h1]), rfl⟩
  · go_enter Try.func29, Try.ntmps29
    go_wp2
    go_ret
    exact ⟨ret_bool (mk_no (by omega)).symm, rfl⟩

set_option maxHeartbeats 400000 in
theorem l1Place (n : Int) (w : World) : Calls Try.prog 30 #[.int .i64 n] w fun e w' => e = .returned (.bool (plB n)) ∧ w = w' := by
  by_cases h0 : 0 ≤ n
  · by_cases h1 : n ≤ 1000000000
    · go_enter Try.func30, Try.ntmps30
      go_wp2
      go_ret
      exact ⟨ret_bool (by simp [plB, h0, h1]), rfl⟩
    · go_enter Try.func30, Try.ntmps30
      go_wp2
      go_ret
      exact ⟨ret_bool (by simp [plB, h0, h1]), rfl⟩
  · go_enter Try.func30, Try.ntmps30
    go_wp2
    go_ret
    exact ⟨ret_bool (pl_no (by omega)).symm, rfl⟩

/-- The mark of a place. -/
def markOf (s p : Int) : Int := if mkB s = true ∧ plB p = true then (s + p) % 4294967296 else -1
theorem markOf_yes {s p : Int} (h : mkB s = true) (k : plB p = true) : markOf s p = (s + p) % 4294967296 := by simp [markOf, h, k]
theorem markOf_no {s p : Int} (h : mkB s = false ∨ plB p = false) : markOf s p = -1 := by rcases h with h | h <;> simp [markOf, h]

set_option maxHeartbeats 400000 in
theorem specMarkOf (s p : Int) (w : World) : Calls Try.prog 13 #[.int .i64 s, .int .i64 p] w fun e w' => e = .returned (.int .i64 (markOf s p)) ∧ w = w' := by
  cases h1 : mkB s
  · go_enter Try.func13, Try.ntmps13
    go_wp2_with (first | (go_at_call 29; refine (l1Mark _ _).mono ?_; rintro e w' ⟨rfl, rfl⟩) | (go_at_call 30; refine (l1Place _ _).mono ?_; rintro e w' ⟨rfl, rfl⟩))
    go_ret
    exact ⟨ret_int (markOf_no (.inl h1)).symm, rfl⟩
  · cases h2 : plB p
    · go_enter Try.func13, Try.ntmps13
      go_wp2_with (first | (go_at_call 29; refine (l1Mark _ _).mono ?_; rintro e w' ⟨rfl, rfl⟩) | (go_at_call 30; refine (l1Place _ _).mono ?_; rintro e w' ⟨rfl, rfl⟩))
      go_ret
      exact ⟨ret_int (markOf_no (.inr h2)).symm, rfl⟩
    · have k1 := mk_t h1
      have k2 := pl_t h2
      go_enter Try.func13, Try.ntmps13
      go_wp2_with (first | (go_at_call 29; refine (l1Mark _ _).mono ?_; rintro e w' ⟨rfl, rfl⟩) | (go_at_call 30; refine (l1Place _ _).mono ?_; rintro e w' ⟨rfl, rfl⟩))
      go_ret
      exact ⟨ret_int (markOf_yes h1 h2).symm, rfl⟩

set_option maxHeartbeats 400000 in
theorem after (m p : Int) (w : World) (h0 : 0 ≤ m) (h1 : m ≤ 4294967295) (h2 : 0 ≤ p) (h3 : p ≤ 1000000000) : Calls Try.prog 24 #[.int .u32 m, .int .i64 p] w fun e w' => e = .returned (.int .u32 ((m + p) % 4294967296)) ∧ w = w' := by
  go_enter Try.func24, Try.ntmps24
  go_wp2
  go_ret
  exact ⟨ret_int (by omega), rfl⟩

/-- The way from one mark to another. -/
def wayOf (a b : Int) : Int := if (b - a) % 4294967296 < 2147483648 then (b - a) % 4294967296 else (b - a) % 4294967296 - 4294967296

set_option maxHeartbeats 400000 in
theorem wayTo (m o : Int) (w : World) (h0 : 0 ≤ m) (h1 : m ≤ 4294967295) (h2 : 0 ≤ o) (h3 : o ≤ 4294967295) : Calls Try.prog 28 #[.int .u32 m, .int .u32 o] w fun e w' => e = .returned (.int .i64 (wayOf m o)) ∧ w = w' := by
  go_enter Try.func28, Try.ntmps28
  go_wp2
  go_ret
  exact ⟨ret_int (by unfold wayOf wrap64 wrap32; omega), rfl⟩

set_option maxHeartbeats 400000 in
theorem implMarkOf (s p : Int) (w : World) : Calls Try.prog 10 #[.int .i64 s, .int .i64 p] w fun e w' => e = .returned (.int .i64 (markOf s p)) ∧ w = w' := by
  cases h1 : mkB s
  · go_enter Try.func10, Try.ntmps10
    go_wp2_with (first | (go_at_call 22; refine (isMark _ _).mono ?_; rintro e w' ⟨rfl, rfl⟩) | (go_at_call 23; refine (isPlace _ _).mono ?_; rintro e w' ⟨rfl, rfl⟩))
    go_ret
    exact ⟨ret_int (markOf_no (.inl h1)).symm, rfl⟩
  · cases h2 : plB p
    · go_enter Try.func10, Try.ntmps10
      go_wp2_with (first | (go_at_call 22; refine (isMark _ _).mono ?_; rintro e w' ⟨rfl, rfl⟩) | (go_at_call 23; refine (isPlace _ _).mono ?_; rintro e w' ⟨rfl, rfl⟩))
      go_ret
      exact ⟨ret_int (markOf_no (.inr h2)).symm, rfl⟩
    · have k1 := mk_t h1
      have k2 := pl_t h2
      go_enter Try.func10, Try.ntmps10
      go_wp2_with (first | (go_at_call 22; refine (isMark _ _).mono ?_; rintro e w' ⟨rfl, rfl⟩) | (go_at_call 23; refine (isPlace _ _).mono ?_; rintro e w' ⟨rfl, rfl⟩) | (go_at_call 24; refine (after _ _ _ k1.1 k1.2 k2.1 k2.2).mono ?_; rintro e w' ⟨rfl, rfl⟩))
      go_ret
      exact ⟨ret_int (markOf_yes h1 h2).symm, rfl⟩
end Go.Proofs.Ytdjllllgfcfbiaa.Num
