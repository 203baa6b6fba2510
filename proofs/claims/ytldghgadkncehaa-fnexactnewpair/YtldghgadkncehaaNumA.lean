/- Contracts of the functions of chapter 1 (numbers that go round), as the walk runs them, without conditions. -/
import Derived.Test.YtldghgadkncehaaRows
import Derived.WalkKit
import Derived.WalkSpells
import Derived.Below
namespace Go.Proofs.Ytldghgadkncehaa.Num
open Go.RowKit
set_option linter.unusedVariables false

def mkB (n : Int) : Bool := decide (0 ≤ n ∧ n ≤ 4294967295)
def plB (n : Int) : Bool := decide (0 ≤ n ∧ n ≤ 1000000000)

theorem mk_t {n : Int} (h : mkB n = true) : 0 ≤ n ∧ n ≤ 4294967295 := by simpa [mkB] using h
theorem mk_f {n : Int} (h : mkB n = false) : ¬ (0 ≤ n ∧ n ≤ 4294967295) := by simpa [mkB] using h
theorem pl_t {n : Int} (h : plB n = true) : 0 ≤ n ∧ n ≤ 1000000000 := by simpa [plB] using h
theorem pl_f {n : Int} (h : plB n = false) : ¬ (0 ≤ n ∧ n ≤ 1000000000) := by simpa [plB] using h

theorem mk_yes {n : Int} (h : 0 ≤ n ∧ n ≤ 4294967295) : mkB n = true := by simpa [mkB] using h
theorem mk_no {n : Int} (h : ¬ (0 ≤ n ∧ n ≤ 4294967295)) : mkB n = false := by simpa [mkB] using h
theorem pl_yes {n : Int} (h : 0 ≤ n ∧ n ≤ 1000000000) : plB n = true := by simpa [plB] using h
theorem pl_no {n : Int} (h : ¬ (0 ≤ n ∧ n ≤ 1000000000)) : plB n = false := by simpa [plB] using h

theorem ret_bool {a b : Bool} (h : a = b) : Ending.returned (.bool a) = .returned (.bool b) := by rw [h]
theorem ret_int {k : IntKind} {a b : Int} (h : a = b) : Ending.returned (.int k a) = .returned (.int k b) := by rw [h]

set_option maxHeartbeats 400000 in
theorem isPlace (n : Int) (w : World) : Calls Try.prog 110 #[.int .i64 n] w fun e w' => e = .returned (.bool (plB n)) ∧ w = w' := by
  by_cases h0 : 0 ≤ n
  · by_cases h1 : n ≤ 1000000000
    · go_enter Try.func110, Try.ntmps110
      go_wp2
      go_ret
      exact ⟨ret_bool (by simp [plB, h0, h1]), rfl⟩
    · go_enter Try.func110, Try.ntmps110
      go_wp2
      go_ret
      exact ⟨ret_bool (by simp [plB, h0, h1]), rfl⟩
  · go_enter Try.func110, Try.ntmps110
    go_wp2
    go_ret
    exact ⟨ret_bool (pl_no (by omega)).symm, rfl⟩

set_option maxHeartbeats 400000 in
theorem l1Place (n : Int) (w : World) : Calls Try.prog 67 #[.int .i64 n] w fun e w' => e = .returned (.bool (plB n)) ∧ w = w' := by
  by_cases h0 : 0 ≤ n
  · by_cases h1 : n ≤ 1000000000
    · go_enter Try.func67, Try.ntmps67
      go_wp2
      go_ret
      exact ⟨ret_bool (by simp [plB, h0, h1]), rfl⟩
    · go_enter Try.func67, Try.ntmps67
      go_wp2
      go_ret
      exact ⟨ret_bool (by simp [plB, h0, h1]), rfl⟩
  · go_enter Try.func67, Try.ntmps67
    go_wp2
    go_ret
    exact ⟨ret_bool (pl_no (by omega)).symm, rfl⟩

/-- The mark of a place. -/
def markOf (s p : Int) : Int := if mkB s = true ∧ plB p = true then (s + p) % 4294967296 else -1
theorem markOf_yes {s p : Int} (h : mkB s = true) (k : plB p = true) : markOf s p = (s + p) % 4294967296 := by simp [markOf, h, k]
theorem markOf_no {s p : Int} (h : mkB s = false ∨ plB p = false) : markOf s p = -1 := by rcases h with h | h <;> simp [markOf, h]

/-- The way from one mark to another. -/
def wayOf (a b : Int) : Int := if (b - a) % 4294967296 < 2147483648 then (b - a) % 4294967296 else (b - a) % 4294967296 - 4294967296

end Go.Proofs.Ytldghgadkncehaa.Num
