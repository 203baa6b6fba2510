/- The laws' own helpers over takers with no parts: eqTaker, markTaker, heldTaker; no condition. -/
import Derived.Test.YthgmfdgiinbgaaaTakT
namespace Go.Proofs.Ythgmfdgiinbgaaa.Tak
open Go.RowKit RowG
set_option linter.unusedVariables false
set_option linter.unusedSimpArgs false

set_option maxHeartbeats 1000000 in
theorem eqPartS0 (w : World) : Calls Try.prog 81 #[.slice none 0 0, .slice none 0 0] w fun x w' => x = .returned (.bool true) ∧ w' = w := by
  go_enter Try.func81, Try.ntmps81
  go_wp2_with fail
  go_loopw [5] (fun i wr => i = .int .i64 0 ∧ wr = w) (fun _ _ => 0)
  case atStart => exact ⟨rfl, rfl⟩
  case round =>
    obtain ⟨rfl, rfl⟩ := hrel
    go_wp2_with fail
    go_ret
    exact ⟨rfl, rfl⟩

set_option maxHeartbeats 1000000 in
theorem markPartS0 (k : Int) (w : World) : Calls Try.prog 83 #[.slice none 0 0, .int .i64 k] w fun x w' => x = .returned (.int .i64 k) ∧ w' = w := by
  go_enter Try.func83, Try.ntmps83
  go_wp2_with fail
  go_loopw [1, 5] (fun q i wr => q = .int .i64 k ∧ i = .int .i64 0 ∧ wr = w) (fun _ _ _ => 0)
  case atStart => exact ⟨rfl, rfl, rfl⟩
  case round =>
    obtain ⟨rfl, rfl, rfl⟩ := hrel
    go_wp2_with fail
    go_ret
    exact ⟨rfl, rfl⟩

set_option maxHeartbeats 1000000 in
theorem heldPartS0 (k : Int) (w : World) : Calls Try.prog 85 #[.slice none 0 0, .int .i64 k] w fun x w' => x = .returned (.int .i64 k) ∧ w' = w := by
  go_enter Try.func85, Try.ntmps85
  go_wp2_with fail
  go_loopw [1, 5] (fun q i wr => q = .int .i64 k ∧ i = .int .i64 0 ∧ wr = w) (fun _ _ _ => 0)
  case atStart => exact ⟨rfl, rfl, rfl⟩
  case round =>
    obtain ⟨rfl, rfl, rfl⟩ := hrel
    go_wp2_with fail
    go_ret
    exact ⟨rfl, rfl⟩

set_option maxHeartbeats 1000000 in
theorem eqTaker0 (nx : Int) (bs : ByteArray) (cp fi : Int) (en : Bool) (w : World) :
    Calls Try.prog 48 #[.agg #[.int .i64 nx, .string bs, .slice none 0 0, .int .i64 cp, .int .i64 fi, .bool en], .agg #[.int .i64 nx, .string bs, .slice none 0 0, .int .i64 cp, .int .i64 fi, .bool en]] w fun x w' => x = .returned (.bool true) ∧ Below w.heap.size w w' := by
  go_enter Try.func48, Try.ntmps48
  go_wp2_with (go_at_call 81; refine (eqPartS0 _).mono ?_; rintro x w' ⟨rfl, rfl⟩)
  go_ret
  exact ⟨rfl, ((Below.refl _ _).alloc (Nat.le_refl _) _).alloc (by simp) _⟩

set_option maxHeartbeats 1000000 in
theorem markTaker0 (nx : Int) (bs : ByteArray) (cp fi : Int) (en : Bool) (k : Int) (w : World) :
    Calls Try.prog 50 #[.agg #[.int .i64 nx, .string bs, .slice none 0 0, .int .i64 cp, .int .i64 fi, .bool en], .int .i64 k] w fun x w' => x = .returned (.int .i64 k) ∧ Below w.heap.size w w' := by
  go_enter Try.func50, Try.ntmps50
  go_wp2_with (go_at_call 83; refine (markPartS0 _ _).mono ?_; rintro x w' ⟨rfl, rfl⟩)
  go_ret
  exact ⟨rfl, (Below.refl _ _).alloc (Nat.le_refl _) _⟩

set_option maxHeartbeats 1000000 in
theorem heldTaker0 (nx : Int) (bs : ByteArray) (cp fi : Int) (en : Bool) (k : Int) (hk : 0 ≤ k) (w : World) :
    Calls Try.prog 52 #[.agg #[.int .i64 nx, .string bs, .slice none 0 0, .int .i64 cp, .int .i64 fi, .bool en], .int .i64 k] w fun x w' => x = .returned (.int .i64 k) ∧ Below w.heap.size w w' := by
  go_enter Try.func52, Try.ntmps52
  go_wp2_with (go_at_call 85; refine (heldPartS0 _ _).mono ?_; rintro x w' ⟨rfl, rfl⟩)
  go_ret
  exact ⟨rfl, (Below.refl _ _).alloc (Nat.le_refl _) _⟩

end Go.Proofs.Ythgmfdgiinbgaaa.Tak
