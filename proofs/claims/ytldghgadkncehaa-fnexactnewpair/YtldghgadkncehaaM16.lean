/- Contracts of this seat's functions, and their mathematics (TakT). -/
import Derived.Test.YtldghgadkncehaaM15
import Derived.Deep.Cut
import Derived.Lib.SliceRun
set_option linter.unusedVariables false
set_option linter.unusedSimpArgs false
set_option maxHeartbeats 1000000
namespace Go.Proofs.Ytldghgadkncehaa.Tak
open Go.RowKit RowG Rng
theorem implNewTaker (n : Int) (w : World) :
    Calls Try.prog 82 #[.int .i64 n] w fun x w' => x = .returned (.tuple #[if capB n then newT n else zeroT, .bool (capB n)]) ∧ Below w.heap.size w w' := by
  cases h : capB n
  · go_enter Try.func82, Try.ntmps82
    go_wp2_with (go_at_call 105; refine (isCapEq h _).mono ?_; rintro x w' ⟨rfl, rfl⟩)
    exact bodyPost_ret (v := .tuple #[zeroT, .bool false]) (by rw [res_cell_tmp rfl]; go_simp; rfl) rfl ⟨rfl, by repeat (first | exact (Below.refl _ _).alloc (Nat.le_refl _) _ | refine Below.setCell ?_ (Nat.le_refl _) _)⟩
  · go_enter Try.func82, Try.ntmps82
    go_wp2_with (go_at_call 105; refine (isCapEq h _).mono ?_; rintro x w' ⟨rfl, rfl⟩)
    exact bodyPost_ret (v := .tuple #[newT n, .bool true]) (by rw [res_cell_tmp rfl]; go_simp; rfl) rfl ⟨rfl, by repeat (first | exact (Below.refl _ _).alloc (Nat.le_refl _) _ | refine Below.setCell ?_ (Nat.le_refl _) _)⟩
end Go.Proofs.Ytldghgadkncehaa.Tak
