/- Plain mathematics of spans (chapter 4) and how they lie in memory; no condition. -/
import Derived.Test.YtjlebhohhhkmfabNumA
import Derived.Test.YtjlebhohhhkmfabDrawB
namespace Go.Proofs.Ytjlebhohhhkmfab.Hole
open Go.RowKit
set_option linter.unusedVariables false

abbrev Sp := Int × Int
def spB (s : Sp) : Bool := Num.plB s.1 && (Num.plB s.2 && decide (s.1 < s.2))
/-- The span at k is one, and lies behind the one ahead of it. -/
def good (l : List Sp) (k : Nat) : Prop := spB (l.getD k (0, 0)) = true ∧ (k = 0 ∨ (l.getD (k - 1) (0, 0)).2 < (l.getD k (0, 0)).1)
instance (l : List Sp) (k : Nat) : Decidable (good l k) := by unfold good; exact inferInstance
def allGood (l : List Sp) : Prop := ∀ k, k < l.length → good l k
instance (l : List Sp) : Decidable (allGood l) := by unfold allGood; exact inferInstance
def spansB (l : List Sp) : Bool := decide (allGood l) && decide (l.length ≤ 30)

/-- Spans that can be read, from an address on. -/
def Spans (w : World) (a : Option Addr) (l : List Sp) : Prop :=
  l = [] ∨ ∃ b off, a = some ⟨b, off, none⟩ ∧ ∀ i, i < l.length → w.cell? ⟨b, off + i * 2, none⟩ = some (.int .i64 (l.getD i (0, 0)).1) ∧ w.cell? ⟨b, off + i * 2 + 1, none⟩ = some (.int .i64 (l.getD i (0, 0)).2)

set_option maxHeartbeats 1000000 in
theorem l4Span (f t : Int) (w : World) : Calls Try.prog 16 #[.agg #[.int .i64 f, .int .i64 t]] w fun x w' => x = .returned (.bool (spB (f, t))) ∧ Below w.heap.size w w' := by
  have fin : ∀ {o : Obj}, Below w.heap.size w (w.alloc o) := fun {o} => (Below.refl _ _).alloc (Nat.le_refl _) o
  cases h1 : Num.plB f
  · go_enter Try.func16, Try.ntmps16
    go_wp2_with (go_at_call 10; refine (Num.l1Place _ _).mono ?_; rintro x w' ⟨rfl, rfl⟩)
    go_ret
    exact ⟨Num.ret_bool (by simp [spB, h1]), fin⟩
  · cases h2 : Num.plB t
    · go_enter Try.func16, Try.ntmps16
      go_wp2_with (go_at_call 10; refine (Num.l1Place _ _).mono ?_; rintro x w' ⟨rfl, rfl⟩)
      go_ret
      exact ⟨Num.ret_bool (by simp [spB, h2]), fin⟩
    · go_enter Try.func16, Try.ntmps16
      go_wp2_with (go_at_call 10; refine (Num.l1Place _ _).mono ?_; rintro x w' ⟨rfl, rfl⟩)
      go_ret
      exact ⟨Num.ret_bool (by simp [spB, h1, h2]), fin⟩

theorem l4SpanEq {f t : Int} {v : Bool} (h : spB (f, t) = v) (w : World) : Calls Try.prog 16 #[.agg #[.int .i64 f, .int .i64 t]] w fun x w' => x = .returned (.bool v) ∧ Below w.heap.size w w' := by
  subst h
  exact l4Span f t w

theorem bad_at {l : List Sp} {k : Nat} (hk : k < l.length) (h : ¬ good l k) : spansB l = false := by
  have : ¬ allGood l := fun ha => h (ha k hk)
  simp only [spansB, decide_eq_false this, Bool.false_and]
theorem good_all {l : List Sp} (h : ∀ j, j < l.length → good l j) : spansB l = decide (l.length ≤ 30) := by
  have : allGood l := h
  simp only [spansB, decide_eq_true this, Bool.true_and]

end Go.Proofs.Ytjlebhohhhkmfab.Hole
