/- Contracts of this seat's functions, and their mathematics (HopJ HopIL). -/
import Derived.Test.YtldghgadkncehaaM42
import Derived.Test.YtldghgadkncehaaM43
import Derived.Test.YtldghgadkncehaaM14
import Derived.Test.YtldghgadkncehaaM38
set_option linter.unusedVariables false
set_option linter.unusedSimpArgs false
namespace Go.Proofs.Ytldghgadkncehaa.Hop
open Go.RowKit RowG
theorem _root_.Go.Proofs.Ytldghgadkncehaa.RowG.Win.sub {T : TypeId} {pre post a b c : List Value} {o : Nat} {w : World} {k : Nat} (h : Win T pre post o w k (a ++ b ++ c)) : Win T (pre ++ a) (c ++ post) (o + a.length) w k b := by
  refine ⟨by simp [h.len], ?_⟩
  have := h.blk
  simpa [List.append_assoc] using this
theorem _root_.Go.Proofs.Ytldghgadkncehaa.RowG.Win.up {T : TypeId} {pre post a b c : List Value} {o : Nat} {w : World} {k : Nat} (h : Win T (pre ++ a) (c ++ post) (o + a.length) w k b) : Win T pre post o w k (a ++ b ++ c) := by
  refine ⟨by have := h.len; simp at this; omega, ?_⟩
  have := h.blk
  simpa [List.append_assoc] using this
theorem _root_.Go.Proofs.Ytldghgadkncehaa.RowG.Win.fst {T : TypeId} {pre post b c : List Value} {o : Nat} {w : World} {k : Nat} (h : Win T pre post o w k (b ++ c)) : Win T pre (c ++ post) o w k b := ⟨h.len, by have := h.blk; simpa [List.append_assoc] using this⟩
theorem _root_.Go.Proofs.Ytldghgadkncehaa.RowG.Win.unfst {T : TypeId} {pre post b c : List Value} {o : Nat} {w : World} {k : Nat} (h : Win T pre (c ++ post) o w k b) : Win T pre post o w k (b ++ c) := ⟨h.len, by have := h.blk; simpa [List.append_assoc] using this⟩
/-- Letter n comes: it is taken out, and heard or taken. -/
def comeH (h : Hp) (n : Int) : Hp × Bool := match outH h n with
  | (y, x, true) => (if x.bk then ⟨(Giv.hearG y.g x.pl x.lm x.dn).1, y.t, y.ws⟩ else ⟨y.g, (Tak.takeT y.t x.pl x.bs x.en).1, y.ws⟩, true)
  | (y, _, false) => (y, false)
theorem outH_in {h : Hp} {n : Int} {y : Hp} {x : Lt} (he : outH h n = (y, x, true)) : x ∈ h.ws ∧ y.g = h.g ∧ y.t = h.t ∧ (∀ z ∈ y.ws, z ∈ h.ws) ∧ y.ws.length + 1 = h.ws.length := by
  unfold outH at he
  split at he
  · split at he
    · rename_i z hz
      simp only [Prod.mk.injEq] at he
      obtain ⟨rfl, rfl, -⟩ := he
      have hl := (List.getElem?_eq_some_iff.1 hz).1
      refine ⟨List.mem_of_getElem? hz, rfl, rfl, fun q hq => ?_, by simp; omega⟩
      rcases List.mem_append.1 hq with q1 | q1
      · exact List.mem_of_mem_take q1
      · exact List.mem_of_mem_drop q1
    · simp at he
  · simp at he
theorem let_in {x : Lt} (h : letB x = true) : (0 ≤ x.pl ∧ x.pl ≤ 1000000000) ∧ x.bs.size ≤ 40 := by
  unfold letB at h
  simp only [Bool.and_eq_true, decide_eq_true_eq, Num.plB] at h
  obtain ⟨-, hp, h⟩ := h
  refine ⟨hp, ?_⟩
  split at h
  · simp only [Bool.and_eq_true, decide_eq_true_eq] at h
    omega
  · simp only [Bool.and_eq_true, decide_eq_true_eq] at h
    exact h.2.2.1
end Go.Proofs.Ytldghgadkncehaa.Hop
namespace Go.Proofs.Ytldghgadkncehaa.Hop
open Go.RowKit RowG
end Go.Proofs.Ytldghgadkncehaa.Hop
