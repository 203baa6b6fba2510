/- Contracts of this seat's functions, and their mathematics (PumM LinA). -/
import Derived.Test.YtldghgadkncehaaM49
import Derived.Test.YtldghgadkncehaaM45
import Derived.Test.YtldghgadkncehaaM46
import Derived.Test.YtldghgadkncehaaM47
import Derived.Test.YtldghgadkncehaaM25
import Derived.Test.YtldghgadkncehaaM31
set_option linter.unusedVariables false
set_option linter.unusedSimpArgs false
namespace Go.Proofs.Ytldghgadkncehaa.Pum
open Go.RowKit RowG Tak Giv
theorem left_ok {t : Tk} {k : Int} (h : t.ok = true) (h0 : 0 ≤ k) (h1 : k ≤ t.bs.size) : (leftT t k).ok = true := by
  have := away_ok (n := k) h
  rw [away_in h h0 h1] at this
  exact this
theorem en_ok {g : Gv} (hg : g.ok = true) (e : Bool) : Gv.ok ⟨g.ba, g.bs, g.cp, g.lm, g.en || e, g.dn⟩ = true := by
  obtain ⟨i1, i2, i3, i4, i5, i6, i7⟩ := Giv.ok_iff.1 hg
  refine Giv.ok_iff.2 ⟨i1, i2, i3, i4, i5, i6, fun h => ⟨?_, (i7 h).2⟩⟩
  show (g.en || e) = true
  rw [(i7 h).1]
  rfl
theorem write_en (g : Gv) (s : ByteArray) : (writeG g s).1.en = g.en := by
  unfold writeG
  split <;> rfl
theorem more_ok {t : Tk} {g : Gv} {n : Int} (hg : g.ok = true) (hn : 0 ≤ n) : (moreG t g (moveN t g n)).ok = true := by
  rw [← more_eq (t := t) hg hn]
  have := en_ok (write_ok hg (t.bs.extract 0 (moveN t g n).toNat)) (t.en && decide ((t.bs.size : Int) = moveN t g n))
  rw [write_en] at this
  exact this
theorem pump_yes {t : Tk} {g : Gv} {n : Int} (h : pumpB t g n = true) : t.ok = true ∧ g.ok = true ∧ 0 ≤ n ∧ n ≤ 400 := by
  simp only [pumpB, Bool.and_eq_true, decide_eq_true_eq] at h
  exact ⟨h.1, h.2.1, h.2.2.1, h.2.2.2⟩
theorem pump_no {t : Tk} {g : Gv} {n : Int} (h : pumpB t g n = false) : pumpT t g n = zeroK ∧ pumpG t g n = zeroG ∧ pumpI t g n = -1 ∧ (t.ok = false ∨ g.ok = false ∨ n < 0 ∨ 400 < n) := by
  refine ⟨by simp [pumpT, h], by simp [pumpG, h], by simp [pumpI, h], ?_⟩
  cases ht : t.ok
  · exact .inl rfl
  cases hg : g.ok
  · exact .inr (.inl rfl)
  simp only [pumpB, ht, hg, Bool.true_and, decide_eq_false_iff_not] at h
  omega
theorem pump_facts {t : Tk} {g : Gv} {n : Int} (h : pumpB t g n = true) : ∃ k : Nat, pumpI t g n = (k : Int) ∧ k ≤ t.bs.size ∧ (k : Int) ≤ n ∧ (k : Int) ≤ canI t g ∧ ¬ ((k : Int) < n ∧ (k : Int) < canI t g) ∧
    pumpT t g n = { t with bs := t.bs.extract k t.bs.size } ∧ (pumpT t g n).ok = true ∧ (pumpG t g n).ok = true ∧ pumpG t g n = ⟨g.ba, g.bs ++ t.bs.extract 0 k, g.cp, g.lm, g.en || (t.en && decide ((t.bs.size : Int) = (k : Int))), g.dn⟩ := by
  obtain ⟨ht, hg, n0, n1⟩ := pump_yes h
  obtain ⟨m0, m1, m2⟩ := move_in (t := t) (n := n) hg n0
  have hc : canI t g = canP t g := by simp [canI, ht, hg]
  obtain ⟨k, hk⟩ : ∃ k : Nat, moveN t g n = (k : Int) := ⟨(moveN t g n).toNat, by omega⟩
  have hmin : moveN t g n = min n (canP t g) := rfl
  have eT : pumpT t g n = leftT t (moveN t g n) := by simp [pumpT, h]
  have eG : pumpG t g n = moreG t g (moveN t g n) := by simp [pumpG, h]
  refine ⟨k, by simp [pumpI, h, hk], by omega, by omega, by omega, by omega, ?_, ?_, ?_, ?_⟩
  · rw [eT, hk]
    unfold leftT
    rw [show ((k : Int)).toNat = k by omega]
  · rw [eT]
    exact left_ok ht m0 m1
  · rw [eG]
    exact more_ok hg n0
  · rw [eG, hk]
    unfold moreG
    rw [show ((k : Int)).toNat = k by omega]
end Go.Proofs.Ytldghgadkncehaa.Pum

