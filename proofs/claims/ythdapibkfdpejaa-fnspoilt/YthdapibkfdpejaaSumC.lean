/- Plain mathematics: what a sum of two bytes becomes where bytes of the text turn; no condition. -/
import Derived.Test.YthdapibkfdpejaaSumA
namespace Go.Proofs.Ythdapibkfdpejaa.Sum
set_option linter.unusedVariables false

theorem sumB_set (c : UInt8) : ∀ (l : List UInt8) (i : Nat) (h : i < l.length), sumB (l.set i c) = sumB l + if i % 2 = 0 then 256 * ((c.toNat : Int) - (l[i].toNat : Int)) else (c.toNat : Int) - (l[i].toNat : Int)
  | [], i, h => by simp at h
  | [a], 0, h => by simp [sumB]; omega
  | [a], i + 1, h => by simp at h
  | a :: b :: r, 0, h => by simp [sumB]; omega
  | a :: b :: r, 1, h => by simp [sumB]; omega
  | a :: b :: r, i + 2, h => by
    have ih := sumB_set c r i (by simpa using h)
    have e : (i + 2) % 2 = i % 2 := by omega
    simp only [List.set_cons_succ, sumB, ih, List.getElem_cons_succ, e]
    omega

/-- Two numbers of two bytes that stand side by side change places. -/
def swap4 (l : List UInt8) (k : Nat) (h : k + 3 < l.length) : List UInt8 := (((l.set k l[k + 2]).set (k + 1) l[k + 3]).set (k + 2) l[k]).set (k + 3) l[k + 1]
theorem swap4_len (l : List UInt8) (k : Nat) (h : k + 3 < l.length) : (swap4 l k h).length = l.length := by simp [swap4]
theorem swap4_sum (l : List UInt8) (k : Nat) (h : k + 3 < l.length) (hk : k % 2 = 0) : sumB (swap4 l k h) = sumB l := by
  unfold swap4
  have e1 : (k + 1) % 2 = 1 := by omega
  have e2 : (k + 2) % 2 = 0 := by omega
  have e3 : (k + 3) % 2 = 1 := by omega
  rw [sumB_set _ _ _ (by simp; omega), sumB_set _ _ _ (by simp; omega), sumB_set _ _ _ (by simp; omega), sumB_set _ _ _ (by omega)]
  rw [if_pos hk, if_neg (by omega), if_pos e2, if_neg (by omega)]
  simp
  omega

theorem sumB_pair {l : List UInt8} {i : Nat} (h : i + 1 < l.length) (hi : i % 2 = 0) : 256 * (l[i].toNat : Int) + (l[i + 1].toNat : Int) ≤ sumB l := by
  have h1 := sumB_set 0 l i (by omega)
  have h2 := sumB_set 0 (l.set i 0) (i + 1) (by simp; omega)
  rw [if_pos hi] at h1
  rw [if_neg (by omega), h1] at h2
  have h3 := sumB_bd ((l.set i 0).set (i + 1) 0)
  simp at h2
  omega

theorem sumB_zero : ∀ l : List UInt8, sumB l = 0 ↔ ∀ b ∈ l, b = 0
  | [] => by simp [sumB]
  | [a] => by
    have := byte_bd a
    simp [sumB]
    constructor
    · intro h; exact UInt8.toNat_inj.1 (by simp; omega)
    · intro h; rw [h]; rfl
  | a :: b :: r => by
    have ha := byte_bd a
    have hb := byte_bd b
    have hr := sumB_bd r
    have ih := sumB_zero r
    simp only [sumB, List.mem_cons, forall_eq_or_imp]
    constructor
    · intro h
      exact ⟨UInt8.toNat_inj.1 (by simp; omega), UInt8.toNat_inj.1 (by simp; omega), ih.1 (by omega)⟩
    · rintro ⟨rfl, rfl, h⟩
      rw [ih.2 h]; rfl

/-- One byte turned is another sum. -/
theorem fold_change {l : List UInt8} {i : Nat} (h : i < l.length) (c : UInt8) : fold (sumB (l.set i c)) = fold (sumB l) ↔ c = l[i] := by
  have h1 := sumB_set c l i h
  have b0 := sumB_bd l
  have b1 := sumB_bd (l.set i c)
  have hc := byte_bd c
  have hl := byte_bd l[i]
  rw [fold_eq b1.1 b0.1]
  constructor
  · rintro ⟨h2, h3⟩
    refine UInt8.toNat_inj.1 ?_
    split at h1 <;> omega
  · rintro rfl
    have e : sumB (l.set i l[i]) = sumB l := by rw [h1]; split <;> omega
    rw [e]; simp

/-- Where one number of two bytes turns into another the sum turns into theirs, but where all are nought. -/
theorem turned_fold {S old new : Int} (h1 : 0 ≤ old) (h2 : old ≤ 65535) (h3 : 0 ≤ new) (h4 : new ≤ 65535) (h5 : old ≤ S) (h6 : 0 < S - old + new) : fold (fold S + (65535 - old) + new) = fold (S - old + new) := by
  unfold fold
  rw [if_neg (show ¬ (S - old + new = 0) by omega)]
  split <;> split <;> omega

end Go.Proofs.Ythdapibkfdpejaa.Sum
