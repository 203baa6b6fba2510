/- What Spoilt does to the text of a letter: plain mathematics, no condition. -/
import Derived.Test.YthdapibkfdpejaaSegE
namespace Go.Proofs.Ythdapibkfdpejaa.Seg
set_option linter.unusedVariables false

theorem spoil_out {L : List UInt8} {p q : Int} (h : ¬ (0 ≤ p ∧ p < L.length ∧ 1 ≤ q ∧ q ≤ 255)) : spoilOf ⟨L.toArray⟩ p q = ⟨L.toArray⟩ := by
  have e : (⟨L.toArray⟩ : ByteArray).size = L.length := rfl
  rw [spoilOf, e, if_neg h]
theorem spoil_all (f t : Int) (b : List UInt8) (e : Bool) (a r p q : Int) (hp : 0 ≤ p) (hp' : p < (showSegL f t b e a r).length) (h1 : 1 ≤ q) (h2 : q ≤ 255) :
    ∃ M : List UInt8, spoilOf ⟨(showSegL f t b e a r).toArray⟩ p q = ⟨M.toArray⟩ ∧ M ≠ showSegL f t b e a r ∧ M.length = (showSegL f t b e a r).length ∧ rdL M = false ∧ spoilOf ⟨M.toArray⟩ p (256 - q) = ⟨(showSegL f t b e a r).toArray⟩ := by
  have hs : Sealed (showSegL f t b e a r) := by
    unfold showSegL at hp' ⊢
    split
    · exact sealed_show _ _ _ _ _ _
    · rename_i h
      rw [if_neg h] at hp'
      simp at hp'
      omega
  generalize showSegL f t b e a r = L at *
  have z : ∀ X : List UInt8, (⟨X.toArray⟩ : ByteArray).size = X.length := fun X => rfl
  have hk : p.toNat < L.length := by omega
  refine ⟨spoilL L p.toNat q, ?_, spoil_ne hk h1 h2, spoil_len _ _ _, spoil_none hs hk h1 h2, ?_⟩
  · rw [spoilOf, z, if_pos ⟨hp, hp', h1, h2⟩]
  · rw [spoilOf, z, spoil_len, if_pos ⟨hp, hp', by omega, by omega⟩]
    show ByteArray.mk (spoilL (spoilL L p.toNat q) p.toNat (256 - q)).toArray = _
    rw [spoil_back hk h1 h2]
theorem show_len_le (f t : Int) (b : List UInt8) (e : Bool) (a r : Int) : (showSegL f t b e a r).length ≤ 18 + b.length := by
  unfold showSegL
  split
  · rw [showL_len]
    exact Nat.le_refl _
  · simp

end Go.Proofs.Ythdapibkfdpejaa.Seg
