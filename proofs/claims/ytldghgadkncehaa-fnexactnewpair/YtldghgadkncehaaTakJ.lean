/- What a taker's walk over the places of a text leaves (foldK), and what joins (joinT): plain mathematics of chapter 5; no condition. -/
import Derived.Test.YtldghgadkncehaaTakI
namespace Go.Proofs.Ytldghgadkncehaa.Tak
set_option linter.unusedVariables false

/-- Behind the places below k: the parts are in order; where a run stands open all of it is new; what is there is what was, and all of the text below the run (or k) that may be. -/
structure Inv (nx lim p stop : Int) (l0 L : List Pt) (fr k : Int) : Prop where
  ok : okQ lim nx L
  run : fr = -1 ∨ (p ≤ fr ∧ fr < k ∧ nx ≤ fr ∧ k ≤ lim ∧ k ≤ stop ∧ ∀ j, fr ≤ j → j < k → thereB L j = false)
  cov : ∀ j, thereB L j = true ↔ thereB l0 j = true ∨ (p ≤ j ∧ j < (if fr < 0 then k else fr) ∧ nx ≤ j ∧ j < lim ∧ j < stop)
theorem ext_size (b : ByteArray) (i j : Nat) (h : j ≤ b.size) : (b.extract i j).size = j - i := by
  rw [ByteArray.size_extract]
  omega
theorem fresh_iff {nx lim stop : Int} {l : List Pt} {k : Int} : freshB nx lim stop l k = true ↔ k < stop ∧ nx ≤ k ∧ k < lim ∧ thereB l k = false := by
  simp [freshB]
theorem inv_step {nx lim p : Int} {bz : ByteArray} {l0 L : List Pt} {fr : Int} {b : Bool} {i : Nat} (hp : 0 ≤ p) (hz : bz.size ≤ 40) (hi : i ≤ bz.size) (h : Inv nx lim p (p + bz.size) l0 L fr (p + i)) :
    Inv nx lim p (p + bz.size) l0 (stepK nx lim p bz (L, fr, b) (p + i)).1 (stepK nx lim p bz (L, fr, b) (p + i)).2.1 (p + (i + 1 : Nat)) := by
  obtain ⟨hok, hrun, hcov⟩ := h
  have e1 : p + ((i + 1 : Nat) : Int) = p + i + 1 := by omega
  rw [e1]
  unfold stepK
  simp only []
  by_cases hf : freshB nx lim (p + bz.size) L (p + i) = true
  · rw [if_pos hf]
    obtain ⟨f1, f2, f3, f4⟩ := fresh_iff.1 hf
    by_cases hn : fr < 0
    · rw [if_pos hn]
      show Inv nx lim p (p + bz.size) l0 L (p + i) (p + i + 1)
      refine ⟨hok, .inr ⟨by omega, by omega, f2, by omega, by omega, fun j a c => ?_⟩, fun j => ?_⟩
      · rw [show j = p + i by omega]; exact f4
      · rw [hcov j, if_pos hn, if_neg (by omega)]
    · rw [if_neg hn]
      obtain ⟨r1, r2, r3, r4, r5, r6⟩ : p ≤ fr ∧ fr < p + i ∧ nx ≤ fr ∧ p + i ≤ lim ∧ p + i ≤ p + bz.size ∧ ∀ j, fr ≤ j → j < p + i → thereB L j = false := by
        rcases hrun with q | q
        · omega
        · exact q
      refine ⟨hok, .inr ⟨r1, by show fr < p + i + 1; omega, r3, by show p + (i : Int) + 1 ≤ lim; omega, by show p + (i : Int) + 1 ≤ p + bz.size; omega, fun j a c => ?_⟩, fun j => ?_⟩
      · by_cases hj : j = p + i
        · rw [hj]; exact f4
        · exact r6 j a (by omega)
      · show _ ↔ _ ∨ (_ ∧ j < (if fr < 0 then p + (i : Int) + 1 else fr) ∧ _)
        rw [hcov j, if_neg hn, if_neg hn]
  · rw [if_neg hf]
    have hnf : ¬ (p + (i : Int) < p + bz.size ∧ nx ≤ p + i ∧ p + i < lim ∧ thereB L (p + i) = false) := fun q => hf (fresh_iff.2 q)
    by_cases hn : 0 ≤ fr
    · rw [if_pos hn]
      obtain ⟨r1, r2, r3, r4, r5, r6⟩ : p ≤ fr ∧ fr < p + i ∧ nx ≤ fr ∧ p + i ≤ lim ∧ p + i ≤ p + bz.size ∧ ∀ j, fr ≤ j → j < p + i → thereB L j = false := by
        rcases hrun with q | q
        · omega
        · exact q
      have hsz : (bz.extract (fr - p).toNat (p + (i : Int) - p).toNat).size = (p + (i : Int) - fr).toNat := by
        rw [ext_size _ _ _ (by omega)]
        omega
      have hen : endP (fr, bz.extract (fr - p).toNat (p + (i : Int) - p).toNat) = p + i := by
        unfold endP
        simp only []
        rw [hsz]
        omega
      generalize bz.extract (fr - p).toNat (p + (i : Int) - p).toNat = piece at *
      have hs1 : 1 ≤ piece.size ∧ piece.size ≤ 40 := by rw [hsz]; omega
      simp only []
      rw [put_eq]
      refine ⟨put_ok (q := (fr, piece)) hs1 (by rw [hen]; exact r4) hok r3 (fun j a c => r6 j a (by rw [hen] at c; exact c)), .inl rfl, fun j => ?_⟩
      rw [put_there, hen, hcov j, if_neg (by omega), if_pos (by omega)]
      constructor
      · rintro ((q | q) | q)
        · exact .inl q
        · exact .inr ⟨q.1, by omega, q.2.2⟩
        · have q1 : fr ≤ j := q.1
          exact .inr ⟨by omega, by omega, by omega, by omega, by omega⟩
      · rintro (q | q)
        · exact .inl (.inl q)
        · by_cases c : j < fr
          · exact .inl (.inr ⟨q.1, c, q.2.2⟩)
          · by_cases c2 : j < p + i
            · exact .inr ⟨by show fr ≤ j; omega, c2⟩
            · have hj : j = p + i := by omega
              subst hj
              by_cases ht : thereB L (p + i) = true
              · rcases (hcov _).1 ht with z | z
                · exact .inl (.inl z)
                · rw [if_neg (by omega)] at z; exact .inl (.inr z)
              · exact absurd ⟨q.2.2.2.2, q.2.2.1, q.2.2.2.1, by simpa using ht⟩ hnf
    · rw [if_neg hn]
      have hm1 : fr = -1 := by
        rcases hrun with q | q
        · exact q
        · omega
      refine ⟨hok, .inl hm1, fun j => ?_⟩
      show _ ↔ _ ∨ (_ ∧ j < (if fr < 0 then p + (i : Int) + 1 else fr) ∧ _)
      rw [hcov j, if_pos (by omega), if_pos (by omega)]
      constructor
      · rintro (q | q)
        · exact .inl q
        · exact .inr ⟨q.1, by omega, q.2.2⟩
      · rintro (q | q)
        · exact .inl q
        · by_cases c2 : j < p + i
          · exact .inr ⟨q.1, c2, q.2.2⟩
          · have hj : j = p + i := by omega
            subst hj
            by_cases ht : thereB L (p + i) = true
            · rcases (hcov _).1 ht with z | z
              · exact .inl z
              · rw [if_pos (by omega)] at z; exact .inr z
            · exact absurd ⟨q.2.2.2.2, q.2.2.1, q.2.2.2.1, by simpa using ht⟩ hnf
theorem inv_fold {nx lim p : Int} {bz : ByteArray} {l0 : List Pt} (hp : 0 ≤ p) (hz : bz.size ≤ 40) (h0 : okQ lim nx l0) : ∀ i : Nat, i ≤ bz.size + 1 → Inv nx lim p (p + bz.size) l0 (foldK nx lim p bz l0 i).1 (foldK nx lim p bz l0 i).2.1 (p + i)
  | 0, _ => ⟨h0, .inl rfl, fun j => by
      show _ ↔ _ ∨ (_ ∧ j < (if (-1 : Int) < 0 then p + ((0 : Nat) : Int) else -1) ∧ _)
      rw [if_pos (by decide)]
      exact ⟨fun q => .inl q, fun q => q.elim id (fun z => by have := z.1; have := z.2.1; omega)⟩⟩
  | i + 1, hi => by
    have ih := inv_fold (bz := bz) hp hz h0 i (by omega)
    rw [foldK_succ]
    exact inv_step hp hz (by omega) ih

end Go.Proofs.Ytldghgadkncehaa.Tak
