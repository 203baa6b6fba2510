/- Plain mathematics of FnAlarms (chapter 8): who rings, who stays, what was set; no condition. -/
import Derived.Test.YtdipdenekhffcaaAlmY
namespace Go.Proofs.Ytdipdenekhffcaa.Alm
open Go.RowKit RowG
set_option linter.unusedVariables false
set_option linter.unusedSimpArgs false

theorem cut_at (now : Int) : ∀ l : List Al, ∃ k, k ≤ l.length ∧ (∀ i, i < k → (at' l i).1 ≤ now) ∧ (k < l.length → now < (at' l k).1)
  | [] => ⟨0, Nat.le_refl _, fun i hi => absurd hi (by omega), fun h => absurd h (by simp)⟩
  | x :: l => by
    by_cases h : x.1 ≤ now
    · obtain ⟨k, h1, h2, h3⟩ := cut_at now l
      refine ⟨k + 1, by simp; omega, fun i hi => ?_, fun q => h3 (by simpa using q)⟩
      cases i with
      | zero => exact h
      | succ i => exact h2 i (by omega)
    · exact ⟨0, Nat.zero_le _, fun i hi => absurd hi (by omega), fun _ => by show now < x.1; omega⟩
theorem ok_al {l : List Al} (h : alarmsB l = true) : ∀ a ∈ l, alB a = true := by
  intro a ha
  obtain ⟨k, hk, e⟩ := List.getElem_of_mem ha
  have hg : allGood l := by simp [alarmsB] at h; exact h.1
  have := (hg k hk).1
  rw [getD_at, at_lt hk, e] at this
  exact this
theorem ok_of {l : List Al} (hr : Rise l) (ha : ∀ a ∈ l, alB a = true) (hl : l.length ≤ 20) : alarmsB l = true := by
  have : allGood l := rise_good hr ha
  simp [alarmsB, hl, this]
theorem ok_drop {l : List Al} (h : alarmsB l = true) (k : Nat) : alarmsB (l.drop k) = true :=
  ok_of (ok_rise h).drop (fun a ha => ok_al h a (List.mem_of_mem_drop ha)) (by have := ok_len h; rw [List.length_drop]; omega)
theorem set_ok {l : List Al} {a : Al} (h : setB l a = true) : alarmsB (setL l a) = true ∧ (setL l a).length = l.length + 1 ∧ (setL l a).countP (fun b => decide (b = a)) = 1 := by
  have h' := h
  simp only [setB, Bool.and_eq_true, decide_eq_true_eq] at h'
  obtain ⟨hok, hal, h20, hna⟩ := h'
  have e : setL l a = insA a l := by unfold setL; rw [if_pos hok, if_pos h]
  have hp := ins_perm a l
  have hlen : (insA a l).length = l.length + 1 := by rw [hp.length_eq]; simp
  rw [e]
  refine ⟨ok_of (ins_rise (ok_rise hok) hna) (fun b hb => ?_) (by have := ok_len hok; omega), hlen, ?_⟩
  · rcases List.mem_cons.1 (hp.mem_iff.1 hb) with q | q
    · rw [q]; exact hal
    · exact ok_al hok b q
  · rw [hp.countP_eq, List.countP_cons_of_pos (by simp)]
    have : l.countP (fun b => decide (b = a)) = 0 := List.countP_eq_zero.2 fun b hb => by simp; exact fun q => hna (q ▸ hb)
    rw [this]
theorem set_no {l : List Al} {a : Al} (h : setB l a = false) : (alarmsB l = false → setL l a = []) ∧ (alarmsB l = true → setL l a = l) := by
  constructor
  · intro q; simp [setL, q]
  · intro q; unfold setL; rw [if_pos q, h]; rfl
theorem stop_no {l : List Al} {who : Int} {k : Nat} (hk : k < (stopL l who).length) : (at' (stopL l who) k).2 ≠ who := by
  have := at_mem hk
  unfold stopL at this hk ⊢
  split at this
  · rename_i q
    rw [if_pos q] at hk ⊢
    have := (List.mem_filter.1 this).2
    simpa using this
  · simp at this
theorem count_step {l : List Al} {k : Nat} (h : k < l.length) (p : Al → Bool) : (l.take (k + 1)).countP p = (l.take k).countP p + (if p (at' l k) = true then 1 else 0) := by
  rw [List.take_succ_eq_append_getElem h, List.countP_append, at_lt h]
  cases q : p l[k] <;> simp [List.countP_cons, q]
/-- Who rings by now: the first k, and all others stay. -/
theorem ring_all {l : List Al} {now : Int} (hok : alarmsB l = true) (hpl : Num.plB now = true) : ∃ k, k ≤ l.length ∧ ringL l now = l.drop k ∧ ringW l now = (l.take k).map (·.2) ∧ (∀ i, i < k → (at' l i).1 ≤ now) ∧ (∀ i, k ≤ i → i < l.length → now < (at' l i).1) := by
  obtain ⟨k, h1, h2, h3⟩ := cut_at now l
  have hs := ring_split (ok_rise hok) h2 h3 h1
  refine ⟨k, h1, ?_, ?_, h2, fun i hi hil => ?_⟩
  · unfold ringL; rw [if_pos ⟨hok, hpl⟩]; exact hs.2
  · unfold ringW; rw [if_pos ⟨hok, hpl⟩, hs.1]
  · by_cases e : i = k
    · rw [e]; exact h3 (by omega)
    · have := rise_at (ok_rise hok) (i := k) (j := i) (by omega) hil
      have h4 := h3 (by omega)
      simp [ltB] at this
      omega
theorem at_dropk (l : List Al) (k i : Nat) (h : k ≤ i) : at' (l.drop k) (i - k) = at' l i := by
  unfold at'
  rw [List.getD_eq_getElem?_getD, List.getD_eq_getElem?_getD, List.getElem?_drop]
  congr 2
  omega
theorem who_at (l : List Al) (k i : Nat) (h : i < k) (hk : k ≤ l.length) : ((l.take k).map (·.2)).getD i 0 = (at' l i).2 := by
  rw [at_lt (by omega), List.getD_eq_getElem?_getD, List.getElem?_map, List.getElem?_take_of_lt h, List.getElem?_eq_getElem (by omega)]
  rfl

end Go.Proofs.Ytdipdenekhffcaa.Alm
