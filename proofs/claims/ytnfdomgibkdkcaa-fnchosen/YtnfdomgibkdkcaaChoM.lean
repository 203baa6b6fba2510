/- Plain mathematics of FnChosen (chapter 11): who is chosen is open, where one is, none that is open is cheaper or safer, and the next one is the next; no condition. -/
import Derived.Test.YtnfdomgibkdkcaaChoB
namespace Go.Proofs.Ytnfdomgibkdkcaa.Roa
open Go.RowKit RowG
set_option linter.unusedVariables false
set_option linter.unusedSimpArgs false

theorem best_mem1 (less : Rd → Rd → Bool) (l : List Rd) {k : Nat} (h : k + 1 ≤ (openL l).length) : bestN less l (k + 1) ∈ openL l := by
  rw [best_step less (by omega)]
  unfold stepI
  split
  · exact getD_mem (by omega)
  · rename_i hn
    rcases best_form less l k (by omega) with e | e
    · rw [e] at hn; simp at hn
    · exact e
theorem best_mem (less : Rd → Rd → Bool) {l : List Rd} (h : openL l ≠ []) : best less l ∈ openL l := by
  have h1 : 0 < (openL l).length := List.length_pos_iff.2 h
  have := best_mem1 less l (k := (openL l).length - 1) (by omega)
  rwa [show (openL l).length - 1 + 1 = (openL l).length by omega] at this
theorem best_empty (less : Rd → Rd → Bool) {l : List Rd} (h : openL l = []) : best less l = -1 := by
  simp [best, bestN, h]
theorem afterL_mem {x : Int} {o : List Int} (h : o ≠ []) : afterL x o ∈ o := by
  unfold afterL
  cases q : o.find? (fun r => decide (x < r)) with
  | none =>
    cases o with
    | nil => exact absurd rfl h
    | cons a t => simp
  | some n => exact List.mem_of_find?_eq_some q
theorem chosen_empty {l : List Rd} (h : openL l = []) (y z : Int) : chosenI l y z = -1 := by
  simp [chosenI, best_empty _ h, afterI, h]
theorem chosen_mem {l : List Rd} (h : openL l ≠ []) (y z : Int) : chosenI l y z = -1 ∨ chosenI l y z ∈ openL l := by
  unfold chosenI
  split
  · exact .inr (best_mem _ h)
  split
  · unfold afterI
    split
    · exact .inr (afterL_mem h)
    · exact .inl rfl
  split
  · exact .inr (best_mem _ h)
  · exact .inl rfl
theorem bestN_least (less : Rd → Rd → Bool) (l : List Rd) (irr : ∀ i, i < l.length → less (at' l i) (at' l i) = false)
    (tr : ∀ i j k, i < l.length → j < l.length → k < l.length → less (at' l i) (at' l j) = true → less (at' l j) (at' l k) = true → less (at' l i) (at' l k) = true) :
    ∀ k, k ≤ (openL l).length → ∀ i, i < k → less (at' l ((openL l).getD i 0).toNat) (at' l (bestN less l k).toNat) = false
  | 0, _, i, hi => absurd hi (by omega)
  | k + 1, h, i, hi => by
    have ih := bestN_least less l irr tr k (by omega)
    obtain ⟨_, jk, hjk, ek, _⟩ := open_at (l := l) (k := k) (by omega)
    obtain ⟨_, ji, hji, ei, _⟩ := open_at (l := l) (k := i) (by omega)
    rcases best_nat less (l := l) (k := k) (by omega) with e | ⟨jb, hjb, e⟩
    · have hk0 : k = 0 := by
        rcases Nat.eq_zero_or_pos k with q | q
        · exact q
        · have := best_mem1 less l (k := k - 1) (by omega)
          rw [show k - 1 + 1 = k by omega, e] at this
          obtain ⟨_, j, _, q, _⟩ := open_mem this
          omega
      rw [best_none less (by omega) e]
      have : i = k := by omega
      rw [this, ek]
      exact irr jk hjk
    · rw [best_some less (by omega) e ek, ei]
      by_cases hl : less (at' l jk) (at' l jb) = true
      · rw [if_pos hl]
        by_cases hik : i = k
        · rw [hik, ek] at ei
          have : ji = jk := by omega
          rw [this]
          exact irr jk hjk
        · have := ih i (by omega)
          rw [ei, e] at this
          cases q : less (at' l ji) (at' l jk)
          · exact q
          · have h1 := tr ji jk jb hji hjk hjb q hl
            rw [show ((ji : Int)).toNat = ji by omega, show ((jb : Int)).toNat = jb by omega, h1] at this
            cases this
      · rw [if_neg hl]
        by_cases hik : i = k
        · rw [hik, ek] at ei
          have : ji = jk := by omega
          rw [this]
          exact eq_false_of_ne_true hl
        · have := ih i (by omega)
          rw [ei, e] at this
          exact this
theorem ch_least {l : List Rd} {i : Nat} (h : i < (openL l).length) : chB (at' l ((openL l).getD i 0).toNat) (at' l (best chB l).toNat) = false :=
  bestN_least chB l (fun i _ => by simp [chB]) (fun i j k _ _ _ h1 h2 => by simp only [chB, decide_eq_true_eq] at *; omega) _ (Nat.le_refl _) i h
theorem sa_trans {a b c : Rd} (ha : rdB a = true) (hb : rdB b = true) (hc : rdB c = true) (h1 : saB a b = true) (h2 : saB b c = true) : saB a c = true := by
  obtain ⟨a1, a2, a3, a4⟩ := m1_small ha
  obtain ⟨b1, b2, b3, b4⟩ := m1_small hb
  obtain ⟨c1, c2, c3, c4⟩ := m1_small hc
  simp only [saB, decide_eq_true_eq] at *
  have q1 := Int.mul_lt_mul_of_pos_right h1 (show 0 < m1 c.se by omega)
  have q2 := Int.mul_lt_mul_of_pos_right h2 (show 0 < m1 a.se by omega)
  have e1 : a.lo * m1 b.se * m1 c.se = a.lo * m1 c.se * m1 b.se := by rw [Int.mul_assoc, Int.mul_comm (m1 b.se), ← Int.mul_assoc]
  have e2 : b.lo * m1 a.se * m1 c.se = b.lo * m1 c.se * m1 a.se := by rw [Int.mul_assoc, Int.mul_comm (m1 a.se), ← Int.mul_assoc]
  have e3 : c.lo * m1 b.se * m1 a.se = c.lo * m1 a.se * m1 b.se := by rw [Int.mul_assoc, Int.mul_comm (m1 b.se), ← Int.mul_assoc]
  rw [e1, e2] at q1
  rw [e3] at q2
  exact Int.lt_of_mul_lt_mul_right (Int.lt_trans q1 q2) (by omega)
theorem sa_least {l : List Rd} (hr : roadsB l = true) {i : Nat} (h : i < (openL l).length) : saB (at' l ((openL l).getD i 0).toNat) (at' l (best saB l).toNat) = false :=
  bestN_least saB l (fun i _ => by simp [saB]) (fun i j k hi hj hk h1 h2 => sa_trans (rd_of hr hi) (rd_of hr hj) (rd_of hr hk) h1 h2) _ (Nat.le_refl _) i h
theorem after_next {o : List Int} {c : Int} (hs : o.Pairwise (· < ·)) (hc : c ∈ o) : (∀ i, c < i → i < afterL c o → i ∉ o) ∧ (afterL c o ≠ c ∨ o.length = 1) := by
  unfold afterL
  cases q : o.find? (fun r => decide (c < r)) with
  | none =>
    rw [List.find?_eq_none] at q
    refine ⟨fun i hi _ hm => q i hm (decide_eq_true hi), ?_⟩
    cases o with
    | nil => cases hc
    | cons a t =>
      simp only [Option.getD_none, List.getD_cons_zero]
      by_cases e : a = c
      · right
        cases t with
        | nil => rfl
        | cons b t =>
          have hb : a < b := (List.pairwise_cons.1 hs).1 b (by simp)
          exact absurd (decide_eq_true (show c < b by omega)) (q b (by simp))
      · exact .inl e
  | some n =>
    obtain ⟨hn, us, bs, rfl, has⟩ := List.find?_eq_some_iff_append.1 q
    simp only [Option.getD_some]
    have hcn : c < n := of_decide_eq_true hn
    refine ⟨fun i hi hin hm => ?_, .inl (by omega)⟩
    rcases List.mem_append.1 hm with e | e
    · have := has i e
      simp only [Bool.not_eq_eq_eq_not, Bool.not_true, decide_eq_false_iff_not] at this
      exact this hi
    · rcases List.mem_cons.1 e with e | e
      · omega
      · have := (List.pairwise_cons.1 (List.pairwise_append.1 hs).2.1).1 i e
        omega
theorem after_range {l : List Rd} {c : Int} (h : c ∈ openL l) : afterI l c = afterL c (openL l) := by
  obtain ⟨_, j, hj, e, _⟩ := open_mem h
  exact if_pos ⟨by omega, fun q => by rw [q] at h; cases h⟩

theorem pick_facts {x s : Rd} {cc : Rd} (hx : rdB x = true) (hs : rdB s = true) (h1 : chB x cc = false) (h2 : saB x s = false) :
    (¬ x.co < cc.co) ∧ (0 < x.se → 0 < s.se → decide (wrap64 (x.lo * s.se) < wrap64 (s.lo * x.se)) = false) := by
  refine ⟨of_decide_eq_false h1, fun q1 q2 => ?_⟩
  obtain ⟨a1, a2, a3, a4⟩ := m1_small hx
  obtain ⟨b1, b2, b3, b4⟩ := m1_small hs
  unfold saB at h2
  have e1 : m1 x.se = x.se := if_neg (by omega)
  have e2 : m1 s.se = s.se := if_neg (by omega)
  rw [e1] at a1 a2 h2
  rw [e2] at b1 b2 h2
  rw [wrapMul (prod_small a3 a4 b1 b2), wrapMul (prod_small b3 b4 a1 a2)]
  exact h2

end Go.Proofs.Ytnfdomgibkdkcaa.Roa
