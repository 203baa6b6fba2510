/- What is added, cut and the first hole of a list of spans: plain mathematics for FnSpans and FnHoles, no condition. -/
import Derived.Test.YtjlebhohhhkmfaaHoleE
namespace Go.Proofs.Ytjlebhohhhkmfaa.Hole
set_option linter.unusedVariables false

/-- Spans that rise behind lo, with a hole between each two. -/
def ok (lo : Int) : List Sp → Prop
  | [] => True
  | x :: l => (lo < x.1 ∧ spB x = true) ∧ ok x.2 l
theorem ok_weak {a b : Int} (h : a ≤ b) : ∀ {l : List Sp}, ok b l → ok a l
  | [], _ => trivial
  | x :: l, ⟨⟨h1, h2⟩, h3⟩ => ⟨⟨by omega, h2⟩, h3⟩
theorem sp_t {s : Sp} (h : spB s = true) : (0 ≤ s.1 ∧ s.1 < s.2) ∧ Num.plB s.1 = true ∧ Num.plB s.2 = true := by
  simp only [spB, Bool.and_eq_true, decide_eq_true_eq] at h
  exact ⟨⟨(Num.pl_t h.1).1, h.2.2⟩, h.1, h.2.1⟩
theorem good_cons {x : Sp} {l : List Sp} {k : Nat} : good (x :: l) (k + 1) ↔ spB (l.getD k (0, 0)) = true ∧ ((x :: l).getD k (0, 0)).2 < (l.getD k (0, 0)).1 := by
  simp [good]
theorem ok_good : ∀ {l : List Sp} {lo : Int}, ok lo l → allGood l
  | [], _, _ => fun k hk => by simp at hk
  | x :: l, lo, ⟨⟨h1, h2⟩, h3⟩ => fun k hk => by
    cases k with
    | zero => exact ⟨by simpa using h2, .inl rfl⟩
    | succ k =>
      have ih := ok_good h3 k (by simpa using hk)
      refine good_cons.2 ⟨ih.1, ?_⟩
      cases k with
      | zero =>
        cases l with
        | nil => simp at hk
        | cons y l => exact h3.1.1
      | succ k =>
        rcases ih.2 with e | e
        · cases e
        · simpa using e
theorem good_ok : ∀ {l : List Sp} {lo : Int}, (∀ x, l.head? = some x → lo < x.1) → allGood l → ok lo l
  | [], _, _, _ => trivial
  | x :: l, lo, h, hg => by
    refine ⟨⟨h x rfl, by simpa using (hg 0 (by simp)).1⟩, good_ok (fun y hy => ?_) fun k hk => ?_⟩
    · cases l with
      | nil => cases hy
      | cons z l =>
        cases hy
        have := good_cons.1 (hg 1 (by simp))
        simpa using this.2
    · have := good_cons.1 (hg (k + 1) (by simpa using hk))
      refine ⟨this.1, ?_⟩
      cases k with
      | zero => exact .inl rfl
      | succ k => exact .inr (by simpa using this.2)
theorem spans_ok {l : List Sp} : spansB l = true ↔ ok (-1) l ∧ l.length ≤ 30 := by
  simp only [spansB, Bool.and_eq_true, decide_eq_true_eq]
  refine and_congr_left fun _ => ⟨fun h => good_ok (fun x hx => ?_) h, ok_good⟩
  cases l with
  | nil => cases hx
  | cons y l =>
    cases hx
    have := (sp_t (by simpa using (h 0 (by simp)).1 : spB x = true)).1.1
    omega

/-- Is place k there? -/
def mem (k : Int) (l : List Sp) : Prop := ∃ x ∈ l, x.1 ≤ k ∧ k < x.2
theorem mem_cons {k : Int} {x : Sp} {l : List Sp} : mem k (x :: l) ↔ (x.1 ≤ k ∧ k < x.2) ∨ mem k l := by simp [mem]
theorem mem_low {k lo : Int} : ∀ {l : List Sp}, ok lo l → k ≤ lo → ¬ mem k l
  | [], _, _ => by simp [mem]
  | x :: l, ⟨⟨h1, h2⟩, h3⟩, hk => by
    have := (sp_t h2).1
    rw [mem_cons]
    rintro (h | h)
    · omega
    · exact mem_low h3 (by omega) h
theorem has_one {l : List Sp} {k : Int} (hl : spansB l = true) (hk : spB (k, k + 1) = true) : hasB l (k, k + 1) = true ↔ mem k l := by
  simp only [hasB, hl, hk, Bool.true_and, List.any_eq_true, coverB, Bool.and_eq_true, decide_eq_true_eq, mem]
  refine exists_congr fun x => and_congr_right fun _ => ?_
  omega

def addR : List Sp → Sp → List Sp
  | [], s => [s]
  | x :: l, s => if x.2 < s.1 then x :: addR l s else if s.2 < x.1 then s :: x :: l else addR l ((if s.1 < x.1 then s.1 else x.1), (if x.2 < s.2 then s.2 else x.2))
theorem add_put : ∀ {l : List Sp} {out : List Sp} {s : Sp} {lo : Int}, ok lo l → s.2 ≤ lo → s.1 < s.2 → (l.foldl addStep (out, true, s)) = (out ++ l, true, s)
  | [], out, s, lo, _, _, _ => by simp
  | x :: l, out, s, lo, ⟨⟨h1, h2⟩, h3⟩, hs, hss => by
    have hx := (sp_t h2).1
    rw [List.foldl_cons]
    have e : addStep (out, true, s) x = (out ++ [x], true, s) := by
      unfold addStep
      rw [if_neg (by show ¬ x.2 < s.1; omega), if_pos (by show s.2 < x.1; omega)]
      simp
    rw [e, add_put h3 (by omega) hss]
    simp
theorem add_eq : ∀ {l : List Sp} {out : List Sp} {s : Sp} {lo : Int}, ok lo l → s.1 < s.2 → (if (l.foldl addStep (out, false, s)).2.1 then (l.foldl addStep (out, false, s)).1 else (l.foldl addStep (out, false, s)).1 ++ [(l.foldl addStep (out, false, s)).2.2]) = out ++ addR l s
  | [], out, s, lo, _, _ => by simp [addR]
  | x :: l, out, s, lo, ⟨⟨h1, h2⟩, h3⟩, hs => by
    have hx := (sp_t h2).1
    rw [List.foldl_cons, addR]
    by_cases c1 : x.2 < s.1
    · have e : addStep (out, false, s) x = (out ++ [x], false, s) := by unfold addStep; rw [if_pos c1]
      rw [e, add_eq h3 hs, if_pos c1]
      simp
    · by_cases c2 : s.2 < x.1
      · have e : addStep (out, false, s) x = (out ++ [s] ++ [x], true, s) := by unfold addStep; rw [if_neg c1, if_pos c2]; simp
        rw [e, add_put h3 (by omega) hs, if_neg c1, if_pos c2]
        simp
      · have e : addStep (out, false, s) x = (out, false, ((if s.1 < x.1 then s.1 else x.1), (if x.2 < s.2 then s.2 else x.2))) := by unfold addStep; rw [if_neg c1, if_neg c2]
        rw [e, add_eq h3 (by show (if s.1 < x.1 then s.1 else x.1) < (if x.2 < s.2 then s.2 else x.2); split <;> split <;> omega), if_neg c1, if_neg c2]
theorem add_all {l : List Sp} {s : Sp} (h : ok (-1) l) (hs : s.1 < s.2) : addL l s = addR l s := by
  have := add_eq (out := []) h hs
  rw [List.nil_append] at this
  exact this
theorem sp_mk {s : Sp} (h : s.1 < s.2) (h1 : Num.plB s.1 = true) (h2 : Num.plB s.2 = true) : spB s = true := by simp [spB, h1, h2, h]
theorem add_ok : ∀ {l : List Sp} {s : Sp} {lo : Int}, ok lo l → lo < s.1 → spB s = true → ok lo (addR l s)
  | [], s, lo, _, h1, h2 => ⟨⟨h1, h2⟩, trivial⟩
  | x :: l, s, lo, ⟨⟨h1, h2⟩, h3⟩, hlo, hs => by
    have hx := sp_t h2
    have hs' := sp_t hs
    rw [addR]
    by_cases c1 : x.2 < s.1
    · rw [if_pos c1]
      exact ⟨⟨h1, h2⟩, add_ok h3 c1 hs⟩
    · rw [if_neg c1]
      by_cases c2 : s.2 < x.1
      · rw [if_pos c2]
        exact ⟨⟨hlo, hs⟩, ⟨⟨c2, h2⟩, h3⟩⟩
      · rw [if_neg c2]
        refine add_ok (ok_weak (by omega) h3) (by show lo < (if s.1 < x.1 then s.1 else x.1); split <;> omega) (sp_mk ?_ ?_ ?_)
        · show (if s.1 < x.1 then s.1 else x.1) < (if x.2 < s.2 then s.2 else x.2)
          split <;> split <;> omega
        · show Num.plB (if s.1 < x.1 then s.1 else x.1) = true
          split
          · exact hs'.2.1
          · exact hx.2.1
        · show Num.plB (if x.2 < s.2 then s.2 else x.2) = true
          split
          · exact hs'.2.2
          · exact hx.2.2
theorem add_mem (k : Int) : ∀ {l : List Sp} {s : Sp} {lo : Int}, ok lo l → s.1 < s.2 → (mem k (addR l s) ↔ mem k l ∨ (s.1 ≤ k ∧ k < s.2))
  | [], s, lo, _, _ => by simp [addR, mem]
  | x :: l, s, lo, ⟨⟨h1, h2⟩, h3⟩, hs => by
    have hx := (sp_t h2).1
    rw [addR]
    by_cases c1 : x.2 < s.1
    · rw [if_pos c1, mem_cons, mem_cons, add_mem k h3 hs]
      exact or_assoc.symm
    · rw [if_neg c1]
      by_cases c2 : s.2 < x.1
      · rw [if_pos c2, mem_cons]
        exact or_comm
      · rw [if_neg c2, mem_cons, add_mem k h3 (by show (if s.1 < x.1 then s.1 else x.1) < (if x.2 < s.2 then s.2 else x.2); split <;> split <;> omega)]
        show mem k l ∨ ((if s.1 < x.1 then s.1 else x.1) ≤ k ∧ k < (if x.2 < s.2 then s.2 else x.2)) ↔ _
        have : ((if s.1 < x.1 then s.1 else x.1) ≤ k ∧ k < (if x.2 < s.2 then s.2 else x.2)) ↔ ((x.1 ≤ k ∧ k < x.2) ∨ (s.1 ≤ k ∧ k < s.2)) := by
          split <;> split <;> omega
        rw [this]
        constructor
        · rintro (h | h | h)
          · exact .inl (.inr h)
          · exact .inl (.inl h)
          · exact .inr h
        · rintro ((h | h) | h)
          · exact .inr (.inl h)
          · exact .inl h
          · exact .inr (.inr h)
theorem add_has : ∀ {l : List Sp} {s : Sp} {lo : Int}, ok lo l → s.1 < s.2 → ∃ y ∈ addR l s, y.1 ≤ s.1 ∧ s.2 ≤ y.2
  | [], s, lo, _, _ => ⟨s, by simp [addR], by omega, by omega⟩
  | x :: l, s, lo, ⟨⟨h1, h2⟩, h3⟩, hs => by
    have hx := (sp_t h2).1
    rw [addR]
    by_cases c1 : x.2 < s.1
    · rw [if_pos c1]
      obtain ⟨y, hy, h⟩ := add_has h3 hs
      exact ⟨y, List.mem_cons_of_mem _ hy, h⟩
    · rw [if_neg c1]
      by_cases c2 : s.2 < x.1
      · rw [if_pos c2]
        exact ⟨s, by simp, by omega, by omega⟩
      · rw [if_neg c2]
        obtain ⟨y, hy, h⟩ := add_has (s := ((if s.1 < x.1 then s.1 else x.1), (if x.2 < s.2 then s.2 else x.2))) h3 (by show (if s.1 < x.1 then s.1 else x.1) < (if x.2 < s.2 then s.2 else x.2); split <;> split <;> omega)
        refine ⟨y, hy, ?_⟩
        have h1 : y.1 ≤ (if s.1 < x.1 then s.1 else x.1) := h.1
        have h2 : (if x.2 < s.2 then s.2 else x.2) ≤ y.2 := h.2
        split at h1 <;> split at h2 <;> omega

def cutR (p : Int) : List Sp → List Sp
  | [] => []
  | x :: l => if (if p < x.1 then x.1 else p) < x.2 then ((if p < x.1 then x.1 else p), x.2) :: cutR p l else cutR p l
theorem cut_eq (p : Int) : ∀ (l out : List Sp), l.foldl (cutStep p) out = out ++ cutR p l
  | [], out => by simp [cutR]
  | x :: l, out => by
    rw [List.foldl_cons, cut_eq p l, cutStep, cutR]
    generalize (if p < x.1 then x.1 else p) = m
    by_cases h : m < x.2
    · rw [if_pos h, if_pos h]; simp
    · rw [if_neg h, if_neg h]
theorem cut_ok {p : Int} (hp : Num.plB p = true) : ∀ {l : List Sp} {lo : Int}, ok lo l → ok lo (cutR p l)
  | [], _, _ => trivial
  | x :: l, lo, ⟨⟨h1, h2⟩, h3⟩ => by
    have hx := sp_t h2
    rw [cutR]
    by_cases c : (if p < x.1 then x.1 else p) < x.2
    · rw [if_pos c]
      refine ⟨⟨?_, sp_mk c ?_ hx.2.2⟩, cut_ok hp h3⟩
      · show lo < (if p < x.1 then x.1 else p)
        split <;> omega
      · show Num.plB (if p < x.1 then x.1 else p) = true
        split
        · exact hx.2.1
        · exact hp
    · rw [if_neg c]
      exact cut_ok hp (ok_weak (by omega) h3)
theorem cut_mem (p k : Int) : ∀ (l : List Sp), mem k (cutR p l) ↔ mem k l ∧ p ≤ k
  | [] => by simp [cutR, mem]
  | x :: l => by
    rw [cutR, mem_cons]
    by_cases c : (if p < x.1 then x.1 else p) < x.2
    · rw [if_pos c, mem_cons, cut_mem p k l]
      show ((if p < x.1 then x.1 else p) ≤ k ∧ k < x.2) ∨ _ ↔ _
      have : ((if p < x.1 then x.1 else p) ≤ k ∧ k < x.2) ↔ (x.1 ≤ k ∧ k < x.2) ∧ p ≤ k := by split <;> omega
      rw [this]
      constructor
      · rintro (h | h)
        · exact ⟨.inl h.1, h.2⟩
        · exact ⟨.inr h.1, h.2⟩
      · rintro ⟨h | h, h'⟩
        · exact .inl ⟨h, h'⟩
        · exact .inr ⟨h, h'⟩
    · rw [if_neg c, cut_mem p k l]
      constructor
      · rintro ⟨h, h'⟩
        exact ⟨.inr h, h'⟩
      · rintro ⟨h | h, h'⟩
        · exfalso
          apply c
          split <;> omega
        · exact ⟨h, h'⟩
theorem cutR_len (p : Int) : ∀ (l : List Sp), (cutR p l).length ≤ l.length
  | [] => by simp [cutR]
  | x :: l => by
    have := cutR_len p l
    rw [cutR]
    generalize (if p < x.1 then x.1 else p) = m
    split
    · simp
      omega
    · simp
      omega

theorem hole_low {lo p : Int} : ∀ {l : List Sp}, ok lo l → p ≤ lo → l.foldl stepH p = p
  | [], _, _ => rfl
  | x :: l, ⟨⟨h1, h2⟩, h3⟩, hp => by
    have hx := (sp_t h2).1
    have e : stepH p x = p := by unfold stepH; rw [if_neg (by omega)]
    rw [List.foldl_cons, e]
    exact hole_low h3 (by omega)
theorem hole_all : ∀ {l : List Sp} {lo p : Int}, ok lo l → (¬ mem (l.foldl stepH p) l) ∧ ((l.foldl stepH p = p ∧ ¬ mem p l) ∨ (p < l.foldl stepH p ∧ Num.plB (l.foldl stepH p) = true ∧ ∃ x ∈ l, x.1 ≤ p ∧ l.foldl stepH p ≤ x.2))
  | [], _, _, _ => ⟨by simp [mem], .inl ⟨rfl, by simp [mem]⟩⟩
  | x :: l, lo, p, ⟨⟨h1, h2⟩, h3⟩ => by
    have hx := sp_t h2
    rw [List.foldl_cons]
    by_cases c : x.1 ≤ p ∧ p < x.2
    · have e : stepH p x = x.2 := by unfold stepH; rw [if_pos c]
      rw [e, hole_low h3 (Int.le_refl _)]
      refine ⟨?_, .inr ⟨c.2, hx.2.2, x, by simp, c.1, Int.le_refl _⟩⟩
      rw [mem_cons]
      rintro (h | h)
      · omega
      · exact mem_low h3 (Int.le_refl _) h
    · have e : stepH p x = p := by unfold stepH; rw [if_neg c]
      rw [e]
      obtain ⟨a1, a2⟩ := hole_all (p := p) h3
      have hge : p ≤ l.foldl stepH p := by
        rcases a2 with h | h
        · omega
        · omega
      by_cases hlt : p < x.1
      · have := hole_low h3 (p := p) (by omega)
        rw [this] at a1 ⊢
        refine ⟨?_, .inl ⟨rfl, ?_⟩⟩ <;> rw [mem_cons] <;> rintro (h | h) <;> first | omega | exact a1 h
      · refine ⟨?_, ?_⟩
        · rw [mem_cons]
          rintro (h | h)
          · omega
          · exact a1 h
        · rcases a2 with ⟨b1, b2⟩ | ⟨b1, b2, y, hy, b3⟩
          · refine .inl ⟨b1, ?_⟩
            rw [mem_cons]
            rintro (h | h)
            · exact c h
            · exact b2 h
          · exact .inr ⟨b1, b2, y, List.mem_cons_of_mem _ hy, b3⟩

theorem added_yes {l : List Sp} {s : Sp} (h : addedB l s = true) : spansB l = true ∧ spB s = true ∧ addedL l s = addR l s ∧ spansB (addR l s) = true ∧ hasB (addR l s) s = true ∧ ∀ k : Int, mem k (addR l s) ↔ mem k l ∨ (s.1 ≤ k ∧ k < s.2) := by
  simp only [addedB, Bool.and_eq_true, decide_eq_true_eq] at h
  obtain ⟨h1, h2, h3⟩ := h
  obtain ⟨o1, o2⟩ := spans_ok.1 h1
  have hs := (sp_t h2).1
  have e := add_all o1 hs.2
  have hok : spansB (addR l s) = true := spans_ok.2 ⟨add_ok o1 (by omega) h2, by rw [← e]; exact h3⟩
  refine ⟨h1, h2, ?_, hok, ?_, fun k => add_mem k o1 hs.2⟩
  · rw [addedL, if_pos h1, if_pos ⟨h2, h3⟩, e]
  · obtain ⟨y, hy, h4⟩ := add_has o1 hs.2
    simp only [hasB, hok, h2, Bool.true_and, List.any_eq_true, coverB, Bool.and_eq_true, decide_eq_true_eq]
    exact ⟨y, hy, h4⟩
theorem added_no {l : List Sp} {s : Sp} (h : addedB l s = false) : (spansB l = false ∧ addedL l s = []) ∨ (spansB l = true ∧ addedL l s = l) := by
  cases hl : spansB l
  · exact .inl ⟨rfl, by simp [addedL, hl]⟩
  · refine .inr ⟨rfl, ?_⟩
    rw [addedL, if_pos hl, if_neg]
    rintro ⟨h1, h2⟩
    simp [addedB, hl, h1, h2] at h
theorem cut_yes {l : List Sp} {p : Int} (h1 : spansB l = true) (h2 : Num.plB p = true) : cutL l p = cutR p l ∧ spansB (cutR p l) = true ∧ ∀ k : Int, mem k (cutR p l) ↔ mem k l ∧ p ≤ k := by
  obtain ⟨o1, o2⟩ := spans_ok.1 h1
  refine ⟨?_, spans_ok.2 ⟨cut_ok h2 o1, Nat.le_trans (cutR_len p l) o2⟩, fun k => cut_mem p k l⟩
  rw [cutL, if_pos ⟨h1, h2⟩, cut_eq]
  simp
theorem hole_yes {l : List Sp} {p : Int} (h : 0 ≤ holeOf l p) : spansB l = true ∧ Num.plB p = true ∧ p ≤ holeOf l p ∧ Num.plB (holeOf l p) = true ∧ ¬ mem (holeOf l p) l ∧ (p < holeOf l p → hasB l (p, holeOf l p) = true) := by
  unfold holeOf at *
  by_cases c : spansB l = true ∧ Num.plB p = true
  · rw [if_pos c] at h ⊢
    obtain ⟨o1, o2⟩ := spans_ok.1 c.1
    obtain ⟨a1, a2⟩ := hole_all (p := p) o1
    refine ⟨c.1, c.2, ?_, ?_, a1, fun hlt => ?_⟩
    · rcases a2 with h | h <;> omega
    · rcases a2 with h | h
      · rw [h.1]; exact c.2
      · exact h.2.1
    · rcases a2 with h | ⟨_, h2, x, hx, h3⟩
      · omega
      · simp only [hasB, c.1, sp_mk (s := (p, l.foldl stepH p)) hlt c.2 h2, Bool.true_and, List.any_eq_true, coverB, Bool.and_eq_true, decide_eq_true_eq]
        exact ⟨x, hx, h3⟩
  · rw [if_neg c] at h
    omega
theorem has_one_no {l : List Sp} {h : Int} (hm : ¬ mem h l) : hasB l (h, h + 1) = false := by
  cases hb : hasB l (h, h + 1)
  · rfl
  · exfalso
    simp only [hasB, Bool.and_eq_true, List.any_eq_true, coverB, decide_eq_true_eq] at hb
    obtain ⟨_, _, x, hx, h1⟩ := hb
    exact hm ⟨x, hx, by omega⟩

end Go.Proofs.Ytjlebhohhhkmfaa.Hole
