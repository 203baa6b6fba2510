/- What the program reckons of spans (how many end by a place, how many have begun, what is joined) against the specification's: plain mathematics, no condition. -/
import Derived.Test.YtjlebhohhhkmfaaHoleF
namespace Go.Proofs.Ytjlebhohhhkmfaa.Hole
set_option linter.unusedVariables false

def cnt (f : Sp → Bool) : List Sp → Nat
  | [] => 0
  | x :: l => if f x = true then cnt f l + 1 else 0
theorem cnt_le (f : Sp → Bool) : ∀ l : List Sp, cnt f l ≤ l.length
  | [] => Nat.le_refl _
  | x :: l => by
    have := cnt_le f l
    simp only [cnt, List.length_cons]
    split <;> omega
theorem cnt_is {f : Sp → Bool} : ∀ {l : List Sp} {k : Nat}, k ≤ l.length → (∀ j, j < k → f (l.getD j (0, 0)) = true) → (k < l.length → f (l.getD k (0, 0)) = false) → cnt f l = k
  | [], k, h, _, _ => by simp at h; simp [cnt, h]
  | x :: l, 0, _, _, h => by
    have h0 : f x = false := by simpa using h (by simp)
    simp [cnt, h0]
  | x :: l, k + 1, h, ha, hb => by
    have h0 : f x = true := by simpa using ha 0 (by omega)
    have h1 := cnt_is (f := f) (l := l) (k := k) (by simpa using h) (fun j hj => by simpa using ha (j + 1) (by omega)) (fun hk => by simpa using hb (by simpa using hk))
    simp [cnt, h0, h1]
def endB (p : Int) (x : Sp) : Bool := decide (x.2 ≤ p)
def begB (p : Int) (x : Sp) : Bool := decide (x.1 ≤ p)
def joinS (s x : Sp) : Sp := ((if s.1 < x.1 then s.1 else x.1), (if x.2 < s.2 then s.2 else x.2))
theorem cnt_yes {f : Sp → Bool} {x : Sp} {l : List Sp} (h : f x = true) : cnt f (x :: l) = cnt f l + 1 := by simp [cnt, h]
theorem cnt_no {f : Sp → Bool} {x : Sp} {l : List Sp} (h : ¬ f x = true) : cnt f (x :: l) = 0 := by simp [cnt, h]
theorem cnt_beg {lo t M : Int} {l : List Sp} (h : ok lo l) (hM : M = if lo < t then t else lo) : cnt (begB M) l = cnt (begB t) l := by
  by_cases c : lo < t
  · rw [hM, if_pos c]
  · rw [hM, if_neg c]
    cases l with
    | nil => rfl
    | cons x l =>
      have hx := h.1.1
      rw [cnt_no (by simp [begB]; omega), cnt_no (by simp [begB]; omega)]
theorem add_mid : ∀ {l : List Sp} {s : Sp} {lo : Int}, ok lo l → s.1 ≤ lo → addR l s = (l.take (cnt (begB s.2) l)).foldl joinS s :: l.drop (cnt (begB s.2) l)
  | [], s, lo, _, _ => by simp [addR, cnt]
  | x :: l, s, lo, ⟨⟨h1, h2⟩, h3⟩, hs => by
    have hx := (sp_t h2).1
    have c1 : ¬ x.2 < s.1 := by omega
    by_cases c2 : s.2 < x.1
    · rw [addR, if_neg c1, if_pos c2, cnt_no (by simp [begB]; omega)]
      simp
    · have e : joinS s x = (s.1, (if x.2 < s.2 then s.2 else x.2)) := by unfold joinS; rw [if_pos (by omega)]
      rw [addR, if_neg c1, if_neg c2, cnt_yes (by simp [begB]; omega), List.take_succ_cons, List.drop_succ_cons, List.foldl_cons, ← cnt_beg h3 rfl]
      show addR l (joinS s x) = _
      rw [e]
      exact add_mid (s := (s.1, (if x.2 < s.2 then s.2 else x.2))) h3 (by show s.1 ≤ x.2; omega)
theorem cnt_both : ∀ {l : List Sp} {s : Sp} {lo : Int}, ok lo l → s.1 < s.2 → cnt (endB (s.1 - 1)) l ≤ cnt (begB s.2) l
  | [], s, lo, _, _ => Nat.le_refl _
  | x :: l, s, lo, ⟨⟨h1, h2⟩, h3⟩, hs => by
    have hx := (sp_t h2).1
    by_cases c1 : x.2 < s.1
    · rw [cnt_yes (by simp [endB]; omega), cnt_yes (by simp [begB]; omega)]
      exact Nat.succ_le_succ (cnt_both h3 hs)
    · rw [cnt_no (by simp [endB]; omega)]
      exact Nat.zero_le _
theorem add_take : ∀ {l : List Sp} {s : Sp} {lo : Int}, ok lo l → s.1 < s.2 → addR l s = l.take (cnt (endB (s.1 - 1)) l) ++ [((l.drop (cnt (endB (s.1 - 1)) l)).take (cnt (begB s.2) l - cnt (endB (s.1 - 1)) l)).foldl joinS s] ++ l.drop (cnt (begB s.2) l)
  | [], s, lo, _, _ => by simp [addR, cnt]
  | x :: l, s, lo, ⟨⟨h1, h2⟩, h3⟩, hs => by
    have hx := (sp_t h2).1
    by_cases c1 : x.2 < s.1
    · rw [addR, if_pos c1, cnt_yes (by simp [endB]; omega), cnt_yes (by simp [begB]; omega), add_take h3 hs]
      simp
    · by_cases c2 : s.2 < x.1
      · rw [addR, if_neg c1, if_pos c2, cnt_no (by simp [endB]; omega), cnt_no (by simp [begB]; omega)]
        simp
      · rw [addR, if_neg c1, if_neg c2, cnt_no (by simp [endB]; omega), cnt_yes (by simp [begB]; omega)]
        have := add_mid (s := joinS s x) h3 (by show (if s.1 < x.1 then s.1 else x.1) ≤ x.2; split <;> omega)
        have e2 : cnt (begB (joinS s x).2) l = cnt (begB s.2) l := cnt_beg h3 rfl
        rw [e2] at this
        show addR l (joinS s x) = _
        rw [this]
        simp

def setHd (p : Int) : List Sp → List Sp
  | [] => []
  | x :: l => ((if p < x.1 then x.1 else p), x.2) :: l
theorem cut_same {p : Int} : ∀ {l : List Sp} {lo : Int}, ok lo l → p ≤ lo → cutR p l = l
  | [], lo, _, _ => rfl
  | x :: l, lo, ⟨⟨h1, h2⟩, h3⟩, hp => by
    have hx := (sp_t h2).1
    have e : (if p < x.1 then x.1 else p) = x.1 := if_pos (by omega)
    rw [cutR, e, if_pos (by omega), cut_same h3 (by omega)]
theorem cut_drop {p : Int} : ∀ {l : List Sp} {lo : Int}, ok lo l → cutR p l = setHd p (l.drop (cnt (endB p) l))
  | [], lo, _ => rfl
  | x :: l, lo, ⟨⟨h1, h2⟩, h3⟩ => by
    have hx := (sp_t h2).1
    by_cases c : x.2 ≤ p
    · have e : (if p < x.1 then x.1 else p) = p := if_neg (by omega)
      rw [cutR, e, if_neg (by omega), cnt_yes (by simp [endB]; omega), cut_drop h3]
      simp
    · rw [cutR, if_pos (by split <;> omega), cnt_no (by simp [endB]; omega), cut_same h3 (by omega)]
      simp [setHd]

def hd (p : Int) : List Sp → Int
  | [] => p
  | x :: _ => if x.1 ≤ p then x.2 else p
theorem hole_drop {p : Int} : ∀ {l : List Sp} {lo : Int}, ok lo l → l.foldl stepH p = hd p (l.drop (cnt (endB p) l))
  | [], lo, _ => rfl
  | x :: l, lo, ⟨⟨h1, h2⟩, h3⟩ => by
    have hx := (sp_t h2).1
    by_cases c : x.2 ≤ p
    · have e : stepH p x = p := by unfold stepH; rw [if_neg (by omega)]
      rw [List.foldl_cons, e, cnt_yes (by simp [endB]; omega), hole_drop h3]
      simp
    · rw [List.foldl_cons, cnt_no (by simp [endB]; omega)]
      by_cases c2 : x.1 ≤ p
      · have e : stepH p x = x.2 := by unfold stepH; rw [if_pos (by omega)]
        rw [e, hole_low h3 (Int.le_refl _)]
        simp [hd, c2]
      · have e : stepH p x = p := by unfold stepH; rw [if_neg (by omega)]
        rw [e, hole_low h3 (by omega)]
        simp [hd, c2]
theorem any_low {s : Sp} : ∀ {l : List Sp} {lo : Int}, ok lo l → s.1 ≤ lo → l.any (coverB s) = false
  | [], lo, _, _ => rfl
  | x :: l, lo, ⟨⟨h1, h2⟩, h3⟩, hs => by
    have hx := (sp_t h2).1
    have e : coverB s x = false := by unfold coverB; rw [decide_eq_false (by omega)]; rfl
    rw [List.any_cons, e, any_low h3 (by omega)]
    rfl
theorem any_hole {s : Sp} : ∀ {l : List Sp} {lo : Int}, ok lo l → s.1 < s.2 → l.any (coverB s) = decide (s.2 ≤ l.foldl stepH s.1)
  | [], lo, _, hs => by
    rw [List.any_nil, List.foldl_nil, decide_eq_false (by omega)]
  | x :: l, lo, ⟨⟨h1, h2⟩, h3⟩, hs => by
    have hx := (sp_t h2).1
    rw [List.any_cons, List.foldl_cons]
    by_cases c : x.2 ≤ s.1
    · have e : stepH s.1 x = s.1 := by unfold stepH; rw [if_neg (by omega)]
      have e2 : coverB s x = false := by unfold coverB; rw [decide_eq_false (p := s.2 ≤ x.2) (by omega)]; simp
      rw [e, e2, any_hole h3 hs]
      rfl
    · rw [any_low h3 (by omega), Bool.or_false]
      by_cases c2 : x.1 ≤ s.1
      · have e : stepH s.1 x = x.2 := by unfold stepH; rw [if_pos (by omega)]
        rw [e, hole_low h3 (Int.le_refl _)]
        unfold coverB
        rw [decide_eq_true c2, Bool.true_and]
      · have e : stepH s.1 x = s.1 := by unfold stepH; rw [if_neg (by omega)]
        rw [e, hole_low h3 (by omega)]
        unfold coverB
        rw [decide_eq_false c2, Bool.false_and, decide_eq_false (by omega)]
theorem has_hole (l : List Sp) (s : Sp) : hasB l s = (spB s && decide (s.2 ≤ holeOf l s.1)) := by
  unfold hasB
  cases h1 : spansB l
  · cases h2 : spB s
    · rfl
    · have hs := sp_t h2
      simp only [holeOf, h1, Bool.false_and, Bool.true_and]
      rw [if_neg (by simp), decide_eq_false (by omega)]
  · cases h2 : spB s
    · rfl
    · have hs := sp_t h2
      rw [Bool.true_and, any_hole (spans_ok.1 h1).1 hs.1.2]
      simp only [holeOf, h1, hs.2.1, and_self, if_true]

end Go.Proofs.Ytjlebhohhhkmfaa.Hole
