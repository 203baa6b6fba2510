/- Plain mathematics of a heap of alarms (chapter 8): the order, up and down, what is taken out; no condition. -/
import Derived.Test.YtdipdenekhffcaaAlmA
namespace Go.Proofs.Ytdipdenekhffcaa.Alm
set_option linter.unusedVariables false
set_option linter.unusedSimpArgs false

theorem lt_irr (a : Al) : ltB a a = false := by simp [ltB]
theorem lt_trans {a b c : Al} (h : ltB a b = true) (k : ltB b c = true) : ltB a c = true := by simp [ltB] at *; omega
theorem lt_asym {a b : Al} (h : ltB a b = true) : ltB b a = false := by simp [ltB] at *; omega
theorem nlt_trans {a b c : Al} (h : ltB b a = false) (k : ltB c b = false) : ltB c a = false := by simp [ltB] at *; omega
theorem nlt_antisymm {a b : Al} (h : ltB a b = false) (k : ltB b a = false) : a = b := by
  obtain ⟨x, y⟩ := a
  obtain ⟨x', y'⟩ := b
  simp [ltB] at *
  omega
theorem lt_of_ne {a b : Al} (h : ltB b a = false) (k : a ≠ b) : ltB a b = true := by
  cases q : ltB a b
  · exact absurd (nlt_antisymm q h) k
  · rfl

def at' (l : List Al) (i : Nat) : Al := l.getD i (0, 0)
/-- The first n of l are a heap. -/
def Heap (l : List Al) (n : Nat) : Prop := ∀ k, 0 < k → k < n → ltB (at' l k) (at' l ((k - 1) / 2)) = false
theorem at_lt {l : List Al} {i : Nat} (h : i < l.length) : at' l i = l[i] := by
  unfold at'; rw [List.getD_eq_getElem?_getD, List.getElem?_eq_getElem h]; rfl
theorem at_mem {l : List Al} {i : Nat} (h : i < l.length) : at' l i ∈ l := by rw [at_lt h]; exact List.getElem_mem h
theorem heap_min {l : List Al} {n : Nat} (h : Heap l n) : ∀ i, i < n → ltB (at' l i) (at' l 0) = false := by
  intro i
  induction i using Nat.strongRecOn with
  | ind i ih =>
    intro hi
    by_cases h0 : i = 0
    · subst h0; exact lt_irr _
    · exact nlt_trans (ih ((i - 1) / 2) (by omega) (by omega)) (h i (by omega) hi)

/-- Two change places. -/
def sw (l : List Al) (i j : Nat) : List Al := (l.set i (at' l j)).set j (at' l i)
theorem sw_len (l : List Al) (i j : Nat) : (sw l i j).length = l.length := by simp [sw]
theorem sw_at {l : List Al} {i j : Nat} (hi : i < l.length) (hj : j < l.length) (k : Nat) : at' (sw l i j) k = if k = j then at' l i else if k = i then at' l j else at' l k := by
  unfold sw
  conv => lhs; unfold at'
  rw [List.getD_eq_getElem?_getD, List.getElem?_set]
  by_cases h1 : j = k
  · subst h1; simp [hj, at', List.getD_eq_getElem?_getD]
  · rw [if_neg h1, if_neg (fun e => h1 e.symm), List.getElem?_set]
    by_cases h2 : i = k
    · subst h2; simp [hi, at', List.getD_eq_getElem?_getD]
    · rw [if_neg h2, if_neg (fun e => h2 e.symm)]; unfold at'; rw [List.getD_eq_getElem?_getD]
theorem sw_perm {l : List Al} {i j : Nat} (hi : i < l.length) (hj : j < l.length) : (sw l i j).Perm l := by
  rw [List.perm_iff_count]
  intro a
  unfold sw
  rw [List.count_set (by simpa using hj), List.count_set hi, at_lt hi, at_lt hj]
  have m : ∀ k (h : k < l.length), l[k] = a → 0 < l.count a := fun k h e => List.count_pos_iff.2 (e ▸ List.getElem_mem h)
  have mi := m i hi
  have mj := m j hj
  by_cases e : i = j
  · subst e
    rw [List.getElem_set_self]
    by_cases q : l[i] = a
    · have := mi q; simp [q]; omega
    · simp [q]
  · rw [List.getElem_set_ne (by omega)]
    by_cases p : l[i] = a <;> by_cases q : l[j] = a
    · have := mi p; simp [p, q]; omega
    · have := mi p; simp [p, q]; omega
    · have := mj q; simp [p, q]
    · simp [p, q]

/-- A heap but for the one at i, which may stand too high. -/
structure Dn (l : List Al) (n i : Nat) : Prop where
  hp : ∀ k, 0 < k → k < n → (k - 1) / 2 ≠ i → ltB (at' l k) (at' l ((k - 1) / 2)) = false
  up : ∀ k, 0 < k → k < n → (k - 1) / 2 = i → 0 < i → ltB (at' l k) (at' l ((i - 1) / 2)) = false
theorem Dn.stop {l : List Al} {n i : Nat} (h : Dn l n i) (h1 : 2 * i + 1 < n → ltB (at' l (2 * i + 1)) (at' l i) = false) (h2 : 2 * i + 2 < n → ltB (at' l (2 * i + 2)) (at' l i) = false) : Heap l n := by
  intro k k0 kn
  by_cases e : (k - 1) / 2 = i
  · rw [e]
    rcases (by omega : k = 2 * i + 1 ∨ k = 2 * i + 2) with rfl | rfl
    · exact h1 kn
    · exact h2 kn
  · exact h.hp k k0 kn e
theorem Dn.step {l : List Al} {n i j : Nat} (h : Dn l n i) (hn : n ≤ l.length) (hj : j < n) (hij : (j - 1) / 2 = i) (j0 : 0 < j) (hlt : ltB (at' l j) (at' l i) = true) (ho : ∀ k, 0 < k → k < n → (k - 1) / 2 = i → ltB (at' l k) (at' l j) = false) : Dn (sw l i j) n j := by
  have il : i < l.length := by omega
  have jl : j < l.length := by omega
  constructor
  · intro k k0 kn kp
    rw [sw_at il jl, sw_at il jl, if_neg kp]
    by_cases e1 : k = j
    · subst e1
      rw [if_pos rfl, if_pos hij]
      exact lt_asym hlt
    · rw [if_neg e1]
      by_cases e2 : k = i
      · subst e2
        rw [if_pos rfl, if_neg (by omega)]
        exact h.up j j0 hj hij k0
      · rw [if_neg e2]
        by_cases e3 : (k - 1) / 2 = i
        · rw [if_pos e3]; exact ho k k0 kn e3
        · rw [if_neg e3]; exact h.hp k k0 kn e3
  · intro k k0 kn kp _
    rw [sw_at il jl, sw_at il jl, if_neg (by omega), if_neg (by omega), if_neg (by omega), if_pos hij]
    have := h.hp k k0 kn (by omega)
    rwa [kp] at this

/-- A heap but for the one at j, which may stand too low. -/
structure Up (l : List Al) (n j : Nat) : Prop where
  hp : ∀ k, 0 < k → k < n → k ≠ j → ltB (at' l k) (at' l ((k - 1) / 2)) = false
  up : ∀ k, 0 < k → k < n → (k - 1) / 2 = j → 0 < j → ltB (at' l k) (at' l ((j - 1) / 2)) = false
theorem Up.stop {l : List Al} {n j : Nat} (h : Up l n j) (hj : j = 0 ∨ ltB (at' l j) (at' l ((j - 1) / 2)) = false) : Heap l n := by
  intro k k0 kn
  by_cases e : k = j
  · subst e
    rcases hj with q | q
    · omega
    · exact q
  · exact h.hp k k0 kn e
theorem Up.step {l : List Al} {n j : Nat} (h : Up l n j) (hn : n ≤ l.length) (hj : j < n) (j0 : 0 < j) (hlt : ltB (at' l j) (at' l ((j - 1) / 2)) = true) : Up (sw l ((j - 1) / 2) j) n ((j - 1) / 2) := by
  generalize hi : (j - 1) / 2 = i at *
  have il : i < l.length := by omega
  have jl : j < l.length := by omega
  constructor
  · intro k k0 kn kp
    rw [sw_at il jl, sw_at il jl]
    by_cases e1 : k = j
    · subst e1
      rw [if_pos rfl, hi, if_neg (by omega), if_pos rfl]
      exact lt_asym hlt
    · rw [if_neg e1, if_neg kp]
      by_cases e2 : (k - 1) / 2 = j
      · rw [if_pos e2]
        have := h.up k k0 kn e2 j0
        rwa [hi] at this
      · rw [if_neg e2]
        by_cases e3 : (k - 1) / 2 = i
        · rw [if_pos e3]
          have := h.hp k k0 kn e1
          rw [e3] at this
          exact nlt_trans (lt_asym hlt) this
        · rw [if_neg e3]; exact h.hp k k0 kn e1
  · intro k k0 kn kp i0
    rw [sw_at il jl, sw_at il jl, if_neg (c := (i - 1) / 2 = j) (by omega), if_neg (c := (i - 1) / 2 = i) (by omega)]
    have hii := h.hp i i0 (by omega) (by omega)
    by_cases e1 : k = j
    · rw [if_pos e1]; exact hii
    · rw [if_neg e1, if_neg (by omega)]
      have := h.hp k k0 kn e1
      rw [kp] at this
      exact nlt_trans hii this

/-- The soonest first, none twice. -/
def Rise (l : List Al) : Prop := l.Pairwise (fun a b => ltB a b = true)
theorem rise_at {l : List Al} (h : Rise l) {i j : Nat} (hij : i < j) (hj : j < l.length) : ltB (at' l i) (at' l j) = true := by
  rw [at_lt (by omega), at_lt hj]
  exact List.pairwise_iff_getElem.1 h i j (by omega) hj hij
theorem rise_heap {l : List Al} (h : Rise l) : Heap l l.length := by
  intro k k0 kn
  exact lt_asym (rise_at h (by omega) kn)
theorem good_rise {l : List Al} (h : allGood l) : Rise l := by
  have step : ∀ j, j < l.length → ∀ i, i < j → ltB (at' l i) (at' l j) = true := by
    intro j
    induction j with
    | zero => intro _ i hi; omega
    | succ j ih =>
      intro hj i hi
      have g := (h (j + 1) hj).2
      rcases g with g | g
      · omega
      · rw [Nat.add_sub_cancel] at g
        by_cases e : i = j
        · subst e; exact g
        · exact lt_trans (ih (by omega) i (by omega)) g
  rw [Rise, List.pairwise_iff_getElem]
  intro i j hi hj hij
  have := step j hj i hij
  rwa [at_lt hi, at_lt hj] at this
theorem rise_good {l : List Al} (h : Rise l) (ha : ∀ a ∈ l, alB a = true) : allGood l := by
  intro k hk
  refine ⟨?_, ?_⟩
  · have := ha _ (at_mem hk); exact this
  · by_cases e : k = 0
    · exact .inl e
    · exact .inr (rise_at h (by omega) hk)
/-- The first of a heap is the first of those in order. -/
theorem heap_first {l s : List Al} {x : Al} (h : Heap l l.length) (hp : l.Perm (x :: s)) (hs : Rise (x :: s)) : at' l 0 = x := by
  have hl : 0 < l.length := by rw [hp.length_eq]; simp
  have m0 : at' l 0 ∈ x :: s := hp.mem_iff.1 (at_mem hl)
  have mx : x ∈ l := hp.mem_iff.2 (by simp)
  obtain ⟨k, hk, ek⟩ := List.getElem_of_mem mx
  have h1 := heap_min h k hk
  rw [at_lt hk, ek] at h1
  rcases List.mem_cons.1 m0 with e | e
  · exact e
  · have := (List.pairwise_cons.1 hs).1 _ e
    rw [this] at h1
    cases h1
/-- The first one changes places with the last: a heap of one less, but for the first. -/
theorem pop_dn {l : List Al} (h : Heap l l.length) (hl : 0 < l.length) : Dn (sw l 0 (l.length - 1)) (l.length - 1) 0 := by
  constructor
  · intro k k0 kn kp
    rw [sw_at hl (by omega), sw_at hl (by omega), if_neg (by omega), if_neg (by omega), if_neg (by omega), if_neg (by omega)]
    exact h k k0 (by omega)
  · intro k k0 kn kp i0
    omega
theorem perm_last {l : List Al} (hl : 0 < l.length) : l.Perm (at' l (l.length - 1) :: l.take (l.length - 1)) := by
  have e : l = l.take (l.length - 1) ++ [at' l (l.length - 1)] := by
    have := List.take_succ_eq_append_getElem (l := l) (i := l.length - 1) (by omega)
    rw [List.take_of_length_le (by omega)] at this
    rw [at_lt (by omega)]
    exact this
  conv => lhs; rw [e]
  exact List.perm_append_comm
theorem heap_take {l : List Al} {n : Nat} (h : Heap l n) (hn : n ≤ l.length) : Heap (l.take n) (l.take n).length := by
  intro k k0 kn
  have kn' : k < n := by rw [List.length_take] at kn; omega
  have e : ∀ i, i < n → at' (l.take n) i = at' l i := fun i hi => by unfold at'; rw [List.getD_eq_getElem?_getD, List.getD_eq_getElem?_getD, List.getElem?_take_of_lt hi]
  rw [e k kn', e _ (by omega)]
  exact h k k0 kn'
/-- One more behind a heap. -/
theorem push_up {l : List Al} (h : Heap l l.length) (a : Al) : Up (l ++ [a]) (l.length + 1) l.length := by
  have e : ∀ i, i < l.length → at' (l ++ [a]) i = at' l i := fun i hi => by unfold at'; rw [List.getD_eq_getElem?_getD, List.getD_eq_getElem?_getD, List.getElem?_append_left hi]
  constructor
  · intro k k0 kn kp
    rw [e k (by omega), e _ (by omega)]
    exact h k k0 (by omega)
  · intro k k0 kn kp _
    omega

/-- One is laid among those in order. -/
def insA (a : Al) : List Al → List Al
  | [] => [a]
  | x :: l => if ltB x a = true then x :: insA a l else a :: x :: l
theorem ins_perm (a : Al) (l : List Al) : (insA a l).Perm (a :: l) := by
  induction l with
  | nil => exact List.Perm.refl _
  | cons x l ih =>
    unfold insA
    split
    · exact (List.Perm.cons x ih).trans (List.Perm.swap _ _ _)
    · exact List.Perm.refl _
theorem ins_rise {a : Al} {l : List Al} (h : Rise l) (ha : a ∉ l) : Rise (insA a l) := by
  induction l with
  | nil => simp [insA, Rise]
  | cons x l ih =>
    have hx := List.pairwise_cons.1 h
    unfold insA
    split
    · rename_i q
      refine List.pairwise_cons.2 ⟨fun y hy => ?_, ih hx.2 (fun m => ha (by simp [m]))⟩
      rcases List.mem_cons.1 ((ins_perm a l).mem_iff.1 hy) with e | e
      · rw [e]; exact q
      · exact hx.1 y e
    · rename_i q
      have hax : ltB a x = true := lt_of_ne (by simpa using q) (fun e => ha (by simp [e]))
      refine List.pairwise_cons.2 ⟨fun y hy => ?_, h⟩
      rcases List.mem_cons.1 hy with e | e
      · rw [e]; exact hax
      · exact lt_trans hax (hx.1 y e)

end Go.Proofs.Ytdipdenekhffcaa.Alm
