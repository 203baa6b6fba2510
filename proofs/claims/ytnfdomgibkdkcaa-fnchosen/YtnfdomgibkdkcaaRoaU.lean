/- Mathematics of FnRoads (chapter 10), and contracts of the laws' own helpers likeRoads and likeInts of equal lists, rises, has; lists of at most 2^21. -/
import Derived.Test.YtnfdomgibkdkcaaLawRq
namespace Go.Proofs.Ytnfdomgibkdkcaa.Roa
open Go.RowKit RowG
set_option linter.unusedVariables false
set_option linter.unusedSimpArgs false

theorem roadsB_set {l : List Rd} {k : Nat} {y : Rd} (h : roadsB l = true) (hy : rdB y = true) : roadsB (l.set k y) = true := by
  simp only [roadsB, Bool.and_eq_true, List.all_eq_true, decide_eq_true_eq, List.length_set] at h ⊢
  refine ⟨fun x hx => ?_, h.2⟩
  rcases List.mem_or_eq_of_mem_set hx with q | q
  · exact h.1 x q
  · rw [q]; exact hy
theorem at_set {l : List Rd} {k : Nat} (h : k < l.length) (y : Rd) : at' (l.set k y) k = y := by
  unfold at'
  rw [List.getD_eq_getElem?_getD]
  simp [h]
theorem used_yes {l : List Rd} {r : Int} {o : Bool} (h : usedB l r = true) : ∃ (k : Nat) (x : Rd), r = (k : Int) ∧ k < l.length ∧ at' l k = x ∧ rdB x = true ∧ x.se < 1000000000 ∧ usedL l r o = l.set k (usedR x o) ∧ roadsB (l.set k (usedR x o)) = true := by
  have h' := h
  simp only [usedB, Bool.and_eq_true] at h
  obtain ⟨hok, hr, hs⟩ := h
  obtain ⟨hlt, hrd⟩ := at_rd hok hr
  have hr' := of_decide_eq_true hr
  have hse : (at' l r.toNat).se < 1000000000 := by
    have : (at' l r.toNat).se ≠ 1000000000 := by simpa using hs
    simp only [rdB, Bool.and_eq_true, decide_eq_true_eq, Num.plB] at hrd
    omega
  refine ⟨r.toNat, _, by omega, hlt, rfl, hrd, hse, ?_, ?_⟩
  · simp [usedL, hok, h']
  · refine roadsB_set hok ?_
    simp only [rdB, Bool.and_eq_true, decide_eq_true_eq, Num.plB] at hrd ⊢
    simp only [usedR]
    refine ⟨hrd.1, by omega, ?_⟩
    split <;> omega
theorem openN_mem : ∀ (l : List Rd) (j : Nat) (x : Int), x ∈ openN j l ↔ ∃ i : Nat, i < l.length ∧ x = (j : Int) + (i : Int) ∧ (at' l i).op = true
  | [], j, x => by simp [openN]
  | a :: l, j, x => by
    have ih := openN_mem l (j + 1) x
    have e0 : at' (a :: l) 0 = a := rfl
    have e1 : ∀ i, at' (a :: l) (i + 1) = at' l i := fun i => by unfold at'; simp
    have key : x ∈ openN j (a :: l) ↔ (a.op = true ∧ x = (j : Int)) ∨ x ∈ openN (j + 1) l := by
      simp only [openN]
      split
      · rename_i ha
        simp [ha]
      · rename_i ha
        simp [ha]
    rw [key, ih]
    constructor
    · rintro (⟨h1, h2⟩ | ⟨i, h1, h2, h3⟩)
      · exact ⟨0, by simp, by omega, by rw [e0]; exact h1⟩
      · exact ⟨i + 1, by simpa using h1, by omega, by rw [e1]; exact h3⟩
    · rintro ⟨i, h1, h2, h3⟩
      cases i with
      | zero => exact .inl ⟨by rw [e0] at h3; exact h3, by omega⟩
      | succ i => exact .inr ⟨i, by simpa using h1, by omega, by rw [e1] at h3; exact h3⟩
theorem turn_yes {l : List Rd} {r : Int} {o : Bool} (h : turnB l r o = true) : ∃ (k : Nat) (x : Rd), r = (k : Int) ∧ k < l.length ∧ at' l k = x ∧ (x.op == o) = false ∧ turnL l r o = l.set k { x with op := o } ∧ roadsB (l.set k { x with op := o }) = true ∧ decide ((k : Int) ∈ openL (l.set k { x with op := o })) = o := by
  have h' := h
  simp only [turnB, Bool.and_eq_true] at h
  obtain ⟨hok, hr, hs⟩ := h
  obtain ⟨hlt, hrd⟩ := at_rd hok hr
  have hr' := of_decide_eq_true hr
  have hR : roadsB (l.set r.toNat { at' l r.toNat with op := o }) = true := roadsB_set hok hrd
  refine ⟨r.toNat, _, by omega, hlt, rfl, by simpa [bne] using hs, ?_, hR, ?_⟩
  · simp [turnL, hok, h']
  · rw [openL, if_pos hR]
    have e := openN_mem (l.set r.toNat { at' l r.toNat with op := o }) 0 (r.toNat : Int)
    have e2 : ((r.toNat : Int) ∈ openN 0 (l.set r.toNat { at' l r.toNat with op := o })) ↔ o = true := by
      rw [e]
      constructor
      · rintro ⟨i, h1, h2, h3⟩
        have : i = r.toNat := by omega
        subst this
        rw [at_set hlt] at h3
        exact h3
      · intro ho
        exact ⟨r.toNat, by rw [List.length_set]; exact hlt, by omega, by rw [at_set hlt]; exact ho⟩
    cases o
    · exact decide_eq_false (fun q => by have := e2.1 q; cases this)
    · exact decide_eq_true (e2.2 rfl)
theorem turn_no {l : List Rd} {r : Int} {o : Bool} (h : turnB l r o = false) : (roadsB l = false ∧ turnL l r o = []) ∨ (roadsB l = true ∧ turnL l r o = l) := by
  cases hok : roadsB l
  · exact .inl ⟨rfl, by simp [turnL, hok]⟩
  · exact .inr ⟨rfl, by simp [turnL, hok, h]⟩
theorem openN_lt : ∀ (l : List Rd) (k : Nat), (openN k l).Pairwise (· < ·) ∧ ∀ x ∈ openN k l, (k : Int) ≤ x
  | [], k => ⟨List.Pairwise.nil, fun x hx => by simp [openN] at hx⟩
  | a :: l, k => by
    obtain ⟨h1, h2⟩ := openN_lt l (k + 1)
    simp only [openN]
    split
    · refine ⟨List.pairwise_cons.2 ⟨fun x hx => by have := h2 x hx; omega, h1⟩, fun x hx => ?_⟩
      rcases List.mem_cons.1 hx with q | q
      · omega
      · have := h2 x q; omega
    · exact ⟨h1, fun x hx => by have := h2 x hx; omega⟩
theorem openL_lt (l : List Rd) : (openL l).Pairwise (· < ·) := by
  unfold openL
  split
  · exact (openN_lt l 0).1
  · exact List.Pairwise.nil

set_option maxHeartbeats 2000000 in
theorem has (B g c n : Nat) (l : List Int) (x : Int) (w : World) (hn : n = l.length) (h : OwnI w B g c l) (hl : l.length ≤ 4194304) :
    Calls Try.prog 20 #[.slice (some ⟨g, 0, none⟩) n c, .int .i64 x] w fun r w' => r = .returned (.bool (decide (x ∈ l))) ∧ w = w' := by
  subst hn
  go_enter Try.func20, Try.ntmps20
  go_wp2_with fail
  go_loop [5] (fun iv => ∃ k : Nat, k ≤ l.length ∧ iv = .int .i64 k ∧ Hid (∀ i, i < k → l.getD i 0 ≠ x)) (fun iv => l.length - (intOf iv).toNat)
  case atStart => exact ⟨0, Nat.zero_le _, rfl, fun i hi => absurd hi (by omega)⟩
  case round =>
    obtain ⟨k, hk, rfl, hno⟩ := hrel
    by_cases hlt : k < l.length
    · have c0 := (h.at hlt).1
      have i0 : (0 : Int) ≤ (k : Int) := by omega
      have i1 : (k : Int) < (l.length : Int) := by omega
      have HM : Hid (l.getD k 0 ∈ l) := by show _ ∈ _; rw [List.getD_eq_getElem?_getD, List.getElem?_eq_getElem hlt]; exact List.getElem_mem hlt
      obtain ⟨s, HS⟩ : ∃ s, Hid (l.getD k 0 = s) := ⟨_, rfl⟩
      rw [HS.out] at c0 HM
      cases hx : (s == x)
      · have hne : s ≠ x := by simpa using hx
        have HN : Hid (∀ i, i < k + 1 → l.getD i 0 ≠ x) := fun i hi => by
          by_cases e : i = k
          · rw [e, HS.out]; exact hne
          · exact hno.out i (by omega)
        clear hne
        go_wp2_with fail
        go_round
        case rel => exact ⟨k + 1, by omega, by go_num, HN⟩
        case measure => simp [intOf]; omega
      · have HF : Hid (decide (x ∈ l) = true) := by
          have : s = x := by simpa using hx
          rw [this] at HM
          exact decide_eq_true HM.out
        go_wp2_with fail
        go_ret
        exact ⟨by rw [HF.out]; rfl, rfl⟩
    · have i1 : ¬ (k : Int) < (l.length : Int) := by omega
      have HF : Hid (decide (x ∈ l) = false) := decide_eq_false fun hx => by
        obtain ⟨i, hi, e⟩ := List.getElem_of_mem hx
        refine hno.out i (by omega) ?_
        rw [List.getD_eq_getElem?_getD, List.getElem?_eq_getElem hi]
        exact e
      go_wp2_with fail
      go_ret
      exact ⟨by rw [HF.out]; rfl, rfl⟩

end Go.Proofs.Ytnfdomgibkdkcaa.Roa
