/- A taker that takes stays right: plain mathematics of chapter 5; no condition. -/
import Derived.Test.YtldghgadkncehaaTakH
namespace Go.Proofs.Ytldghgadkncehaa.Tak
set_option linter.unusedVariables false

/-- Parts that rise from lo on, none over another one, all up to lim. -/
def okQ (lim : Int) : Int → List Pt → Prop
  | _, [] => True
  | lo, q :: r => (1 ≤ q.2.size ∧ q.2.size ≤ 40) ∧ lo ≤ q.1 ∧ endP q ≤ lim ∧ okQ lim (endP q) r
theorem okQ_weak {lim lo lo' : Int} (h : lo' ≤ lo) : ∀ {l : List Pt}, okQ lim lo l → okQ lim lo' l
  | [], _ => trivial
  | q :: r, ⟨h1, h2, h3, h4⟩ => ⟨h1, by omega, h3, h4⟩
theorem end_gt {q : Pt} (h : 1 ≤ q.2.size) : q.1 < endP q := by unfold endP; omega
theorem lastEnd_cons (x : Int) (q : Pt) (r : List Pt) : lastEnd x (q :: r) = lastEnd (endP q) r := by
  unfold lastEnd
  cases r with
  | nil => rfl
  | cons y s => rw [List.getLast?_cons_cons]; cases h : (y :: s).getLast? with
    | none => simp at h
    | some z => rfl
theorem scan_tail {nx lim : Int} : ∀ {l : List Pt} {last out : Int}, nx < last → (scan nx lim last l = some out ↔ okQ lim last l ∧ out = lastEnd last l)
  | [], last, out, h => by simp [scan, okQ, lastEnd]; exact eq_comm
  | q :: r, last, out, h => by
    rw [scan, lastEnd_cons]
    by_cases hc : (1 ≤ q.2.size ∧ q.2.size ≤ 40) ∧ nx < q.1 ∧ last ≤ q.1 ∧ endP q ≤ lim
    · have hg := end_gt hc.1.1
      rw [if_pos hc, scan_tail (by omega)]
      exact ⟨fun z => ⟨⟨hc.1, hc.2.2.1, hc.2.2.2, z.1⟩, z.2⟩, fun z => ⟨z.1.2.2.2, z.2⟩⟩
    · rw [if_neg hc]
      exact ⟨(by intro z; cases z), fun z => absurd ⟨z.1.1, by have := z.1.2.1; omega, z.1.2.1, z.1.2.2.1⟩ hc⟩
theorem scan_head {nx lim : Int} {l : List Pt} {out : Int} : scan nx lim nx l = some out ↔ okQ lim (nx + 1) l ∧ out = lastEnd nx l := by
  cases l with
  | nil => simp [scan, okQ, lastEnd]; exact eq_comm
  | cons q r =>
    rw [scan, lastEnd_cons]
    by_cases hc : (1 ≤ q.2.size ∧ q.2.size ≤ 40) ∧ nx < q.1 ∧ nx ≤ q.1 ∧ endP q ≤ lim
    · have hg := end_gt hc.1.1
      rw [if_pos hc, scan_tail (by omega)]
      exact ⟨fun z => ⟨⟨hc.1, by omega, hc.2.2.2, z.1⟩, z.2⟩, fun z => ⟨z.1.2.2.2, z.2⟩⟩
    · rw [if_neg hc]
      exact ⟨(by intro z; cases z), fun z => absurd ⟨z.1.1, by have := z.1.2.1; omega, by have := z.1.2.1; omega, z.1.2.2.1⟩ hc⟩
theorem last_ge {lim : Int} : ∀ {l : List Pt} {lo : Int}, okQ lim lo l → ∀ q ∈ l, endP q ≤ lastEnd lo l
  | [], _, _, q, hq => by cases hq
  | x :: r, lo, ⟨h1, h2, h3, h4⟩, q, hq => by
    rw [lastEnd_cons]
    have hm : endP x ≤ lastEnd (endP x) r := last_from h4
    rcases List.mem_cons.1 hq with rfl | hq
    · exact hm
    · exact last_ge h4 q hq
where
  last_from {lim : Int} : ∀ {l : List Pt} {lo : Int}, okQ lim lo l → lo ≤ lastEnd lo l
    | [], _, _ => Int.le_refl _
    | x :: r, lo, ⟨h1, h2, h3, h4⟩ => by
      rw [lastEnd_cons]
      have := last_from h4
      have := end_gt h1.1
      omega

def putR : List Pt → Pt → List Pt
  | [], q => [q]
  | x :: r, q => if x.1 < q.1 then x :: putR r q else q :: x :: r
theorem put_eq : ∀ (l : List Pt) (q : Pt), putP l q = putR l q
  | [], q => rfl
  | x :: r, q => by
    have ih := put_eq r q
    unfold putP at ih ⊢
    by_cases h : x.1 < q.1
    · have hc : cnt (ahead q) (x :: r) = cnt (ahead q) r + 1 := by simp [cnt, ahead, h]
      rw [hc, putR, if_pos h, ← ih]
      simp
    · have hc : cnt (ahead q) (x :: r) = 0 := by simp [cnt, ahead]; omega
      rw [hc, putR, if_neg h]
      simp
theorem there_cons (x : Pt) (r : List Pt) (k : Int) : thereB (x :: r) k = true ↔ (x.1 ≤ k ∧ k < endP x) ∨ thereB r k = true := by
  simp [thereB, inP]
theorem put_ok {lim : Int} {q : Pt} (hq : 1 ≤ q.2.size ∧ q.2.size ≤ 40) (hm : endP q ≤ lim) : ∀ {l : List Pt} {lo : Int}, okQ lim lo l → lo ≤ q.1 → (∀ k, q.1 ≤ k → k < endP q → thereB l k = false) → okQ lim lo (putR l q)
  | [], lo, _, hl, _ => ⟨hq, hl, hm, trivial⟩
  | x :: r, lo, ⟨h1, h2, h3, h4⟩, hl, hc => by
    have hx := end_gt h1.1
    have hg := end_gt hq.1
    have hno : ∀ k, q.1 ≤ k → k < endP q → ¬ (x.1 ≤ k ∧ k < endP x) ∧ thereB r k = false := fun k a b => by
      have := hc k a b
      cases hb : thereB (x :: r) k with
      | true => rw [hb] at this; cases this
      | false =>
        refine ⟨fun c => ?_, ?_⟩
        · rw [(there_cons x r k).2 (.inl c)] at hb; cases hb
        · cases hr : thereB r k with
          | true => rw [(there_cons x r k).2 (.inr hr)] at hb; cases hb
          | false => rfl
    rw [putR]
    split
    next h =>
      refine ⟨h1, h2, h3, put_ok hq hm h4 ?_ (fun k a b => (hno k a b).2)⟩
      have := (hno q.1 (Int.le_refl _) hg).1
      omega
    next h =>
      refine ⟨hq, hl, hm, h1, ?_, h3, h4⟩
      by_cases c : endP q ≤ x.1
      · exact c
      · have := (hno x.1 (by omega) (by omega)).1
        omega
theorem put_there {q : Pt} (k : Int) : ∀ (l : List Pt), thereB (putR l q) k = true ↔ thereB l k = true ∨ (q.1 ≤ k ∧ k < endP q)
  | [] => by simp [putR, thereB, inP]
  | x :: r => by
    rw [putR]
    split
    · rw [there_cons, there_cons, put_there k r]
      constructor
      · rintro (h | h | h)
        · exact .inl (.inl h)
        · exact .inl (.inr h)
        · exact .inr h
      · rintro ((h | h) | h)
        · exact .inl h
        · exact .inr (.inl h)
        · exact .inr (.inr h)
    · rw [there_cons q]
      exact ⟨fun h => h.symm, fun h => h.symm⟩

end Go.Proofs.Ytldghgadkncehaa.Tak
