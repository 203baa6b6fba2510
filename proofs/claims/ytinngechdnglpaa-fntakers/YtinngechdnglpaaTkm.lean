/- Mathematics of the program's Takes: what is gathered is what is joined; a row that rises strictly is known by its members; plain. -/
import Derived.Test.YtinngechdnglpaaTks
namespace Go.Proofs.Ytinngechdnglpaa.Tak
open RowG
set_option linter.unusedVariables false
set_option linter.unusedSimpArgs false

theorem gath_rest : ∀ (l : List Pt) (b nx : Int) (bs : ByteArray) (q : List Pt), q ≠ [] → (pairs b l).foldl gstep (nx, bs, q) = (nx, bs, q ++ l)
  | [], b, nx, bs, q, _ => by simp [pairs]
  | p :: l, b, nx, bs, q, hq => by
    rw [pairs, List.foldl_cons, gstep, if_pos (.inr hq), gath_rest l _ nx bs (q ++ [p]) (by simp)]
    simp
theorem gath_fold {lim : Int} : ∀ (l : List Pt) (nx : Int) (bs : ByteArray), okQ lim nx l → (pairs nx l).foldl gstep (nx, bs, []) = joinT nx bs l
  | [], nx, bs, _ => rfl
  | p :: l, nx, bs, ⟨h1, h2, h3, h4⟩ => by
    rw [pairs, List.foldl_cons, joinT]
    by_cases hc : p.1 = nx
    · rw [if_pos hc, gstep, if_neg (by simp; omega)]
      exact gath_fold l (endP p) (bs ++ p.2) h4
    · rw [if_neg hc, gstep, if_pos (.inl (by show nx < p.1; omega)), gath_rest l _ nx bs _ (by simp)]
      rfl
theorem gath_join {lim nx : Int} {bs : ByteArray} {l : List Pt} (h : okQ lim nx l) : gath nx bs l (pairs nx l).length = joinT nx bs l := by
  unfold gath
  rw [List.take_of_length_le (Nat.le_refl _)]
  exact gath_fold l nx bs h

/-- A right row rises strictly. -/
theorem okQ_mem {lim : Int} : ∀ {l : List Pt} {lo : Int}, okQ lim lo l → ∀ q ∈ l, lo ≤ q.1
  | [], _, _, q, hq => by cases hq
  | p :: l, lo, ⟨h1, h2, h3, h4⟩, q, hq => by
    rcases List.mem_cons.1 hq with rfl | hq
    · exact h2
    · have := okQ_mem h4 q hq
      have := end_gt h1.1
      omega
theorem okQ_rise {lim : Int} : ∀ {l : List Pt} {lo : Int}, okQ lim lo l → l.Pairwise fun x y => x.1 < y.1
  | [], _, _ => List.Pairwise.nil
  | p :: l, lo, ⟨h1, h2, h3, h4⟩ => by
    refine List.Pairwise.cons (fun q hq => ?_) (okQ_rise h4)
    have := okQ_mem h4 q hq
    have := end_gt h1.1
    omega
/-- Two rows with the same members, one rising strictly, one rising: the same. -/
theorem rise_eq : ∀ {l r : List Pt}, r.Perm l → l.Pairwise (fun x y => x.1 < y.1) → r.Pairwise (fun x y => x.1 ≤ y.1) → r = l
  | [], r, h, _, _ => List.Perm.eq_nil h
  | p :: l, [], h, _, _ => by have := h.length_eq; simp at this
  | p :: l, q :: r, h, hl, hr => by
    obtain ⟨hl1, hl2⟩ := List.pairwise_cons.1 hl
    obtain ⟨hr1, hr2⟩ := List.pairwise_cons.1 hr
    have e : q = p := by
      rcases List.mem_cons.1 (h.mem_iff.1 (List.mem_cons_self ..)) with e | e
      · exact e
      · have h1 := hl1 q e
        rcases List.mem_cons.1 (h.mem_iff.2 (List.mem_cons_self ..)) with e2 | e2
        · exact e2.symm
        · have h2 := hr1 p e2
          omega
    subst e
    rw [rise_eq (List.Perm.cons_inv h) hl2 hr2]

end Go.Proofs.Ytinngechdnglpaa.Tak
