/- A taker over the pieces of one text (FnOnce): plain mathematics of chapter 5; texts of at most 100 bytes. -/
import Derived.Test.YtinngechdnglpaaTakL
namespace Go.Proofs.Ytinngechdnglpaa.Tak
set_option linter.unusedVariables false

/-- A part that is a piece of the text. -/
def onP (T : ByteArray) (q : Pt) : Prop := 0 ≤ q.1 ∧ endP q ≤ T.size ∧ q.2 = T.extract q.1.toNat (endP q).toNat
theorem mem_put {l : List Pt} {q x : Pt} (h : x ∈ putP l q) : x = q ∨ x ∈ l := by
  unfold putP at h
  simp at h
  rcases h with h | h | h
  · exact .inr (List.mem_of_mem_take h)
  · exact .inl h
  · exact .inr (List.mem_of_mem_drop h)
theorem fold_on {T : ByteArray} {nx lim p : Int} {n : Nat} {l : List Pt} (hp : 0 ≤ p) (hn : p + n ≤ T.size) (hz : n ≤ 40) (h0 : okQ lim nx l) (hl : ∀ q ∈ l, onP T q) :
    ∀ i : Nat, i ≤ n + 1 → ∀ q ∈ (foldK nx lim p (T.extract p.toNat (p + n).toNat) l i).1, onP T q := by
  have hsz : (T.extract p.toNat (p + n).toNat).size = n := by rw [ext_size _ _ _ (by omega)]; omega
  intro i
  induction i with
  | zero => exact fun _ => hl
  | succ i ih =>
    intro hi
    have ih := ih (by omega)
    have inv := inv_fold (bz := T.extract p.toNat (p + n).toNat) hp (by omega) h0 i (by omega)
    rw [foldK_succ]
    generalize foldK nx lim p (T.extract p.toNat (p + n).toNat) l i = st at *
    unfold stepK
    split
    · split <;> exact ih
    · split
      next hfr =>
        intro q hq
        rcases mem_put hq with z | z
        · obtain ⟨r1, r2, r3, r4, r5, r6⟩ : p ≤ st.2.1 ∧ st.2.1 < p + i ∧ nx ≤ st.2.1 ∧ p + i ≤ lim ∧ p + i ≤ p + (T.extract p.toNat (p + n).toNat).size ∧ _ := by
            rcases inv.run with y | y
            · omega
            · exact y
          rw [hsz] at r5
          subst z
          have he : (T.extract p.toNat (p + n).toNat).extract (st.2.1 - p).toNat (p + (i : Int) - p).toNat = T.extract st.2.1.toNat (p + i).toNat := by
            rw [ByteArray.extract_extract]
            congr 1 <;> omega
          rw [he]
          have hs2 : (T.extract st.2.1.toNat (p + i).toNat).size = (p + i - st.2.1).toNat := by rw [ext_size _ _ _ (by omega)]; omega
          have hen : endP (st.2.1, T.extract st.2.1.toNat (p + i).toNat) = p + i := by
            unfold endP
            simp only []
            rw [hs2]
            omega
          refine ⟨hfr, by rw [hen]; omega, ?_⟩
          rw [hen]
        · exact ih q z
      next hfr => exact ih
theorem join_on {T : ByteArray} {lim : Int} : ∀ {L : List Pt} {nx : Int}, 0 ≤ nx → nx ≤ T.size → okQ lim nx L → (∀ q ∈ L, onP T q) →
    (joinT nx (T.extract 0 nx.toNat) L).2.1 = T.extract 0 (joinT nx (T.extract 0 nx.toNat) L).1.toNat ∧ (joinT nx (T.extract 0 nx.toNat) L).1 ≤ T.size ∧ ∀ q ∈ (joinT nx (T.extract 0 nx.toNat) L).2.2, onP T q
  | [], nx, _, hs, _, _ => ⟨rfl, hs, fun q hq => by cases hq⟩
  | q :: r, nx, hn, hs, ⟨h1, h2, h3, h4⟩, hl => by
    have hg := end_gt h1.1
    obtain ⟨o1, o2, o3⟩ := hl q (List.mem_cons_self ..)
    rw [joinT]
    by_cases h : q.1 = nx
    · rw [if_pos h]
      have he : T.extract 0 nx.toNat ++ q.2 = T.extract 0 (endP q).toNat := by
        rw [o3, h, ByteArray.extract_append_extract]
        congr 1 <;> omega
      rw [he]
      exact join_on (by omega) o2 h4 (fun x hx => hl x (List.mem_cons_of_mem _ hx))
    · rw [if_neg h]
      exact ⟨rfl, hs, hl⟩
/-- All that a taker has is of the text. -/
structure OnT (T : ByteArray) (x : Tk) : Prop where
  ok : x.ok = true
  cp : x.cp = 100
  fi : x.fi = -1 ∨ x.fi = T.size
  bs : x.bs = T.extract 0 x.nx.toNat
  nx : x.nx ≤ T.size
  pt : ∀ q ∈ x.l, onP T q
def covered (x : Tk) (j : Int) : Prop := (0 ≤ j ∧ j < x.nx) ∨ thereB x.l j = true
theorem once_new (T : ByteArray) : OnT T ⟨0, ⟨#[]⟩, [], 100, -1, false⟩ :=
  ⟨by decide, rfl, .inl rfl, by simp; rfl, by simp, fun q hq => by cases hq⟩
theorem on_lim {T : ByteArray} {x : Tk} (h : OnT T x) : limT x.nx x.bs x.cp = 100 ∧ 0 ≤ x.nx := by
  obtain ⟨hin, hq, he⟩ := ok_iff.1 h.ok
  have hs : x.bs.size = x.nx.toNat := by
    have := h.nx
    have := hin.2.1.1
    rw [h.bs, ext_size _ _ _ (by omega)]
    omega
  have := h.cp
  have := hin.2.1.1
  unfold limT
  exact ⟨by omega, by omega⟩
theorem on_last {T : ByteArray} {x : Tk} (h : OnT T x) : lastEnd x.nx x.l ≤ T.size := by
  obtain ⟨hin, hq, he⟩ := ok_iff.1 h.ok
  unfold lastEnd
  cases hl : x.l.getLast? with
  | none => exact h.nx
  | some q => exact (h.pt q (List.mem_of_getLast? hl)).2.1
set_option maxHeartbeats 1000000 in
theorem once_step {T : ByteArray} {x : Tk} (h : OnT T x) (hT : T.size ≤ 100) {p : Int} {n : Nat} (hp : 0 ≤ p) (hn : p + n ≤ T.size) (hz : n ≤ 40) :
    OnT T (takeT x p (T.extract p.toNat (p + n).toNat) (decide (p + n = T.size))).1 ∧ (∀ j, covered x j ∨ (p ≤ j ∧ j < p + n) → covered (takeT x p (T.extract p.toNat (p + n).toNat) (decide (p + n = T.size))).1 j) ∧ ((p + n = T.size ∨ x.fi = T.size) → (takeT x p (T.extract p.toNat (p + n).toNat) (decide (p + n = T.size))).1.fi = T.size) := by
  have hsz : (T.extract p.toNat (p + n).toNat).size = n := by rw [ext_size _ _ _ (by omega)]; omega
  obtain ⟨hin, hq, he⟩ := ok_iff.1 h.ok
  obtain ⟨hlim, hx0⟩ := on_lim h
  have hll := on_last h
  have hon := fold_on (lim := limT x.nx x.bs x.cp) hp hn hz (okQ_weak (show x.nx ≤ x.nx + 1 by omega) hq) h.pt (n + 1) (Nat.le_refl _)
  generalize T.extract p.toNat (p + n).toNat = bz at *
  have hdec : decide (p + (n : Int) = T.size) = true ↔ p + (n : Int) = T.size := decide_eq_true_iff
  generalize decide (p + (n : Int) = T.size) = e at *
  have hfx := h.fi
  have hb : ¬ takeBad x p bz e := by
    unfold takeBad
    rw [hsz]
    rintro (q | q | q | q | q)
    · have := Num.pl_f q; omega
    · have := Num.pl_f q; omega
    · omega
    · rcases hfx with z | z <;> omega
    · have hs := hdec.1 q.1
      rcases q.2 with y | y
      · omega
      · rcases hfx with z | z <;> omega
  obtain ⟨a1, a2, a3, a4, a5, a6, a7⟩ := take_facts h.ok hb
  have hok := take_ok h.ok p bz e
  obtain ⟨L, fr, b, hf⟩ : ∃ L fr b, foldK x.nx (limT x.nx x.bs x.cp) p bz x.l (bz.size + 1) = (L, fr, b) := ⟨_, _, _, rfl⟩
  have hfa := (fold_all h.ok hp (by omega : bz.size ≤ 40)).1
  have htk := take_good hb hf
  rw [hf] at hfa
  rw [hsz] at hf
  rw [hf] at hon
  have hjo := join_on hx0 h.nx hfa hon
  rw [← h.bs] at hjo
  rw [hsz] at a6 a7
  have hcp := h.cp
  generalize takeT x p bz e = R at *
  obtain ⟨y, ch⟩ := R
  simp only at a1 a2 a3 a4 a5 a6 a7 hok htk ⊢
  have hy := congrArg Prod.fst htk
  simp only at hy
  have hfi : y.fi = -1 ∨ y.fi = T.size := by
    rw [a6]
    split
    · rename_i q
      exact .inr (hdec.1 q.1)
    · exact hfx
  refine ⟨⟨hok, by rw [a5]; exact hcp, hfi, by rw [hy]; exact hjo.1, by rw [hy]; exact hjo.2.1, by rw [hy]; exact hjo.2.2⟩, fun j hj => ?_, fun hj => ?_⟩
  · unfold covered at *
    by_cases c : 0 ≤ j ∧ j < x.nx
    · exact .inl ⟨c.1, by omega⟩
    · have : thereB x.l j = true ∨ (p ≤ j ∧ j < p + n ∧ x.nx ≤ j ∧ j < limT x.nx x.bs x.cp) := by
        rcases hj with (z | z) | z
        · exact absurd z c
        · exact .inl z
        · exact .inr ⟨z.1, z.2, by omega, by omega⟩
      rcases (a7 j).1 this with z | z
      · exact .inl ⟨by omega, z.2⟩
      · exact .inr z
  · rw [a6]
    split
    · rename_i q
      exact hdec.1 q.1
    · rename_i q
      rcases hj with z | z
      · rcases hfx with y | y
        · exact absurd ⟨hdec.2 z, by omega⟩ q
        · exact y
      · exact z
theorem once_end {T : ByteArray} {x : Tk} (h : OnT T x) (hc : ∀ j : Int, 0 ≤ j → j < T.size → covered x j) (hf : x.fi = T.size) : x.bs = T ∧ x.en = true ∧ x.nx = T.size ∧ x.l = [] := by
  obtain ⟨hin, hq, he⟩ := ok_iff.1 h.ok
  have hx0 := hin.2.1.1
  have hnx : x.nx = T.size := by
    by_cases c : x.nx < T.size
    · rcases hc x.nx hx0 c with z | z
      · omega
      · rw [there_lo hq (by omega)] at z; cases z
    · have := h.nx; omega
  refine ⟨?_, ?_, hnx, ?_⟩
  · rw [h.bs, hnx]
    simp
  · rw [(end_iff.1 he).2.1]
    exact decide_eq_true (by omega)
  · cases hl : x.l with
    | nil => rfl
    | cons q r =>
      rw [hl] at hq
      have h1 := hq.2.1
      have h2 := end_gt hq.1.1
      have h3 := (h.pt q (by rw [hl]; exact List.mem_cons_self ..)).2.1
      omega

end Go.Proofs.Ytinngechdnglpaa.Tak
