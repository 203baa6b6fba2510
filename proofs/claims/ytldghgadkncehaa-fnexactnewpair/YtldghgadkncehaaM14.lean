/- Contracts of this seat's functions, and their mathematics (TakK). -/
import Derived.Test.YtldghgadkncehaaM13
set_option linter.unusedVariables false
set_option linter.unusedSimpArgs false
namespace Go.Proofs.Ytldghgadkncehaa.Tak
theorem okQ_len {lim : Int} : ∀ {l : List Pt} {lo : Int}, okQ lim lo l → l.length ≤ (lim - lo).toNat
  | [], _, _ => Nat.zero_le _
  | q :: r, lo, ⟨h1, h2, h3, h4⟩ => by
    have := okQ_len h4
    have := end_gt h1.1
    simp only [List.length_cons]
    omega
theorem there_lo {lim : Int} {k : Int} : ∀ {l : List Pt} {lo : Int}, okQ lim lo l → k < lo → thereB l k = false
  | [], _, _, _ => rfl
  | q :: r, lo, ⟨h1, h2, h3, h4⟩, hk => by
    have := end_gt h1.1
    cases h : thereB (q :: r) k with
    | false => rfl
    | true =>
      rcases (there_cons q r k).1 h with z | z
      · omega
      · rw [there_lo h4 (by omega)] at z; cases z
theorem there_hi {lim : Int} {k : Int} : ∀ {l : List Pt} {lo : Int}, okQ lim lo l → lastEnd lo l ≤ k → thereB l k = false
  | [], _, _, _ => rfl
  | q :: r, lo, h, hk => by
    cases hb : thereB (q :: r) k with
    | false => rfl
    | true =>
      have : ∃ x ∈ q :: r, x.1 ≤ k ∧ k < endP x := by
        simp only [thereB, List.any_eq_true, inP, decide_eq_true_eq] at hb
        exact hb
      obtain ⟨x, hx, h1, h2⟩ := this
      have := last_ge h x hx
      omega
theorem last_le {lim : Int} : ∀ {l : List Pt} {lo : Int}, okQ lim lo l → lo ≤ lim → lastEnd lo l ≤ lim
  | [], _, _, h => h
  | q :: r, lo, ⟨h1, h2, h3, h4⟩, h => by rw [lastEnd_cons]; exact last_le h4 h3
/-- The last place of all is there, or there is none. -/
theorem last_there {lim : Int} : ∀ {l : List Pt} {lo : Int}, okQ lim lo l → l ≠ [] → thereB l (lastEnd lo l - 1) = true
  | [], _, _, h => absurd rfl h
  | [q], lo, ⟨h1, h2, h3, h4⟩, _ => by
    have := end_gt h1.1
    rw [there_cons]
    left
    rw [lastEnd_cons]
    show q.1 ≤ endP q - 1 ∧ endP q - 1 < endP q
    omega
  | q :: y :: r, lo, ⟨h1, h2, h3, h4⟩, _ => by
    rw [there_cons, lastEnd_cons]
    exact .inr (last_there h4 (by simp))
theorem join_all {lim : Int} : ∀ {L : List Pt} {nx : Int} {bs : ByteArray}, okQ lim nx L →
    okQ lim ((joinT nx bs L).1 + 1) (joinT nx bs L).2.2 ∧ nx ≤ (joinT nx bs L).1 ∧ ((joinT nx bs L).2.1.size : Int) = bs.size + ((joinT nx bs L).1 - nx) ∧ lastEnd (joinT nx bs L).1 (joinT nx bs L).2.2 = lastEnd nx L ∧ (∀ j, thereB L j = true ↔ (nx ≤ j ∧ j < (joinT nx bs L).1) ∨ thereB (joinT nx bs L).2.2 j = true) ∧ (joinT nx bs L).1 ≤ lastEnd nx L ∧ (∃ tl, (joinT nx bs L).2.1 = bs ++ tl)
  | [], nx, bs, _ => ⟨trivial, Int.le_refl _, by simp [joinT], rfl, fun j => by simp [joinT, thereB], Int.le_refl _, ⟨ByteArray.empty, by simp [joinT]⟩⟩
  | q :: r, nx, bs, ⟨h1, h2, h3, h4⟩ => by
    have hg := end_gt h1.1
    rw [joinT]
    by_cases h : q.1 = nx
    · rw [if_pos h]
      obtain ⟨a1, a2, a3, a4, a5, a6, tl, a7⟩ := join_all (bs := bs ++ q.2) h4
      refine ⟨a1, by omega, ?_, by rw [a4, lastEnd_cons], fun j => ?_, by rw [lastEnd_cons]; exact a6, ⟨q.2 ++ tl, by rw [a7, ByteArray.append_assoc]⟩⟩
      · rw [a3, ByteArray.size_append]
        unfold endP
        omega
      · rw [there_cons, a5 j]
        constructor
        · rintro (z | z | z)
          · exact .inl (by omega)
          · exact .inl (by omega)
          · exact .inr z
        · rintro (z | z)
          · by_cases c : j < endP q
            · exact .inl (by omega)
            · exact .inr (.inl (by omega))
          · exact .inr (.inr z)
    · rw [if_neg h]
      have hq : okQ lim nx (q :: r) := ⟨h1, h2, h3, h4⟩
      have hl := last_ge.last_from hq
      refine ⟨⟨h1, by show nx + 1 ≤ q.1; omega, h3, h4⟩, Int.le_refl _, by simp, rfl, fun j => ⟨fun z => .inr z, fun z => z.elim (fun y => by simp only at y; omega) id⟩, hl, ⟨ByteArray.empty, by simp⟩⟩
/-- What is known of a taker that is right. -/
theorem ok_iff {t : Tk} : t.ok = true ↔ inT t.nx t.bs t.l t.cp ∧ okQ (limT t.nx t.bs t.cp) (t.nx + 1) t.l ∧ endB t.fi (lastEnd t.nx t.l) t.nx t.en = true := by
  constructor
  · intro h
    obtain ⟨hin, last, hs, he⟩ := ok_scan h
    obtain ⟨h1, h2⟩ := scan_head.1 hs
    exact ⟨hin, h1, h2 ▸ he⟩
  · rintro ⟨hin, h1, he⟩
    have hs := scan_head.2 ⟨h1, rfl⟩
    simp only [Tk.ok, takerB]
    rw [decide_eq_true hin, hs]
    exact he
theorem end_iff {fi last nx : Int} {en : Bool} : endB fi last nx en = true ↔ (fi = -1 ∨ (Num.plB fi = true ∧ last ≤ fi)) ∧ en = decide (fi = nx) ∧ Num.plB last = true := by
  unfold endB
  rw [Bool.and_eq_true, Bool.and_eq_true, decide_eq_true_eq, beq_iff_eq]
/-- What is left where the walk is over. -/
theorem fold_all {t : Tk} (h : t.ok = true) {p : Int} {bz : ByteArray} (hp : 0 ≤ p) (hz : bz.size ≤ 40) :
    okQ (limT t.nx t.bs t.cp) t.nx (foldK t.nx (limT t.nx t.bs t.cp) p bz t.l (bz.size + 1)).1 ∧ ∀ j, thereB (foldK t.nx (limT t.nx t.bs t.cp) p bz t.l (bz.size + 1)).1 j = true ↔ thereB t.l j = true ∨ (p ≤ j ∧ j < p + bz.size ∧ t.nx ≤ j ∧ j < limT t.nx t.bs t.cp) := by
  obtain ⟨hin, hq, he⟩ := ok_iff.1 h
  have inv := inv_fold hp hz (okQ_weak (show t.nx ≤ t.nx + 1 by omega) hq) (bz.size + 1) (Nat.le_refl _)
  have hfr : (foldK t.nx (limT t.nx t.bs t.cp) p bz t.l (bz.size + 1)).2.1 = -1 := by
    rcases inv.run with q | q
    · exact q
    · omega
  refine ⟨inv.ok, fun j => ?_⟩
  rw [inv.cov j, hfr, if_pos (by decide)]
  constructor
  · rintro (q | q)
    · exact .inl q
    · exact .inr ⟨q.1, q.2.2.2.2, q.2.2.1, q.2.2.2.1⟩
  · rintro (q | q)
    · exact .inl q
    · exact .inr ⟨q.1, by omega, q.2.2.1, q.2.2.2, q.2.1⟩
theorem take_ok {t : Tk} (h : t.ok = true) (p : Int) (bz : ByteArray) (e : Bool) : (takeT t p bz e).1.ok = true := by
  by_cases hb : takeBad t p bz e
  · simp only [takeT]; rw [if_pos hb]; exact h
  · obtain ⟨hin, hq, he⟩ := ok_iff.1 h
    obtain ⟨⟨i1, i2⟩, ⟨i3, i4⟩, ⟨i5, i6⟩, i7⟩ := hin
    obtain ⟨e1, e2, e3⟩ := end_iff.1 he
    unfold takeBad at hb
    simp only [not_or, not_and] at hb
    obtain ⟨b1, b2, b3, b4, b5⟩ := hb
    have hp := Num.pl_t (by simpa using b1 : Num.plB p = true)
    have hs := Num.pl_t (by simpa using b2 : Num.plB (p + bz.size) = true)
    obtain ⟨f1, f2⟩ := fold_all h hp.1 (by omega : bz.size ≤ 40)
    have hlast := Num.pl_t e3
    obtain ⟨j1, j2, j3, j4, j5, j6, tl, j7⟩ := join_all (bs := t.bs) f1
    have hnl : t.nx ≤ lastEnd t.nx t.l := last_ge.last_from (okQ_weak (show t.nx ≤ t.nx + 1 by omega) hq)
    have hbound : lastEnd t.nx (foldK t.nx (limT t.nx t.bs t.cp) p bz t.l (bz.size + 1)).1 ≤ lastEnd t.nx t.l ∨ lastEnd t.nx (foldK t.nx (limT t.nx t.bs t.cp) p bz t.l (bz.size + 1)).1 ≤ p + bz.size := by
      generalize (foldK t.nx (limT t.nx t.bs t.cp) p bz t.l (bz.size + 1)).1 = L at *
      by_cases hL : L = []
      · subst hL; exact .inl hnl
      · have hth := last_there f1 hL
        rcases (f2 _).1 hth with z | z
        · by_cases c : lastEnd t.nx t.l ≤ lastEnd t.nx L - 1
          · have := there_hi (okQ_weak (show t.nx ≤ t.nx + 1 by omega) hq) c
            rw [this] at z; cases z
          · exact .inl (by omega)
        · exact .inr (by omega)
    have hlimle : lastEnd t.nx (foldK t.nx (limT t.nx t.bs t.cp) p bz t.l (bz.size + 1)).1 ≤ limT t.nx t.bs t.cp := last_le f1 (by unfold limT; omega)
    have hlim2 : limT (joinT t.nx t.bs (foldK t.nx (limT t.nx t.bs t.cp) p bz t.l (bz.size + 1)).1).1 (joinT t.nx t.bs (foldK t.nx (limT t.nx t.bs t.cp) p bz t.l (bz.size + 1)).1).2.1 t.cp = limT t.nx t.bs t.cp := by
      unfold limT at *
      omega
    have hlen := okQ_len j1
    have htk : takeT t p bz e = (⟨(joinT t.nx t.bs (foldK t.nx (limT t.nx t.bs t.cp) p bz t.l (bz.size + 1)).1).1, (joinT t.nx t.bs (foldK t.nx (limT t.nx t.bs t.cp) p bz t.l (bz.size + 1)).1).2.1, (joinT t.nx t.bs (foldK t.nx (limT t.nx t.bs t.cp) p bz t.l (bz.size + 1)).1).2.2, t.cp, (if e = true ∧ t.fi < 0 then p + bz.size else t.fi), decide ((if e = true ∧ t.fi < 0 then p + bz.size else t.fi) = (joinT t.nx t.bs (foldK t.nx (limT t.nx t.bs t.cp) p bz t.l (bz.size + 1)).1).1)⟩, (takeT t p bz e).2) := by
      simp only [takeT]
      rw [if_neg (show ¬ takeBad t p bz e by unfold takeBad; simp only [not_or, not_and]; exact ⟨b1, b2, b3, b4, b5⟩)]
    rw [htk]
    have hlimv : limT t.nx t.bs t.cp = t.nx - t.bs.size + t.cp := rfl
    generalize joinT t.nx t.bs (foldK t.nx (limT t.nx t.bs t.cp) p bz t.l (bz.size + 1)).1 = J at *
    generalize lastEnd t.nx (foldK t.nx (limT t.nx t.bs t.cp) p bz t.l (bz.size + 1)).1 = E at *
    obtain ⟨jn, jb, jl⟩ := J
    simp only at j1 j2 j3 j4 j5 j6 j7 hlim2 hlen
    refine ok_iff.2 ⟨⟨⟨i1, i2⟩, ⟨by show 0 ≤ jn; omega, by show jn ≤ 1000000000; rcases hbound with z | z <;> omega⟩, ⟨by show (jb.size : Int) ≤ t.cp; omega, by show (jb.size : Int) ≤ jn; omega⟩, by show jl.length ≤ 400; omega⟩, ?_, ?_⟩
    · show okQ (limT jn jb t.cp) (jn + 1) jl
      rw [hlim2]; exact j1
    · show endB _ (lastEnd jn jl) jn _ = true
      rw [j4]
      refine end_iff.2 ⟨?_, rfl, Num.pl_yes ⟨by omega, by rcases hbound with z | z <;> omega⟩⟩
      show ((if e = true ∧ t.fi < 0 then p + (bz.size : Int) else t.fi) = -1 ∨ _)
      by_cases c : e = true ∧ t.fi < 0
      · refine .inr ?_
        show Num.plB (if e = true ∧ t.fi < 0 then p + (bz.size : Int) else t.fi) = true ∧ E ≤ (if e = true ∧ t.fi < 0 then p + (bz.size : Int) else t.fi)
        rw [if_pos c]
        refine ⟨Num.pl_yes hs, ?_⟩
        have := (b5 c.1).1
        rcases hbound with z | z <;> omega
      · rcases e1 with z | z
        · exact .inl (by rw [if_neg c]; exact z)
        · refine .inr ?_
          show Num.plB (if e = true ∧ t.fi < 0 then p + (bz.size : Int) else t.fi) = true ∧ E ≤ (if e = true ∧ t.fi < 0 then p + (bz.size : Int) else t.fi)
          rw [if_neg c]
          refine ⟨z.1, ?_⟩
          have hf := Num.pl_t z.1
          have := b4 hf.1
          rcases hbound with y | y <;> omega
end Go.Proofs.Ytldghgadkncehaa.Tak
