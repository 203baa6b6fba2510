/- Contracts of this seat's functions, and their mathematics (HopEL TakL). -/
import Derived.Test.YtldghgadkncehaaM40
import Derived.Test.YtldghgadkncehaaM45
import Derived.Test.YtldghgadkncehaaM14
set_option linter.unusedVariables false
set_option linter.unusedSimpArgs false
namespace Go.Proofs.Ytldghgadkncehaa.Hop
open Go.RowKit RowG
end Go.Proofs.Ytldghgadkncehaa.Hop
namespace Go.Proofs.Ytldghgadkncehaa.Tak
/-- What was taken, written out. -/
theorem take_good {t : Tk} {p : Int} {bz : ByteArray} {e : Bool} (hb : ¬ takeBad t p bz e) {L : List Pt} {fr : Int} {b : Bool} (hf : foldK t.nx (limT t.nx t.bs t.cp) p bz t.l (bz.size + 1) = (L, fr, b)) :
    takeT t p bz e = (⟨(joinT t.nx t.bs L).1, (joinT t.nx t.bs L).2.1, (joinT t.nx t.bs L).2.2, t.cp, (if e = true ∧ t.fi < 0 then p + bz.size else t.fi), decide ((if e = true ∧ t.fi < 0 then p + bz.size else t.fi) = (joinT t.nx t.bs L).1)⟩, b || (e && decide (t.fi < 0))) := by
  simp only [takeT]
  rw [if_neg hb, hf]
theorem take_bad {t : Tk} {p : Int} {bz : ByteArray} {e : Bool} (hb : takeBad t p bz e) : takeT t p bz e = (t, false) := by
  simp only [takeT]
  rw [if_pos hb]
theorem bad_not {t : Tk} {p : Int} {bz : ByteArray} {e : Bool} (hb : ¬ takeBad t p bz e) : (0 ≤ p ∧ p ≤ 1000000000) ∧ (0 ≤ p + bz.size ∧ p + bz.size ≤ 1000000000) ∧ bz.size ≤ 40 ∧ (0 ≤ t.fi → p + bz.size ≤ t.fi) ∧ (e = true → lastEnd t.nx t.l ≤ p + bz.size ∧ (0 ≤ t.fi → t.fi = p + bz.size)) := by
  unfold takeBad at hb
  simp only [not_or, not_and] at hb
  obtain ⟨b1, b2, b3, b4, b5⟩ := hb
  have hp := Num.pl_t (by simpa using b1 : Num.plB p = true)
  have hs := Num.pl_t (by simpa using b2 : Num.plB (p + bz.size) = true)
  refine ⟨hp, hs, by omega, fun h => by have := b4 h; omega, fun h => ⟨by have := (b5 h).1; omega, fun q => ?_⟩⟩
  have := (b5 h).2 q
  omega
theorem fold_false {nx lim p : Int} {bz : ByteArray} {l : List Pt} : ∀ n : Nat, (foldK nx lim p bz l n).2.2 = false → (foldK nx lim p bz l n).1 = l
  | 0, _ => rfl
  | n + 1, h => by
    rw [foldK_succ] at h ⊢
    have ih := fold_false (nx := nx) (lim := lim) (p := p) (bz := bz) (l := l) n
    generalize foldK nx lim p bz l n = st at *
    unfold stepK at h ⊢
    split at h
    next hf =>
      rw [if_pos hf]
      split at h
      next hn => rw [if_pos hn]; exact ih h
      next hn => rw [if_neg hn]; exact ih h
    next hf =>
      rw [if_neg hf]
      split at h
      next hn => cases h
      next hn => rw [if_neg hn]; exact ih h
theorem join_none {lim : Int} {nx : Int} {bs : ByteArray} {l : List Pt} (h : okQ lim (nx + 1) l) : joinT nx bs l = (nx, bs, l) := by
  cases l with
  | nil => rfl
  | cons q r =>
    have := h.2.1
    rw [joinT, if_neg (by omega)]
theorem take_same {t : Tk} (h : t.ok = true) {p : Int} {bz : ByteArray} {e : Bool} (hc : (takeT t p bz e).2 = false) : (takeT t p bz e).1 = t := by
  by_cases hb : takeBad t p bz e
  · rw [take_bad hb]
  · obtain ⟨L, fr, b, hf⟩ : ∃ L fr b, foldK t.nx (limT t.nx t.bs t.cp) p bz t.l (bz.size + 1) = (L, fr, b) := ⟨_, _, _, rfl⟩
    rw [take_good hb hf] at hc ⊢
    simp only [Bool.or_eq_false_iff] at hc
    have hL : L = t.l := by
      have := fold_false (nx := t.nx) (lim := limT t.nx t.bs t.cp) (p := p) (bz := bz) (l := t.l) (bz.size + 1)
      rw [hf] at this
      exact this hc.1
    obtain ⟨hin, hq, he⟩ := ok_iff.1 h
    have hn : ¬ (e = true ∧ t.fi < 0) := fun q => by
      have := hc.2
      rw [q.1, decide_eq_true q.2] at this
      cases this
    rw [hL, join_none hq, if_neg hn]
    have := (end_iff.1 he).2.1
    simp only []
    rw [← this]
theorem fold_none {nx lim p : Int} {bz : ByteArray} {l : List Pt} (h : ∀ k, p ≤ k → k < p + bz.size → freshB nx lim (p + bz.size) l k = false) : ∀ n : Nat, n ≤ bz.size + 1 → foldK nx lim p bz l n = (l, -1, false)
  | 0, _ => rfl
  | n + 1, hn => by
    rw [foldK_succ, fold_none h n (by omega)]
    have hf : freshB nx lim (p + bz.size) l (p + n) = false := by
      by_cases c : p + (n : Int) < p + bz.size
      · exact h _ (by omega) c
      · simp only [freshB]
        rw [decide_eq_false c]
        rfl
    unfold stepK
    simp only []
    rw [if_neg (by rw [hf]; exact Bool.false_ne_true), if_neg (by decide)]
/-- What is known of what was taken. -/
theorem take_facts {t : Tk} (h : t.ok = true) {p : Int} {bz : ByteArray} {e : Bool} (hb : ¬ takeBad t p bz e) :
    t.nx ≤ (takeT t p bz e).1.nx ∧ (∃ tl, (takeT t p bz e).1.bs = t.bs ++ tl) ∧ ((takeT t p bz e).1.bs.size : Int) = t.bs.size + ((takeT t p bz e).1.nx - t.nx) ∧ limT (takeT t p bz e).1.nx (takeT t p bz e).1.bs (takeT t p bz e).1.cp = limT t.nx t.bs t.cp ∧ (takeT t p bz e).1.cp = t.cp ∧ (takeT t p bz e).1.fi = (if e = true ∧ t.fi < 0 then p + bz.size else t.fi) ∧
      (∀ j, (thereB t.l j = true ∨ (p ≤ j ∧ j < p + bz.size ∧ t.nx ≤ j ∧ j < limT t.nx t.bs t.cp)) ↔ (t.nx ≤ j ∧ j < (takeT t p bz e).1.nx) ∨ thereB (takeT t p bz e).1.l j = true) := by
  obtain ⟨L, fr, b, hf⟩ : ∃ L fr b, foldK t.nx (limT t.nx t.bs t.cp) p bz t.l (bz.size + 1) = (L, fr, b) := ⟨_, _, _, rfl⟩
  obtain ⟨hp, hs, hz, _, _⟩ := bad_not hb
  obtain ⟨f1, f2⟩ := fold_all h hp.1 hz
  rw [take_good hb hf]
  rw [hf] at f1 f2
  simp only at f1 f2
  obtain ⟨j1, j2, j3, j4, j5, j6, tl, j7⟩ := join_all (bs := t.bs) f1
  refine ⟨j2, ⟨tl, j7⟩, j3, ?_, rfl, rfl, fun j => ?_⟩
  · show limT (joinT t.nx t.bs L).1 (joinT t.nx t.bs L).2.1 t.cp = limT t.nx t.bs t.cp
    unfold limT
    omega
  · rw [← f2 j, j5 j]
theorem take_again {t : Tk} (h : t.ok = true) {p : Int} {bz : ByteArray} {e : Bool} (hb : ¬ takeBad t p bz e) : (takeT (takeT t p bz e).1 p bz e).2 = false := by
  obtain ⟨a1, a2, a3, a4, a5, a6, a7⟩ := take_facts h hb
  generalize hx : (takeT t p bz e).1 = x at *
  by_cases hb2 : takeBad x p bz e
  · rw [take_bad hb2]
  · have hno : ∀ k, p ≤ k → k < p + bz.size → freshB x.nx (limT x.nx x.bs x.cp) (p + bz.size) x.l k = false := fun k c1 c2 => by
      cases hf : freshB x.nx (limT x.nx x.bs x.cp) (p + bz.size) x.l k with
      | false => rfl
      | true =>
        obtain ⟨g1, g2, g3, g4⟩ := fresh_iff.1 hf
        rw [a4] at g3
        rcases (a7 k).1 (.inr ⟨c1, c2, by omega, g3⟩) with z | z
        · omega
        · rw [g4] at z; cases z
    rw [take_good hb2 (fold_none hno (bz.size + 1) (Nat.le_refl _))]
    simp only [Bool.false_or]
    cases e
    · rfl
    · obtain ⟨hp, hs, _, _, _⟩ := bad_not hb
      have : ¬ x.fi < 0 := by
        rw [a6]
        split
        · omega
        · rename_i q
          intro z
          exact q ⟨rfl, z⟩
      rw [decide_eq_false this]
      rfl
end Go.Proofs.Ytldghgadkncehaa.Tak
