/- Mathematics of the program's Takes: what is gathered is what is joined; a row that rises strictly is known by its members; plain. · Mathematics of the program's Takes: the walk place by place puts just the runs of the holes; so what the program's Takes answers is what the specification's answers; plain. · A taker over the pieces of one text (FnOnce): plain mathematics of chapter 5; texts of at most 100 bytes. · The program's Takes as the specification's; and on a taker of a text of which pieces come (FnOnce). -/
import Derived.Test.YtjnkjeajkmgcmaaGreatTks
import Derived.Test.YtjnkjeajkmgcmaaGreatMg17
import Derived.Test.YtjnkjeajkmgcmaaGreatMg11
namespace Go.Proofs.YtjnkjeajkmgcmaaGreat.Tak
open RowG
set_option linter.unusedVariables false
set_option linter.unusedSimpArgs false

theorem gath_rest : ∀ (l : List Pt) (b nx : Int) (bs : ByteArray) (q : List Pt), q ≠ [] → (pairs b l).foldl gstep (nx, bs, q) = (nx, bs, q ++ l)
  | [], b, nx, bs, q, _ => by simp [pairs]
  | p :: l, b, nx, bs, q, hq => by
    rw [pairs, List.foldl_cons, gstep, if_pos (.inr hq), gath_rest l _ nx bs (q ++ [p]) (by simp)]
    simp
theorem gath_fold {lim : Int} : ∀ (l : List Pt) (nx : Int) (bs : ByteArray), okQ lim nx l → (pairs nx l).foldl gstep (nx, bs, []) = joinT nx bs l
  | [], nx, bs, _ => rfl
  | p :: l, nx, bs, ⟨h1, h2, h3, h4⟩ => by
    rw [pairs, List.foldl_cons, joinT]
    by_cases hc : p.1 = nx
    · rw [if_pos hc, gstep, if_neg (by simp; omega)]
      exact gath_fold l (endP p) (bs ++ p.2) h4
    · rw [if_neg hc, gstep, if_pos (.inl (by show nx < p.1; omega)), gath_rest l _ nx bs _ (by simp)]
      rfl
theorem gath_join {lim nx : Int} {bs : ByteArray} {l : List Pt} (h : okQ lim nx l) : gath nx bs l (pairs nx l).length = joinT nx bs l := by
  unfold gath
  rw [List.take_of_length_le (Nat.le_refl _)]
  exact gath_fold l nx bs h

theorem okQ_mem {lim : Int} : ∀ {l : List Pt} {lo : Int}, okQ lim lo l → ∀ q ∈ l, lo ≤ q.1
  | [], _, _, q, hq => by cases hq
  | p :: l, lo, ⟨h1, h2, h3, h4⟩, q, hq => by
    rcases List.mem_cons.1 hq with rfl | hq
    · exact h2
    · have := okQ_mem h4 q hq
      have := end_gt h1.1
      omega
theorem okQ_rise {lim : Int} : ∀ {l : List Pt} {lo : Int}, okQ lim lo l → l.Pairwise fun x y => x.1 < y.1
  | [], _, _ => List.Pairwise.nil
  | p :: l, lo, ⟨h1, h2, h3, h4⟩ => by
    refine List.Pairwise.cons (fun q hq => ?_) (okQ_rise h4)
    have := okQ_mem h4 q hq
    have := end_gt h1.1
    omega
theorem rise_eq : ∀ {l r : List Pt}, r.Perm l → l.Pairwise (fun x y => x.1 < y.1) → r.Pairwise (fun x y => x.1 ≤ y.1) → r = l
  | [], r, h, _, _ => List.Perm.eq_nil h
  | p :: l, [], h, _, _ => by have := h.length_eq; simp at this
  | p :: l, q :: r, h, hl, hr => by
    obtain ⟨hl1, hl2⟩ := List.pairwise_cons.1 hl
    obtain ⟨hr1, hr2⟩ := List.pairwise_cons.1 hr
    have e : q = p := by
      rcases List.mem_cons.1 (h.mem_iff.1 (List.mem_cons_self ..)) with e | e
      · exact e
      · have h1 := hl1 q e
        rcases List.mem_cons.1 (h.mem_iff.2 (List.mem_cons_self ..)) with e2 | e2
        · exact e2.symm
        · have h2 := hr1 p e2
          omega
    subst e
    rw [rise_eq (List.Perm.cons_inv h) hl2 hr2]

end Go.Proofs.YtjnkjeajkmgcmaaGreat.Tak

namespace Go.Proofs.YtjnkjeajkmgcmaaGreat.Tak
open RowG
set_option linter.unusedVariables false
set_option linter.unusedSimpArgs false

def runK (nx lim p : Int) (bz : ByteArray) : List Pt × Int × Bool → Int → Nat → List Pt × Int × Bool
  | st, _, 0 => st
  | st, a, n + 1 => runK nx lim p bz (stepK nx lim p bz st a) (a + 1) n
theorem runK_add (nx lim p : Int) (bz : ByteArray) : ∀ (m n : Nat) (st : List Pt × Int × Bool) (a : Int), runK nx lim p bz st a (m + n) = runK nx lim p bz (runK nx lim p bz st a m) (a + m) n
  | 0, n, st, a => by simp [runK]
  | m + 1, n, st, a => by
    rw [show m + 1 + n = (m + n) + 1 by omega, runK, runK, runK_add nx lim p bz m n, show a + 1 + (m : Int) = a + ((m + 1 : Nat) : Int) by omega]
theorem foldK_run (nx lim p : Int) (bz : ByteArray) (l : List Pt) : ∀ n : Nat, foldK nx lim p bz l n = runK nx lim p bz (l, -1, false) p n
  | 0 => rfl
  | n + 1 => by
    rw [foldK_succ, foldK_run nx lim p bz l n, runK_add nx lim p bz n 1]
    rfl
theorem runK_idle {nx lim p : Int} {bz : ByteArray} {L : List Pt} {fr : Int} {b : Bool} (hfr : fr < 0) : ∀ (n : Nat) (a : Int), (∀ k, a ≤ k → k < a + n → freshB nx lim (p + bz.size) L k = false) → runK nx lim p bz (L, fr, b) a n = (L, fr, b)
  | 0, a, _ => rfl
  | n + 1, a, h => by
    rw [runK, stepK, if_neg (by show ¬ freshB nx lim (p + bz.size) L a = true; rw [h a (Int.le_refl _) (by omega)]; decide), if_neg (by show ¬ 0 ≤ fr; omega)]
    exact runK_idle hfr n (a + 1) (fun k h1 h2 => h k (by omega) (by omega))
theorem runK_open {nx lim p : Int} {bz : ByteArray} {L : List Pt} {fr : Int} {b : Bool} (hfr : 0 ≤ fr) : ∀ (n : Nat) (a : Int), (∀ k, a ≤ k → k < a + n → freshB nx lim (p + bz.size) L k = true) → runK nx lim p bz (L, fr, b) a n = (L, fr, b)
  | 0, a, _ => rfl
  | n + 1, a, h => by
    rw [runK, stepK, if_pos (h a (Int.le_refl _) (by omega)), if_neg (by show ¬ fr < 0; omega)]
    exact runK_open hfr n (a + 1) (fun k h1 h2 => h k (by omega) (by omega))
theorem putR_perm (q : Pt) : ∀ L : List Pt, (putR L q).Perm (L ++ [q])
  | [] => List.Perm.refl _
  | x :: r => by
    rw [putR]
    split
    · exact (putR_perm q r).cons x
    · have := List.perm_append_comm (l₁ := [q]) (l₂ := x :: r)
      simpa using this
theorem ne_iff (q : Pt) : ne q = decide (0 < q.2.size) := by
  unfold ne
  have e : q.2.toList.length = q.2.size := by rw [ByteArray.toList_eq]; simp
  cases h : q.2.toList with
  | nil => rw [h] at e; simp at e; simp [← e]
  | cons x r => rw [h] at e; simp at e; simp [← e]
theorem ne_zero : ne (0, ⟨#[]⟩) = false := by rw [ne_iff]; rfl
theorem runK_hole {nx lim p : Int} {bz : ByteArray} {L : List Pt} {fl : Bool} {b c d : Int} (hp : 0 ≤ p) (hb : nx ≤ b) (hbc : b ≤ c) (hcd : c < d) (hcl : c ≤ lim) (h1 : ∀ k, b ≤ k → k < c → thereB L k = false) (h2 : ∀ k, c ≤ k → k < d → thereB L k = true ∨ lim ≤ k) :
    ∃ L', runK nx lim p bz (L, -1, fl) (max p b) (max p d - max p b).toNat = (L', -1, fl || ne (withinP p bz b c)) ∧ L'.Perm (L ++ [withinP p bz b c].filter ne) ∧ ∀ k, c ≤ k → thereB L' k = thereB L k := by
  by_cases hm : min c (p + bz.size) ≤ max b p
  · have e : withinP p bz b c = (0, ⟨#[]⟩) := by unfold withinP; rw [if_pos hm]
    refine ⟨L, ?_, ?_, fun _ _ => rfl⟩
    · rw [e]
      rw [runK_idle (by decide)]
      · rw [ne_zero, Bool.or_false]
      · intro k k1 k2
        cases hf : freshB nx lim (p + bz.size) L k
        · rfl
        · obtain ⟨f1, f2, f3, f4⟩ := fresh_iff.1 hf
          exfalso
          rcases h2 k (by omega) (by omega) with g | g
          · rw [g] at f4; cases f4
          · omega
    · rw [e]
      have : ([((0 : Int), (⟨#[]⟩ : ByteArray))].filter ne) = [] := List.filter_cons_of_neg (by rw [ne_zero]; decide)
      rw [this, List.append_nil]
  · obtain ⟨m, hmm⟩ : ∃ m, m = min c (p + bz.size) := ⟨_, rfl⟩
    obtain ⟨a, haa⟩ : ∃ a, a = max p b := ⟨_, rfl⟩
    have ham : a < m := by omega
    have e : withinP p bz b c = (a, bz.extract (a - p).toNat (m - p).toNat) := by
      unfold withinP
      rw [if_neg hm, ← hmm, show max b p = a by omega]
    have hs : (bz.extract (a - p).toNat (m - p).toNat).size = (m - p).toNat - (a - p).toNat := ext_size _ _ _ (by omega)
    have hq : endP (a, bz.extract (a - p).toNat (m - p).toNat) = m := by
      show a + ((bz.extract (a - p).toNat (m - p).toNat).size : Int) = m
      rw [hs]; omega
    have hne : ne (a, bz.extract (a - p).toNat (m - p).toNat) = true := by rw [ne_iff]; simp only [hs]; simp; omega
    have ht : ∀ k, thereB (putP L (a, bz.extract (a - p).toNat (m - p).toNat)) k = true ↔ thereB L k = true ∨ (a ≤ k ∧ k < m) := fun k => by
      rw [put_eq, put_there, hq]
    have hfr : ∀ k, a ≤ k → k < m → freshB nx lim (p + bz.size) L k = true := fun k k1 k2 => fresh_iff.2 ⟨by omega, by omega, by omega, h1 k (by omega) (by omega)⟩
    have hnf : freshB nx lim (p + bz.size) L m = false := by
      cases hf : freshB nx lim (p + bz.size) L m
      · rfl
      · obtain ⟨f1, f2, f3, f4⟩ := fresh_iff.1 hf
        exfalso
        rcases h2 m (by omega) (by omega) with g | g
        · rw [g] at f4; cases f4
        · omega
    refine ⟨putP L (a, bz.extract (a - p).toNat (m - p).toNat), ?_, ?_, ?_⟩
    · rw [e, hne, Bool.or_true, ← haa]
      obtain ⟨n1, hn1⟩ : ∃ n1 : Nat, m = a + 1 + n1 := ⟨(m - a - 1).toNat, by omega⟩
      obtain ⟨n2, hn2⟩ : ∃ n2 : Nat, (max p d - a).toNat = (n1 + 1) + (n2 + 1) := ⟨(max p d - a).toNat - (n1 + 1) - 1, by omega⟩
      rw [hn2, runK_add]
      have s1 : runK nx lim p bz (L, -1, fl) a (n1 + 1) = (L, a, fl) := by
        rw [runK, stepK, if_pos (hfr a (Int.le_refl _) ham), if_pos (show (-1 : Int) < 0 by decide)]
        exact runK_open (by omega) n1 (a + 1) (fun k k1 k2 => hfr k (by omega) (by omega))
      rw [s1, runK, show a + ((n1 + 1 : Nat) : Int) = m by omega, stepK, if_neg (by show ¬ freshB nx lim (p + bz.size) L m = true; rw [hnf]; decide), if_pos (show 0 ≤ a by omega)]
      refine runK_idle (by decide) n2 (m + 1) (fun k k1 k2 => ?_)
      cases hf : freshB nx lim (p + bz.size) (putP L (a, bz.extract (a - p).toNat (m - p).toNat)) k
      · rfl
      · obtain ⟨f1, f2, f3, f4⟩ := fresh_iff.1 hf
        exfalso
        rcases h2 k (by omega) (by omega) with g | g
        · rw [(ht k).2 (.inl g)] at f4; cases f4
        · omega
    · rw [e, put_eq]
      have : [((a : Int), bz.extract (a - p).toNat (m - p).toNat)].filter ne = [(a, bz.extract (a - p).toNat (m - p).toNat)] := by rw [List.filter_cons_of_pos hne]; rfl
      rw [this]
      exact putR_perm _ _
    · intro k hk
      cases hx : thereB L k
      · cases hy : thereB (putP L (a, bz.extract (a - p).toNat (m - p).toNat)) k
        · rfl
        · rcases (ht k).1 hy with g | g
          · rw [hx] at g; cases g
          · omega
      · exact (ht k).2 (.inl hx)
theorem runs_cons (b lim : Int) (x : Pt) (l : List Pt) (p : Int) (bz : ByteArray) : runsL b lim (x :: l) p bz = [withinP p bz b x.1].filter ne ++ runsL (endP x) lim l p bz := by
  unfold runsL
  rw [lastEnd_cons, pairs, List.map_cons, ← List.append_assoc]
  congr 1
  rw [← List.filter_append]
  rfl
theorem empty_or {α : Type} (p : α → Bool) (x : α) (r : List α) (fl : Bool) : ((fl || p x) || !r.isEmpty) = (fl || !([x].filter p ++ r).isEmpty) := by
  cases h : p x
  · rw [List.filter_cons_of_neg (by rw [h]; decide)]; simp
  · rw [List.filter_cons_of_pos h]; simp
theorem runK_holes {nx lim p : Int} {bz : ByteArray} (hp : 0 ≤ p) : ∀ (l : List Pt) (b : Int) (L : List Pt) (fl : Bool) (n : Nat), okQ lim b l → nx ≤ b → b ≤ lim → (∀ k, b ≤ k → thereB L k = thereB l k) → max lim (p + bz.size) + 1 ≤ max p b + n →
    ∃ L', runK nx lim p bz (L, -1, fl) (max p b) n = (L', -1, fl || !(runsL b lim l p bz).isEmpty) ∧ L'.Perm (L ++ runsL b lim l p bz)
  | [], b, L, fl, n, h0, hb, hbl, hth, hn => by
    obtain ⟨L', e1, e2, e3⟩ := runK_hole (nx := nx) (lim := lim) (p := p) (bz := bz) (L := L) (fl := fl) (b := b) (c := lim) (d := max lim (p + bz.size) + 1) hp hb hbl (by omega) (Int.le_refl _) (fun k k1 k2 => by rw [hth k k1]; rfl) (fun k k1 k2 => .inr k1)
    refine ⟨L', ?_, ?_⟩
    · obtain ⟨n2, hn2⟩ : ∃ n2, n = (max p (max lim (p + bz.size) + 1) - max p b).toNat + n2 := ⟨n - (max p (max lim (p + bz.size) + 1) - max p b).toNat, by omega⟩
      rw [hn2, runK_add, e1]
      rw [runK_idle (by decide)]
      · have := empty_or ne (withinP p bz b lim) [] fl
        simp only [List.isEmpty_nil, Bool.not_true, Bool.or_false, List.append_nil] at this
        rw [this]
        rfl
      · intro k k1 k2
        cases hf : freshB nx lim (p + bz.size) L' k
        · rfl
        · obtain ⟨f1, f2, f3, f4⟩ := fresh_iff.1 hf
          omega
    · exact e2
  | x :: l, b, L, fl, n, ⟨h1, h2, h3, h4⟩, hb, hbl, hth, hn => by
    have hx := end_gt h1.1
    obtain ⟨L1, e1, e2, e3⟩ := runK_hole (nx := nx) (lim := lim) (p := p) (bz := bz) (L := L) (fl := fl) (b := b) (c := x.1) (d := endP x) hp hb h2 hx (by omega) (fun k k1 k2 => by
        rw [hth k k1]
        cases hy : thereB (x :: l) k
        · rfl
        · rcases (there_cons x l k).1 hy with g | g
          · omega
          · rw [there_lo h4 (by omega)] at g; cases g) (fun k k1 k2 => .inl (by rw [hth k (by omega)]; exact (there_cons x l k).2 (.inl ⟨k1, k2⟩)))
    obtain ⟨n2, hn2⟩ : ∃ n2, n = (max p (endP x) - max p b).toNat + n2 := ⟨n - (max p (endP x) - max p b).toNat, by omega⟩
    obtain ⟨L', g1, g2⟩ := runK_holes (nx := nx) (bz := bz) hp l (endP x) L1 (fl || ne (withinP p bz b x.1)) n2 h4 (by omega) h3 (fun k hk => by
        rw [e3 k (by omega), hth k (by omega)]
        cases hy : thereB l k
        · cases hz : thereB (x :: l) k
          · rfl
          · rcases (there_cons x l k).1 hz with g | g
            · omega
            · rw [hy] at g; cases g
        · exact (there_cons x l k).2 (.inr hy)) (by omega)
    refine ⟨L', ?_, ?_⟩
    · rw [hn2, runK_add, e1, show max p b + ((max p (endP x) - max p b).toNat : Int) = max p (endP x) by omega, g1, runs_cons]
      rw [empty_or]
    · rw [runs_cons, ← List.append_assoc]
      exact g2.trans (e2.append_right _)
theorem fold_runs {nx lim p : Int} {bz : ByteArray} {l : List Pt} (hp : 0 ≤ p) (hl : okQ lim nx l) (hm : nx ≤ lim) :
    ∃ L, foldK nx lim p bz l (bz.size + 1) = (L, -1, !(runsL nx lim l p bz).isEmpty) ∧ L.Perm (l ++ runsL nx lim l p bz) := by
  obtain ⟨L, e1, e2⟩ := runK_holes (nx := nx) (lim := lim) (p := p) (bz := bz) hp l nx l false (max lim (p + bz.size) + 1 - max p nx).toNat hl (Int.le_refl _) hm (fun _ _ => rfl) (by omega)
  refine ⟨L, ?_, e2⟩
  have s0 : runK nx lim p bz (l, -1, false) p (max p nx - p).toNat = (l, -1, false) := runK_idle (by decide) _ _ (fun k k1 k2 => by
    cases hf : freshB nx lim (p + bz.size) l k
    · rfl
    · obtain ⟨f1, f2, f3, f4⟩ := fresh_iff.1 hf
      omega)
  have s1 : runK nx lim p bz (l, -1, false) p ((max p nx - p).toNat + (max lim (p + bz.size) + 1 - max p nx).toNat) = (L, -1, !(runsL nx lim l p bz).isEmpty) := by
    rw [runK_add, s0, show p + ((max p nx - p).toNat : Int) = max p nx by omega, e1, Bool.false_or]
  obtain ⟨n2, hn2⟩ : ∃ n2, (max p nx - p).toNat + (max lim (p + bz.size) + 1 - max p nx).toNat = (bz.size + 1) + n2 := ⟨(max p nx - p).toNat + (max lim (p + bz.size) + 1 - max p nx).toNat - (bz.size + 1), by omega⟩
  rw [hn2, runK_add] at s1
  rw [foldK_run]
  obtain ⟨L0, fr0, b0, h0⟩ : ∃ L0 fr0 b0, runK nx lim p bz (l, -1, false) p (bz.size + 1) = (L0, fr0, b0) := ⟨_, _, _, rfl⟩
  have hneg : fr0 < 0 := by
    rw [runK_add nx lim p bz bz.size 1] at h0
    generalize runK nx lim p bz (l, -1, false) p bz.size = st at h0
    rw [runK, runK, stepK] at h0
    rw [if_neg (by
      intro hf
      obtain ⟨f1, f2, f3, f4⟩ := fresh_iff.1 hf
      omega)] at h0
    split at h0
    · injection h0 with _ h0; injection h0 with h0 _; omega
    · rename_i hc
      rw [h0] at hc
      exact Int.not_le.1 hc
  rw [h0] at s1 ⊢
  rw [runK_idle hneg] at s1
  · exact s1
  · intro k k1 k2
    cases hf : freshB nx lim (p + bz.size) L0 k
    · rfl
    · obtain ⟨f1, f2, f3, f4⟩ := fresh_iff.1 hf
      omega
theorem takesR_fi {t : Tk} (h : t.ok = true) : t.fi = -1 ∨ 0 ≤ t.fi := by
  obtain ⟨_, _, he⟩ := ok_iff.1 h
  rcases (end_iff.1 he).1 with h1 | h1
  · exact .inl h1
  · exact .inr (Num.pl_t h1.1).1
theorem takesR_eq {t : Tk} {p : Int} {bz : ByteArray} {e : Bool} {res : Tk × Bool} (h : TakesR t p bz e res) : res = takes t p bz e := by
  cases h with
  | bad h0 => unfold takes; rw [if_neg (by rw [h0]; decide)]
  | no h0 h1 => unfold takes; rw [if_pos h0, take_bad ((fits_bad h0 p bz e).1 h1)]
  | same h0 h1 h2 h3 =>
    have hb : ¬ takeBad t p bz e := fun hb => by rw [(fits_bad h0 p bz e).2 hb] at h1; cases h1
    have hz : bz.size ≤ 40 := by unfold takeBad at hb; omega
    have hp : 0 ≤ p := (Num.pl_t (by unfold takeBad at hb; by_cases hx : Num.plB p = true; exact hx; exact absurd (.inl (by simpa using hx)) hb)).1
    obtain ⟨hin, hq, he⟩ := ok_iff.1 h0
    have hlim : t.nx ≤ limT t.nx t.bs t.cp := by unfold inT at hin; unfold limT; omega
    obtain ⟨L, e1, e2⟩ := fold_runs (bz := bz) hp (okQ_weak (show t.nx ≤ t.nx + 1 by omega) hq) hlim
    have hf := takesR_fi h0
    have hc : (takeT t p bz e).2 = false := by
      rw [take_good hb e1, h2]
      have : (e && decide (t.fi < 0)) = false := by
        cases e with
        | false => rfl
        | true =>
          have h4 : (t.fi == -1) = false := h3
          have h5 : t.fi ≠ -1 := by simpa using h4
          simp only [Bool.true_and, decide_eq_false_iff_not]
          omega
      simp [this]
    unfold takes
    rw [if_pos h0]
    refine Prod.ext (take_same h0 hc).symm hc.symm
  | more r rest n' b' fi' h0 h1 h2 h3 h4 h5 =>
    have hb : ¬ takeBad t p bz e := fun hb => by rw [(fits_bad h0 p bz e).2 hb] at h1; cases h1
    have hz : bz.size ≤ 40 := by unfold takeBad at hb; omega
    have hp : 0 ≤ p := (Num.pl_t (by unfold takeBad at hb; by_cases hx : Num.plB p = true; exact hx; exact absurd (.inl (by simpa using hx)) hb)).1
    obtain ⟨hin, hq, he⟩ := ok_iff.1 h0
    have hlim : t.nx ≤ limT t.nx t.bs t.cp := by unfold inT at hin; unfold limT; omega
    obtain ⟨L, e1, e2⟩ := fold_runs (bz := bz) hp (okQ_weak (show t.nx ≤ t.nx + 1 by omega) hq) hlim
    have hL := (fold_all h0 hp hz).1
    rw [e1] at hL
    have hr : r = L := rise_eq (h4.1.trans e2.symm) (okQ_rise hL) h4.2
    subst hr
    rw [gath_join hL] at h5
    have hf := takesR_fi h0
    have hce : (e && t.fi == -1) = true ↔ (e = true ∧ t.fi < 0) := by
      rw [Bool.and_eq_true, beq_iff_eq]
      constructor
      · rintro ⟨a, b⟩; exact ⟨a, by omega⟩
      · rintro ⟨a, b⟩; exact ⟨a, by omega⟩
    have hfi : fi' = (if e = true ∧ t.fi < 0 then p + bz.size else t.fi) := by
      rw [h3]
      by_cases hc : (e && t.fi == -1) = true
      · rw [if_pos hc, if_pos (hce.1 hc)]
      · rw [if_neg hc, if_neg (fun x => hc (hce.2 x))]
    unfold takes
    rw [if_pos h0, take_good hb e1, h5, ← hfi]
    have hfl : (!(runsL t.nx (limT t.nx t.bs t.cp) t.l p bz).isEmpty || (e && decide (t.fi < 0))) = true := by
      cases hru : runsL t.nx (limT t.nx t.bs t.cp) t.l p bz with
      | cons _ _ => rfl
      | nil =>
        by_cases hc : (e && t.fi == -1) = true
        · have := hce.1 hc
          simp [this.1, this.2]
        · exact absurd ⟨hru, by simpa using hc⟩ h2
    have hen : (n' == fi') = decide (fi' = n') := by
      by_cases hx : fi' = n'
      · simp [hx]
      · simp [hx]; omega
    rw [hfl, hen]

end Go.Proofs.YtjnkjeajkmgcmaaGreat.Tak

namespace Go.Proofs.YtjnkjeajkmgcmaaGreat.Tak
set_option linter.unusedVariables false

end Go.Proofs.YtjnkjeajkmgcmaaGreat.Tak

namespace Go.Proofs.YtjnkjeajkmgcmaaGreat.Tak
open Go.RowKit RowG
set_option linter.unusedVariables false
set_option linter.unusedSimpArgs false

theorem implTakes (sortNil : ∀ (cap : Nat) (fv : Value) (w : World), Calls Tryz.prog 99 #[.slice none 0 cap, fv] w fun e w' => e = .returned (.tuple #[]) ∧ w' = w) (nx : Int) (bs : ByteArray) (a : Option Addr) (n0 c : Nat) (cp fi : Int) (en : Bool) (l : List Pt) (p : Int) (bz : ByteArray) (e : Bool) (w : World) (hn : n0 = l.length) (h : partE.Lies w a l) (hl : l.length ≤ 2097152) (hbs : bs.size ≤ 2097152) (hp : Bd l) (ha : a = none → c = 0) (hz : bz.size ≤ 1048576) :
    Calls Tryz.prog 51 #[.agg #[.int .i64 nx, .string bs, .slice a n0 c, .int .i64 cp, .int .i64 fi, .bool en], .int .i64 p, .string bz, .bool e] w fun x w' => ∃ (a' : Option Addr) (c' : Nat), x = .returned (.tuple #[(takes ⟨nx, bs, l, cp, fi, en⟩ p bz e).1.v a' c', .bool (takes ⟨nx, bs, l, cp, fi, en⟩ p bz e).2]) ∧ partE.Own 69 w' w.heap.size a' c' (takes ⟨nx, bs, l, cp, fi, en⟩ p bz e).1.l ∧ Below w.heap.size w w' := by
  refine (implTakesR sortNil nx bs a n0 c cp fi en l p bz e w hn h hl hbs hp ha hz).mono ?_
  rintro x w' ⟨res, hr, a', c', rfl, ho, hb⟩
  have hq := takesR_eq hr
  subst hq
  exact ⟨a', c', rfl, ho, hb⟩
end Go.Proofs.YtjnkjeajkmgcmaaGreat.Tak
