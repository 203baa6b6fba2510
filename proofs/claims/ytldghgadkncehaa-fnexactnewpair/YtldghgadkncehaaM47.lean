/- Contracts of this seat's functions, and their mathematics (TakO HopK). -/
import Derived.Test.YtldghgadkncehaaM46
import Derived.Test.YtldghgadkncehaaM44
set_option linter.unusedVariables false
set_option linter.unusedSimpArgs false
namespace Go.Proofs.Ytldghgadkncehaa.Tak
theorem okQ_lim {lim lim' : Int} (h : lim ≤ lim') : ∀ {l : List Pt} {lo : Int}, okQ lim lo l → okQ lim' lo l
  | [], _, _ => trivial
  | q :: r, lo, ⟨h1, h2, h3, h4⟩ => ⟨h1, h2, by omega, okQ_lim h h4⟩
theorem away_bad {t : Tk} {n : Int} (h : t.ok = false) : takenAway t n = (zeroK, ⟨#[]⟩) := by simp [takenAway, h]
theorem away_out {t : Tk} {n : Int} (h : t.ok = true) (hn : n < 0 ∨ (t.bs.size : Int) < n) : takenAway t n = (t, ⟨#[]⟩) := by simp [takenAway, h, hn]
theorem away_in {t : Tk} {n : Int} (h : t.ok = true) (h0 : 0 ≤ n) (h1 : n ≤ (t.bs.size : Int)) : takenAway t n = ({ t with bs := t.bs.extract n.toNat t.bs.size }, t.bs.extract 0 n.toNat) := by
  have hn : ¬ (n < 0 ∨ (t.bs.size : Int) < n) := by omega
  simp [takenAway, h, hn]
/-- What FnTakenAway asks of what was taken away. -/
theorem away_all {t : Tk} {n : Int} (h : t.ok = true) (h0 : 0 ≤ n) (h1 : n ≤ (t.bs.size : Int)) :
    (takenAway t n).1.ok = true ∧ (takenAway t n).2 ++ (takenAway t n).1.bs = t.bs ∧ ((takenAway t n).2.size : Int) = n ∧ (takenAway t n).1.nx = t.nx ∧ limT (takenAway t n).1.nx (takenAway t n).1.bs (takenAway t n).1.cp = limT t.nx t.bs t.cp + n := by
  rw [away_in h h0 h1]
  obtain ⟨hin, hq, he⟩ := ok_iff.1 h
  obtain ⟨⟨i1, i2⟩, ⟨i3, i4⟩, ⟨i5, i6⟩, i7⟩ := hin
  have hs : (t.bs.extract n.toNat t.bs.size).size = t.bs.size - n.toNat := ext_size _ _ _ (Nat.le_refl _)
  have hl : limT t.nx (t.bs.extract n.toNat t.bs.size) t.cp = limT t.nx t.bs t.cp + n := by
    unfold limT
    omega
  refine ⟨ok_iff.2 ⟨⟨⟨i1, i2⟩, ⟨i3, i4⟩, ⟨?_, ?_⟩, i7⟩, ?_, he⟩, ?_, ?_, rfl, hl⟩
  · show ((t.bs.extract n.toNat t.bs.size).size : Int) ≤ t.cp
    omega
  · show ((t.bs.extract n.toNat t.bs.size).size : Int) ≤ t.nx
    omega
  · show okQ (limT t.nx (t.bs.extract n.toNat t.bs.size) t.cp) (t.nx + 1) t.l
    rw [hl]
    exact okQ_lim (by omega) hq
  · show t.bs.extract 0 n.toNat ++ t.bs.extract n.toNat t.bs.size = t.bs
    rw [ByteArray.extract_append_extract, Nat.max_eq_right (by omega), Nat.min_eq_left (by omega)]
    exact ByteArray.extract_zero_size
  · show ((t.bs.extract 0 n.toNat).size : Int) = n
    rw [ext_size _ _ _ (by omega)]
    omega
theorem away_ok {t : Tk} {n : Int} (h : t.ok = true) : (takenAway t n).1.ok = true := by
  by_cases c : n < 0 ∨ (t.bs.size : Int) < n
  · rw [away_out h c]; exact h
  · exact (away_all h (by omega) (by omega)).1
theorem new_ok {n : Int} (h : capB n = true) : (⟨0, ⟨#[]⟩, [], n, -1, false⟩ : Tk).ok = true := by
  have hn : 1 ≤ n ∧ n ≤ 400 := of_decide_eq_true h
  refine ok_iff.2 ⟨⟨hn, by simp, ⟨by show (0 : Int) ≤ n; omega, by show (0 : Int) ≤ 0; omega⟩, by simp⟩, trivial, by show endB (-1) 0 0 false = true; decide⟩
end Go.Proofs.Ytldghgadkncehaa.Tak
namespace Go.Proofs.Ytldghgadkncehaa.Hop
open Go.RowKit RowG
theorem hop_of {h : Hp} (h1 : h.ws.length ≤ 30) (h2 : h.g.ok = true) (h3 : h.t.ok = true) (h4 : ∀ x ∈ h.ws, letB x = true) : hopB h = true := by
  unfold hopB
  simp only [Bool.and_eq_true, decide_eq_true_eq, List.all_eq_true]
  exact ⟨h4, h2, h3, h1⟩
theorem post_ok {h : Hp} (hb : hopB h = true) (x : Lt) : hopB (postH h x) = true := by
  obtain ⟨h1, h2, h3, h4⟩ := hop_ok hb
  unfold postH
  split
  · rename_i hp
    unfold postB at hp
    simp only [Bool.and_eq_true, Bool.not_eq_true', decide_eq_false_iff_not] at hp
    refine hop_of (by simp; omega) h2 h3 fun y hy => ?_
    rcases List.mem_append.1 hy with q | q
    · exact h4 y q
    · simp at q
      subst q
      exact hp.2
  · exact hb
theorem send_ok {h : Hp} (hb : hopB h = true) (road p n : Int) : hopB (sendH h road p n).1 = true := by
  unfold sendH
  split
  · exact post_ok hb _
  · exact hb
theorem tell_ok {h : Hp} (hb : hopB h = true) (road : Int) (done : Bool) : hopB (tellH h road done).1 = true := post_ok hb _
theorem out_ok {h : Hp} (hb : hopB h = true) (n : Int) : hopB (outH h n).1 = true := by
  obtain ⟨h1, h2, h3, h4⟩ := hop_ok hb
  obtain ⟨⟨y, x, is⟩, hR⟩ : ∃ R, outH h n = R := ⟨_, rfl⟩
  rw [hR]
  cases is
  · have hy : y = h := by
      unfold outH at hR
      split at hR
      · split at hR
        · simp at hR
        · simp only [Prod.mk.injEq] at hR; exact hR.1.symm
      · simp only [Prod.mk.injEq] at hR; exact hR.1.symm
    subst hy
    exact hb
  · obtain ⟨_, hg, ht, hw, hl⟩ := outH_in hR
    exact hop_of (by dsimp only; omega) (by dsimp only; rw [hg]; exact h2) (by dsimp only; rw [ht]; exact h3) fun z hz => h4 z (hw z hz)
theorem come_ok {h : Hp} (hb : hopB h = true) (n : Int) : hopB (comeH h n).1 = true := by
  have ho := out_ok hb n
  unfold comeH
  obtain ⟨⟨y, x, is⟩, hR⟩ : ∃ R, outH h n = R := ⟨_, rfl⟩
  rw [hR] at ho ⊢
  obtain ⟨h1, h2, h3, h4⟩ := hop_ok ho
  cases is
  · exact ho
  · dsimp only at *
    split
    · exact hop_of h1 (Giv.hear_ok h2 _ _ _) h3 h4
    · exact hop_of h1 h2 (Tak.take_ok h3 _ _ _) h4
theorem giver_ok {h : Hp} (hb : hopB h = true) {g : Giv.Gv} (hg : g.ok = true) : hopB ⟨g, h.t, h.ws⟩ = true := by
  obtain ⟨h1, h2, h3, h4⟩ := hop_ok hb
  exact hop_of h1 hg h3 h4
theorem taker_ok {h : Hp} (hb : hopB h = true) {t : Tak.Tk} (ht : t.ok = true) : hopB ⟨h.g, t, h.ws⟩ = true := by
  obtain ⟨h1, h2, h3, h4⟩ := hop_ok hb
  exact hop_of h1 h2 ht h4
theorem end_ok {g : Giv.Gv} (hg : g.ok = true) (e : Bool) : Giv.Gv.ok ⟨g.ba, g.bs, g.cp, g.lm, g.en || e, g.dn⟩ = true := by
  have h := Giv.ok_iff.1 hg
  refine Giv.ok_iff.2 ?_
  obtain ⟨i1, i2, i3, i4, i5, i6, i7⟩ := h
  refine ⟨i1, i2, i3, i4, i5, i6, fun hd => ?_⟩
  obtain ⟨q1, q2⟩ := i7 hd
  exact ⟨by dsimp only; rw [q1]; rfl, q2⟩
theorem newH_ok {a b : Int} (ha : Tak.capB a = true) (hb : Tak.capB b = true) : hopB ⟨⟨0, ⟨#[]⟩, a, 0, false, false⟩, ⟨0, ⟨#[]⟩, [], b, -1, false⟩, []⟩ = true := by
  have hc : 1 ≤ a ∧ a ≤ 400 := by simpa [Tak.capB] using ha
  have hs : (⟨#[]⟩ : ByteArray).size = 0 := rfl
  refine hop_of (Nat.zero_le _) ?_ (Tak.new_ok hb) (fun x hx => by cases hx)
  exact Giv.ok_iff.2 ⟨hc, by dsimp only; omega, by dsimp only; rw [hs]; omega, by dsimp only; rw [hs]; omega, by dsimp only; omega, by dsimp only; omega, fun hd => by cases hd⟩
/-- A right hop is not too great. -/
theorem sm_ok {h : Hp} (hb : hopB h = true) : h.Sm := by
  obtain ⟨h1, h2, h3, h4⟩ := hop_ok hb
  obtain ⟨hbd, htot⟩ := Tak.ok_small h3
  have hin : Tak.inT h.t.nx h.t.bs h.t.l h.t.cp := by
    unfold Tak.Tk.ok Tak.takerB at h3
    simp only [Bool.and_eq_true, decide_eq_true_eq] at h3
    exact h3.1
  unfold Tak.inT at hin
  have hg := Giv.ok_iff.1 h2
  exact ⟨by omega, by omega, by omega, hbd, by omega, fun x hx => by have := (let_in (h4 x hx)).2; omega⟩
end Go.Proofs.Ytldghgadkncehaa.Hop
