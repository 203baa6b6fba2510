/- A right hop stays right, whatever is sent, told, comes or goes; plain. -/
import Derived.Test.YtldghgadkncehaaHopJ
import Derived.Test.YtldghgadkncehaaTakO
namespace Go.Proofs.Ytldghgadkncehaa.Hop
open Go.RowKit RowG
set_option linter.unusedVariables false
set_option linter.unusedSimpArgs false

theorem hop_of {h : Hp} (h1 : h.ws.length ≤ 30) (h2 : h.g.ok = true) (h3 : h.t.ok = true) (h4 : ∀ x ∈ h.ws, letB x = true) : hopB h = true := by
  unfold hopB
  simp only [Bool.and_eq_true, decide_eq_true_eq, List.all_eq_true]
  exact ⟨h4, h2, h3, h1⟩
theorem post_ok {h : Hp} (hb : hopB h = true) (x : Lt) : hopB (postH h x) = true := by
  obtain ⟨h1, h2, h3, h4⟩ := hop_ok hb
  unfold postH
  split
  · rename_i hp
    unfold postB at hp
    simp only [Bool.and_eq_true, Bool.not_eq_true', decide_eq_false_iff_not] at hp
    refine hop_of (by simp; omega) h2 h3 fun y hy => ?_
    rcases List.mem_append.1 hy with q | q
    · exact h4 y q
    · simp at q
      subst q
      exact hp.2
  · exact hb
theorem send_ok {h : Hp} (hb : hopB h = true) (road p n : Int) : hopB (sendH h road p n).1 = true := by
  unfold sendH
  split
  · exact post_ok hb _
  · exact hb
theorem tell_ok {h : Hp} (hb : hopB h = true) (road : Int) (done : Bool) : hopB (tellH h road done).1 = true := post_ok hb _
theorem out_ok {h : Hp} (hb : hopB h = true) (n : Int) : hopB (outH h n).1 = true := by
  obtain ⟨h1, h2, h3, h4⟩ := hop_ok hb
  obtain ⟨⟨y, x, is⟩, hR⟩ : ∃ R, outH h n = R := ⟨_, rfl⟩
  rw [hR]
  cases is
  · have hy : y = h := by
      unfold outH at hR
      split at hR
      · split at hR
        · simp at hR
        · simp only [Prod.mk.injEq] at hR; exact hR.1.symm
      · simp only [Prod.mk.injEq] at hR; exact hR.1.symm
    subst hy
    exact hb
  · obtain ⟨_, hg, ht, hw, hl⟩ := outH_in hR
    exact hop_of (by dsimp only; omega) (by dsimp only; rw [hg]; exact h2) (by dsimp only; rw [ht]; exact h3) fun z hz => h4 z (hw z hz)
theorem come_ok {h : Hp} (hb : hopB h = true) (n : Int) : hopB (comeH h n).1 = true := by
  have ho := out_ok hb n
  unfold comeH
  obtain ⟨⟨y, x, is⟩, hR⟩ : ∃ R, outH h n = R := ⟨_, rfl⟩
  rw [hR] at ho ⊢
  obtain ⟨h1, h2, h3, h4⟩ := hop_ok ho
  cases is
  · exact ho
  · dsimp only at *
    split
    · exact hop_of h1 (Giv.hear_ok h2 _ _ _) h3 h4
    · exact hop_of h1 h2 (Tak.take_ok h3 _ _ _) h4
theorem giver_ok {h : Hp} (hb : hopB h = true) {g : Giv.Gv} (hg : g.ok = true) : hopB ⟨g, h.t, h.ws⟩ = true := by
  obtain ⟨h1, h2, h3, h4⟩ := hop_ok hb
  exact hop_of h1 hg h3 h4
theorem taker_ok {h : Hp} (hb : hopB h = true) {t : Tak.Tk} (ht : t.ok = true) : hopB ⟨h.g, t, h.ws⟩ = true := by
  obtain ⟨h1, h2, h3, h4⟩ := hop_ok hb
  exact hop_of h1 h2 ht h4
theorem end_ok {g : Giv.Gv} (hg : g.ok = true) (e : Bool) : Giv.Gv.ok ⟨g.ba, g.bs, g.cp, g.lm, g.en || e, g.dn⟩ = true := by
  have h := Giv.ok_iff.1 hg
  refine Giv.ok_iff.2 ?_
  obtain ⟨i1, i2, i3, i4, i5, i6, i7⟩ := h
  refine ⟨i1, i2, i3, i4, i5, i6, fun hd => ?_⟩
  obtain ⟨q1, q2⟩ := i7 hd
  exact ⟨by dsimp only; rw [q1]; rfl, q2⟩
theorem newH_ok {a b : Int} (ha : Tak.capB a = true) (hb : Tak.capB b = true) : hopB ⟨⟨0, ⟨#[]⟩, a, 0, false, false⟩, ⟨0, ⟨#[]⟩, [], b, -1, false⟩, []⟩ = true := by
  have hc : 1 ≤ a ∧ a ≤ 400 := by simpa [Tak.capB] using ha
  have hs : (⟨#[]⟩ : ByteArray).size = 0 := rfl
  refine hop_of (Nat.zero_le _) ?_ (Tak.new_ok hb) (fun x hx => by cases hx)
  exact Giv.ok_iff.2 ⟨hc, by dsimp only; omega, by dsimp only; rw [hs]; omega, by dsimp only; rw [hs]; omega, by dsimp only; omega, by dsimp only; omega, fun hd => by cases hd⟩
/-- A right hop is not too great. -/
theorem sm_ok {h : Hp} (hb : hopB h = true) : h.Sm := by
  obtain ⟨h1, h2, h3, h4⟩ := hop_ok hb
  obtain ⟨hbd, htot⟩ := Tak.ok_small h3
  have hin : Tak.inT h.t.nx h.t.bs h.t.l h.t.cp := by
    unfold Tak.Tk.ok Tak.takerB at h3
    simp only [Bool.and_eq_true, decide_eq_true_eq] at h3
    exact h3.1
  unfold Tak.inT at hin
  have hg := Giv.ok_iff.1 h2
  exact ⟨by omega, by omega, by omega, hbd, by omega, fun x hx => by have := (let_in (h4 x hx)).2; omega⟩

end Go.Proofs.Ytldghgadkncehaa.Hop
