/- Contracts of this seat's functions, and their mathematics (HopH GivC). -/
import Derived.Test.YtldghgadkncehaaM42
import Derived.Test.YtldghgadkncehaaM35
set_option linter.unusedVariables false
set_option linter.unusedSimpArgs false
namespace Go.Proofs.Ytldghgadkncehaa.Hop
open Go.RowKit RowG
theorem hop_ok {h : Hp} (hb : hopB h = true) : h.ws.length ≤ 30 ∧ h.g.ok = true ∧ h.t.ok = true ∧ (∀ x ∈ h.ws, letB x = true) := by
  unfold hopB at hb
  simp only [Bool.and_eq_true, decide_eq_true_eq, List.all_eq_true] at hb
  exact ⟨hb.2.2.2, hb.2.1, hb.2.2.1, hb.1⟩
/-- What Sends answers. -/
def sendsH (h : Hp) (road p n : Int) : Hp × Bool := if hopB h then sendH h road p n else (zeroH, false)
/-- What Tells answers. -/
def tellsH (h : Hp) (road : Int) (done : Bool) : Hp × Bool := if hopB h then tellH h road done else (zeroH, false)
end Go.Proofs.Ytldghgadkncehaa.Hop
namespace Go.Proofs.Ytldghgadkncehaa.Giv
open Go.RowKit RowG
/-- Is the limit told a place above what was known? -/
def upB (g : Gv) (limit : Int) : Bool := Num.plB limit && decide (g.lm < limit)
def lmT (g : Gv) (base limit : Int) : Int := if (if upB g limit then limit else g.lm) < base then base else (if upB g limit then limit else g.lm)
def dnB (g : Gv) (base : Int) (done : Bool) : Bool := done && (g.en && (decide ((g.bs.extract (base - g.ba).toNat g.bs.size).size = 0) && !g.dn))
def hearG (g : Gv) (base limit : Int) (done : Bool) : Gv × Bool := if base < g.ba ∨ g.ba + g.bs.size < base then (g, false) else
  (⟨base, g.bs.extract (base - g.ba).toNat g.bs.size, g.cp, lmT g base limit, g.en, g.dn || dnB g base done⟩, (decide (g.ba < base) || upB g limit) || dnB g base done)
def hearsG (g : Gv) (base limit : Int) (done : Bool) : Gv × Bool := if g.ok then hearG g base limit done else (zeroG, false)
theorem hear_ok {g : Gv} (h : g.ok = true) (base limit : Int) (done : Bool) : (hearG g base limit done).1.ok = true := by
  obtain ⟨h1, h2, h3, h4, h5, h6, h7⟩ := ok_iff.1 h
  unfold hearG
  split
  · exact h
  · rename_i hc
    have e : (g.bs.extract (base - g.ba).toNat g.bs.size).size = g.bs.size - (base - g.ba).toNat := ext_size _ _ _ (Nat.le_refl _)
    have hl : (0 ≤ lmT g base limit ∧ lmT g base limit ≤ 1000000000) ∧ base ≤ lmT g base limit := by
      unfold lmT
      cases hu : upB g limit
      · simp only [Bool.false_eq_true, if_false]; split <;> omega
      · simp only [upB, Bool.and_eq_true] at hu
        have := Num.pl_t hu.1
        simp only [if_true]; split <;> omega
    refine ok_iff.2 ⟨h1, by dsimp only; omega, by dsimp only; rw [e]; omega, by dsimp only; rw [e]; omega, hl.1, hl.2, fun hd => ?_⟩
    dsimp only at hd ⊢
    rcases Bool.or_eq_true _ _ ▸ hd with hd | hd
    · have := h7 hd
      exact ⟨this.1, by rw [e]; omega⟩
    · simp only [dnB, Bool.and_eq_true, decide_eq_true_eq] at hd
      exact ⟨hd.2.1, hd.2.2.1⟩
end Go.Proofs.Ytldghgadkncehaa.Giv
