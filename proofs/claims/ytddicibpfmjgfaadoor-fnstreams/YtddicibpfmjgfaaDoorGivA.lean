/- Givers (chapter 6): plain mathematics and the small functions of the specification (l6End, GiverOk, NewGiver, Ends). -/
import Derived.Test.YtddicibpfmjgfaaDoorTakA
import Derived.Test.YtddicibpfmjgfaaDoorTakC
import Derived.Deep.Cut
namespace Go.Proofs.YtddicibpfmjgfaaDoor.Giv
open Go.RowKit RowG
set_option linter.unusedVariables false
set_option linter.unusedSimpArgs false

theorem mix : Tryd.prog.follows .mixedOrders = true := by kernel_rfl

structure Gv where
  ba : Int
  bs : ByteArray
  cp : Int
  lm : Int
  en : Bool
  dn : Bool
abbrev Gv.c (g : Gv) : List Value := [.int .i64 g.ba, .string g.bs, .int .i64 g.cp, .int .i64 g.lm, .bool g.en, .bool g.dn]
abbrev Gv.v (g : Gv) : Value := .agg #[.int .i64 g.ba, .string g.bs, .int .i64 g.cp, .int .i64 g.lm, .bool g.en, .bool g.dn]
abbrev zeroG : Gv := ⟨0, ⟨#[]⟩, 0, 0, false, false⟩
def Gv.ok (g : Gv) : Bool := decide (1 ≤ g.cp ∧ g.cp ≤ 400) && (Num.plB g.ba && (decide ((g.bs.size : Int) ≤ g.cp) && (Num.plB (g.ba + g.bs.size) && (Num.plB g.lm && (decide (g.ba ≤ g.lm) && (!g.dn || (g.en && decide (g.bs.size = 0))))))))
theorem ok_iff {g : Gv} : g.ok = true ↔ (1 ≤ g.cp ∧ g.cp ≤ 400) ∧ (0 ≤ g.ba ∧ g.ba ≤ 1000000000) ∧ ((g.bs.size : Int) ≤ g.cp) ∧ (g.ba + g.bs.size ≤ 1000000000) ∧ (0 ≤ g.lm ∧ g.lm ≤ 1000000000) ∧ g.ba ≤ g.lm ∧ (g.dn = true → g.en = true ∧ g.bs.size = 0) := by
  simp only [Gv.ok, Num.plB, Bool.and_eq_true, decide_eq_true_eq, Bool.or_eq_true, Bool.not_eq_true']
  constructor
  · rintro ⟨h1, h2, h3, h4, h5, h6, h7⟩
    refine ⟨h1, h2, h3, by omega, h5, h6, fun hd => ?_⟩
    rcases h7 with h7 | h7
    · rw [hd] at h7; cases h7
    · exact h7
  · rintro ⟨h1, h2, h3, h4, h5, h6, h7⟩
    refine ⟨h1, h2, h3, by omega, h5, h6, ?_⟩
    cases hd : g.dn
    · exact .inl rfl
    · exact .inr (h7 hd)
/-- No number far out, the bytes not too many. -/
def small (g : Gv) : Prop := (-4611686018427387904 ≤ g.ba ∧ g.ba ≤ 4611686018427387904) ∧ g.bs.size ≤ 2097152

theorem toList_nil {b : ByteArray} (h : b.size = 0) : b = ⟨#[]⟩ := by
  obtain ⟨d⟩ := b
  have : d = #[] := Array.eq_empty_of_size_eq_zero h
  rw [this]

theorem nil_iff (b : ByteArray) : b.toList = [] ↔ b.size = 0 := by
  rw [ByteArray.toList_eq, ← List.length_eq_zero_iff, Array.length_toList]
  rfl

theorem isEmpty_eq (b : ByteArray) : b.toList.isEmpty = decide (b.size = 0) := by
  cases h : b.toList with
  | nil => rw [decide_eq_true ((nil_iff b).1 h)]; rfl
  | cons x r => rw [decide_eq_false (fun q => by rw [(nil_iff b).2 q] at h; cases h)]; rfl

/-- A new giver. -/
def newG (n : Int) : Gv × Bool := if Tak.capB n then (⟨0, ⟨#[]⟩, n, 0, false, false⟩, true) else (zeroG, false)
def endsG (g : Gv) : Gv × Bool := if g.ok then (⟨g.ba, g.bs, g.cp, g.lm, true, g.dn⟩, !g.en) else (zeroG, false)

end Go.Proofs.YtddicibpfmjgfaaDoor.Giv
