/- Chapter 15, the program: StreamOk, refuse, answered. Made by tools/gen/genstrp.py. -/
import Derived.Test.YtddicibpfmjgfaaStrB
import Derived.Test.YtddicibpfmjgfaaErrA
import Derived.Test.YtddicibpfmjgfaaErrB
import Derived.Test.YtddicibpfmjgfaaRegV
namespace Go.Proofs.Ytddicibpfmjgfaa.Str
open Go.RowKit RowG
set_option linter.unusedVariables false
set_option linter.unusedSimpArgs false

set_option maxRecDepth 10000 in
set_option maxHeartbeats 4000000 in
theorem implStreamOk (s : Sm) (w : World) (hs : s.tx.size ≤ 2097152) :
    Calls Try.prog 7 #[s.v] w fun x w' => x = .returned (.bool s.ok) ∧ Below w.heap.size w w' := by
  have HO : Hid (s.ok = (decide ((s.tx.size : Int) ≤ 2000) && (decide (0 ≤ s.rd ∧ s.rd ≤ (s.tx.size : Int)) && ((!s.sn || (s.en && decide (s.rd = (s.tx.size : Int)))) && (!s.dn || s.en))))) := rfl
  generalize s.ok = O at *
  obtain ⟨tx, rd, en, dn, sn⟩ := s
  dsimp only [Sm.v] at *
  have v1 : Var 26 (w.alloc (.cells #[.string tx, .int .i64 rd, .bool en, .bool dn, .bool sn] 26)) w.heap.size [.string tx, .int .i64 rd, .bool en, .bool dn, .bool sn] := Var.new w _
  have b1 : Below w.heap.size w (w.alloc (.cells #[.string tx, .int .i64 rd, .bool en, .bool dn, .bool sn] 26)) := (Below.refl _ _).alloc (Nat.le_refl _) _
  go_enter Try.func7, Try.ntmps7
  go_upto_region 1 with (fail)
  generalize (w.alloc (.cells #[.string tx, .int .i64 rd, .bool en, .bool dn, .bool sn] 26)) = V at *
  have e0 := v1.cell (i := 0) rfl
  have e1 := v1.cell (i := 1) rfl
  have e2 := v1.cell (i := 2) rfl
  have e3 := v1.cell (i := 3) rfl
  have e4 := v1.cell (i := 4) rfl
  by_cases h1 : (tx.size : Int) ≤ 2000
  case neg =>
    have h1' : (2000 : Int) < (tx.size : Int) := by omega
    have hO : O = false := by rw [HO.out, decide_eq_false h1]; rfl
    subst hO
    go_wp2_with fail
    go_ret
    exact ⟨rfl, b1⟩
  have h1' : ¬ (2000 : Int) < (tx.size : Int) := by omega
  rw [decide_eq_true h1, Bool.true_and] at HO
  by_cases h2 : rd < 0
  case pos =>
    have hO : O = false := by rw [HO.out, decide_eq_false (show ¬ (0 ≤ rd ∧ rd ≤ (tx.size : Int)) by omega)]; rfl
    subst hO
    go_wp2_with fail
    go_ret
    exact ⟨rfl, b1⟩
  by_cases h3 : (tx.size : Int) < rd
  case pos =>
    have hO : O = false := by rw [HO.out, decide_eq_false (show ¬ (0 ≤ rd ∧ rd ≤ (tx.size : Int)) by omega)]; rfl
    subst hO
    go_wp2_with fail
    go_ret
    exact ⟨rfl, b1⟩
  rw [decide_eq_true (show 0 ≤ rd ∧ rd ≤ (tx.size : Int) by omega), Bool.true_and] at HO
  cases sn <;> cases en <;> cases dn
  all_goals first
    | (have hO : O = _ := HO.out
       simp only [Bool.not_false, Bool.not_true, Bool.true_or, Bool.false_or, Bool.or_true, Bool.or_false, Bool.and_true, Bool.true_and, Bool.false_and, Bool.and_false] at hO
       subst hO
       go_wp2_with fail
       go_ret
       exact ⟨rfl, b1⟩)
    | (by_cases h4 : rd = (tx.size : Int)
       · have hO : O = true := by rw [HO.out, decide_eq_true h4]; rfl
         subst hO
         go_wp2_with fail
         go_ret
         exact ⟨rfl, b1⟩
       · have hO : O = false := by rw [HO.out, decide_eq_false h4]; rfl
         subst hO
         go_wp2_with fail
         go_ret
         exact ⟨rfl, b1⟩)

end Go.Proofs.Ytddicibpfmjgfaa.Str
