/- Contracts of this seat's functions, and their mathematics (HopB). -/
import Derived.Test.YtldghgadkncehaaM35
import Derived.Test.YtldghgadkncehaaM9
set_option linter.unusedVariables false
set_option linter.unusedSimpArgs false
set_option maxRecDepth 10000
set_option maxHeartbeats 4000000
namespace Go.Proofs.Ytldghgadkncehaa.Hop
open Go.RowKit RowG
theorem mix : Try.prog.follows .mixedOrders = true := by kernel_rfl
structure Lt where
  bk : Bool
  rd : Int
  pl : Int
  bs : ByteArray
  en : Bool
  lm : Int
  dn : Bool
abbrev Lt.c (x : Lt) : List Value := [.bool x.bk, .int .i64 x.rd, .int .i64 x.pl, .string x.bs, .bool x.en, .int .i64 x.lm, .bool x.dn]
abbrev Lt.v (x : Lt) : Value := .agg #[.bool x.bk, .int .i64 x.rd, .int .i64 x.pl, .string x.bs, .bool x.en, .int .i64 x.lm, .bool x.dn]
def letE : El Lt where
  enc x := x.c
  size := 7
  len _ := rfl
  one x u hu := by
    simp at hu
    rcases hu with rfl | rfl | rfl | rfl | rfl | rfl | rfl <;> rfl
  pos := by decide
/-- Is it a right letter? -/
def letB (x : Lt) : Bool := decide (0 ≤ x.rd ∧ x.rd ≤ 3) && (Num.plB x.pl && (if x.bk then decide (x.bs.size = 0) && (!x.en && Num.plB x.lm) else
  decide (x.lm = 0) && (!x.dn && (decide (x.bs.size ≤ 40) && ((x.en || !decide (x.bs.size = 0)) && Num.plB (x.pl + x.bs.size))))))
theorem infoLet : (Try.prog.info? 87).map (fun i => (i.zero, i.size, i.bytes)) = some (some (.agg #[.bool false, .int .i64 0, .int .i64 0, .string ByteArray.empty, .bool false, .int .i64 0, .bool false]), 7, 64) := by kernel_rfl
theorem typ : Typ Try.prog 83 87 letE 64 := by
  obtain ⟨i, hi, hz0, hz1, hz2⟩ := info_parts infoLet
  exact ⟨Try.underlying83, i, _, hi, hz0, hz1, hz2, rfl⟩
theorem l7Letter (x : Lt) (w : World) (hs : x.bs.size ≤ 2097152) :
    Calls Try.prog 68 #[x.v] w fun e w' => e = .returned (.bool (letB x)) ∧ Below w.heap.size w w' := by
  obtain ⟨bk, rd, pl, bs, en, lm, dn⟩ := x
  dsimp only [Lt.v] at *
  have v0 : Var 87 (w.alloc (.cells #[.bool bk, .int .i64 rd, .int .i64 pl, .string bs, .bool en, .int .i64 lm, .bool dn] 87)) w.heap.size [.bool bk, .int .i64 rd, .int .i64 pl, .string bs, .bool en, .int .i64 lm, .bool dn] := Var.new w _
  have B0 : Below w.heap.size w (w.alloc (.cells #[.bool bk, .int .i64 rd, .int .i64 pl, .string bs, .bool en, .int .i64 lm, .bool dn] 87)) := (Below.refl _ _).alloc (Nat.le_refl _) _
  have HSE : Hid _ := Giv.isEmpty_eq bs
  go_enter Try.func68, Try.ntmps68
  go_upto_region 1 with (fail)
  generalize w.alloc (.cells #[.bool bk, .int .i64 rd, .int .i64 pl, .string bs, .bool en, .int .i64 lm, .bool dn] 87) = W at *
  have e0 := v0.cell (i := 0) rfl
  have e1 := v0.cell (i := 1) rfl
  have e2 := v0.cell (i := 2) rfl
  have e3 := v0.cell (i := 3) rfl
  have e4 := v0.cell (i := 4) rfl
  have e5 := v0.cell (i := 5) rfl
  have e6 := v0.cell (i := 6) rfl
  clear v0
  go_wp2_with fail
  refine (Tak.l1In _ _ _ _).mono ?_
  rintro x w1 ⟨rfl, rfl⟩
  cases h1 : decide (0 ≤ rd ∧ rd ≤ 3)
  case false =>
    go_wp2_with fail
    go_ret
    exact ⟨Num.ret_bool (by simp [letB, h1]), B0⟩
  go_wp2_with fail
  refine (Num.l1Place _ _).mono ?_
  rintro x w1 ⟨rfl, rfl⟩
  cases h2 : Num.plB pl
  case false =>
    go_wp2_with fail
    go_ret
    exact ⟨Num.ret_bool (by simp [letB, h1, h2]), B0⟩
  have hpl : 0 ≤ pl ∧ pl ≤ 1000000000 := by simpa [Num.plB] using h2
  cases bk
  case true =>
    cases h3 : decide (bs.size = 0)
    case false =>
      have hse : bs.toList.isEmpty = false := by rw [HSE.out, h3]
      have hnn : ¬ bs.toList = [] := fun q => absurd ((Giv.nil_iff bs).1 q) (of_decide_eq_false h3)
      have h3n : ¬ bs.size = 0 := of_decide_eq_false h3
      go_wp2_with fail
      go_ret
      exact ⟨Num.ret_bool (by simp [letB, h1, h2, h3, h3n]), B0⟩
    have hse : bs.toList.isEmpty = true := by rw [HSE.out, h3]
    have hnn : bs.toList = [] := (Giv.nil_iff bs).2 (of_decide_eq_true h3)
    have h3n : bs.size = 0 := of_decide_eq_true h3
    cases en
    case true =>
      go_wp2_with fail
      go_ret
      exact ⟨Num.ret_bool (by simp [letB, h1, h2, h3, h3n]), B0⟩
    go_wp2_with fail
    refine (Num.l1Place _ _).mono ?_
    rintro x w1 ⟨rfl, rfl⟩
    go_wp2_with fail
    go_ret
    exact ⟨Num.ret_bool (by simp [letB, h1, h2, h3, h3n]), B0⟩
  case false =>
    cases h3 : decide (lm = 0)
    case false =>
      have h3n : ¬ lm = 0 := of_decide_eq_false h3
      go_wp2_with fail
      go_ret
      exact ⟨Num.ret_bool (by simp [letB, h1, h2, h3, h3n]), B0⟩
    have h3n : lm = 0 := of_decide_eq_true h3
    cases dn
    case true =>
      go_wp2_with fail
      go_ret
      exact ⟨Num.ret_bool (by simp [letB, h1, h2, h3, h3n]), B0⟩
    cases h4 : decide (bs.size ≤ 40)
    case false =>
      have h4n : ¬ (bs.size : Int) ≤ 40 := by have := of_decide_eq_false h4; omega
      have h4m : ¬ bs.size ≤ 40 := of_decide_eq_false h4
      go_wp2_with fail
      go_ret
      exact ⟨Num.ret_bool (by simp [letB, h1, h2, h3, h3n, h4, h4m]), B0⟩
    have h4n : (bs.size : Int) ≤ 40 := by have := of_decide_eq_true h4; omega
    have h4m : bs.size ≤ 40 := of_decide_eq_true h4
    have ew : IntKind.i64.wrap (pl + (bs.size : Int)) = pl + bs.size := by rw [IntKind.wrap_i64]; omega
    cases en
    case true =>
      go_wp2_with fail
      refine (Num.l1Place _ _).mono ?_
      rintro x w1 ⟨rfl, rfl⟩
      go_wp2_with fail
      go_ret
      exact ⟨Num.ret_bool (by simp [letB, h1, h2, h3, h3n, h4, h4m, ew]), B0⟩
    cases h5 : decide (bs.size = 0)
    case true =>
      have hse : bs.toList.isEmpty = true := by rw [HSE.out, h5]
      have hnn : bs.toList = [] := (Giv.nil_iff bs).2 (of_decide_eq_true h5)
      have h5n : bs.size = 0 := of_decide_eq_true h5
      go_wp2_with fail
      go_ret
      exact ⟨Num.ret_bool (by simp [letB, h1, h2, h3, h3n, h4, h4m, h5, h5n]), B0⟩
    have hse : bs.toList.isEmpty = false := by rw [HSE.out, h5]
    have hnn : ¬ bs.toList = [] := fun q => absurd ((Giv.nil_iff bs).1 q) (of_decide_eq_false h5)
    have h5n : ¬ bs.size = 0 := of_decide_eq_false h5
    go_wp2_with fail
    refine (Num.l1Place _ _).mono ?_
    rintro x w1 ⟨rfl, rfl⟩
    go_wp2_with fail
    go_ret
    exact ⟨Num.ret_bool (by simp [letB, h1, h2, h3, h3n, h4, h4m, h5, h5n, ew]), B0⟩
end Go.Proofs.Ytldghgadkncehaa.Hop
