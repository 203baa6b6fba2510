/- Contracts of this seat's functions, and their mathematics (GivP). -/
import Derived.Test.YtldghgadkncehaaM18
import Derived.BigQuiet
set_option linter.unusedVariables false
set_option linter.unusedSimpArgs false
set_option maxRecDepth 10000
set_option maxHeartbeats 4000000
namespace Go.Proofs.Ytldghgadkncehaa.Giv
open Go.RowKit RowG
theorem isCap (n : Int) (w : World) : Calls Try.prog 105 #[.int .i64 n] w fun e w' => e = .returned (.bool (Tak.capB n)) ∧ w = w' := by
  by_cases h1 : 1 ≤ n
  · by_cases h2 : n ≤ 400
    · go_enter Try.func105, Try.ntmps105
      go_wp2_with fail
      go_ret
      exact ⟨Num.ret_bool (by simp [Tak.capB, h1, h2]), rfl⟩
    · go_enter Try.func105, Try.ntmps105
      go_wp2_with fail
      go_ret
      exact ⟨Num.ret_bool (by simp [Tak.capB, h1, h2]), rfl⟩
  · go_enter Try.func105, Try.ntmps105
    go_wp2_with fail
    go_ret
    exact ⟨Num.ret_bool (by simp [Tak.capB]; omega), rfl⟩
theorem isCapEq {n : Int} {v : Bool} (h : Tak.capB n = v) (w : World) : Calls Try.prog 105 #[.int .i64 n] w fun e w' => e = .returned (.bool v) ∧ w = w' := by
  subst h
  exact isCap n w
theorem isPlaceEq {n : Int} {v : Bool} (h : Num.plB n = v) (w : World) : Calls Try.prog 110 #[.int .i64 n] w fun e w' => e = .returned (.bool v) ∧ w = w' := by
  subst h
  exact Num.isPlace n w
def mostG (g : Gv) : Int := min g.cp (1000000000 - g.ba)
theorem mostKept (g : Gv) (w : World) (h0 : 0 ≤ g.ba) (h1 : g.ba ≤ 1000000000) :
    Calls Try.prog 111 #[g.v] w fun x w' => x = .returned (.int .i64 (mostG g)) ∧ Below w.heap.size w w' := by
  unfold mostG
  obtain ⟨ba, bs, cp, lm, en, dn⟩ := g
  dsimp only [Gv.v] at *
  go_enter Try.func111, Try.ntmps111
  go_wp2_with fail
  all_goals go_ret
  all_goals exact ⟨Num.ret_int (by omega), (Below.refl _ _).alloc (Nat.le_refl _) _⟩
/-- The first test of the program's GiverOk. -/
def farB (g : Gv) : Bool := Tak.capB g.cp && (Num.plB g.ba && decide ((g.bs.size : Int) ≤ mostG g))
theorem ok_far {g : Gv} : g.ok = (farB g && (Num.plB g.lm && (decide (g.ba ≤ g.lm) && (!g.dn || (g.en && decide (g.bs.size = 0)))))) := by
  have h : farB g = (decide (1 ≤ g.cp ∧ g.cp ≤ 400) && (Num.plB g.ba && (decide ((g.bs.size : Int) ≤ g.cp) && Num.plB (g.ba + g.bs.size)))) := by
    unfold farB
    show (decide (1 ≤ g.cp ∧ g.cp ≤ 400) && (Num.plB g.ba && decide ((g.bs.size : Int) ≤ mostG g))) = _
    cases hp : Num.plB g.ba
    · simp
    · have := Num.pl_t hp
      rw [show decide ((g.bs.size : Int) ≤ mostG g) = (decide ((g.bs.size : Int) ≤ g.cp) && Num.plB (g.ba + g.bs.size)) by
        unfold mostG Num.plB
        rw [Bool.eq_iff_iff, Bool.and_eq_true, decide_eq_true_eq, decide_eq_true_eq, decide_eq_true_eq]
        omega]
  rw [h]
  unfold Gv.ok
  simp only [Bool.and_assoc]
theorem implGiverOk (g : Gv) (w : World) (hs : g.bs.size ≤ 2097152) :
    Calls Try.prog 99 #[g.v] w fun x w' => x = .returned (.bool g.ok) ∧ Below w.heap.size w w' := by
  have hmix := mix
  rw [ok_far]
  have hK := fun w' h0 h1 => mostKept g w' h0 h1
  have HF : Hid (farB g = (Tak.capB g.cp && (Num.plB g.ba && decide ((g.bs.size : Int) ≤ mostG g)))) := rfl
  generalize farB g = far at *
  generalize mostG g = mk at *
  obtain ⟨ba, bs, cp, lm, en, dn⟩ := g
  dsimp only [Gv.v] at *
  have v1 : Var 79 (w.alloc (.cells #[.int .i64 ba, .string bs, .int .i64 cp, .int .i64 lm, .bool en, .bool dn] 79)) w.heap.size [.int .i64 ba, .string bs, .int .i64 cp, .int .i64 lm, .bool en, .bool dn] := Var.new w _
  have b1 : Below w.heap.size w (w.alloc (.cells #[.int .i64 ba, .string bs, .int .i64 cp, .int .i64 lm, .bool en, .bool dn] 79)) := (Below.refl _ _).alloc (Nat.le_refl _) _
  go_enter Try.func99, Try.ntmps99
  go_upto_region 1 with (fail)
  generalize (w.alloc (.cells #[.int .i64 ba, .string bs, .int .i64 cp, .int .i64 lm, .bool en, .bool dn] 79)) = V at *
  have e0 := v1.cell (i := 0) rfl
  have e1 := v1.cell (i := 1) rfl
  have e2 := v1.cell (i := 2) rfl
  have e3 := v1.cell (i := 3) rfl
  have e4 := v1.cell (i := 4) rfl
  have e5 := v1.cell (i := 5) rfl
  have d0 := Draw.Later.cell e0
  have d1 := Draw.Later.cell e1
  have d2 := Draw.Later.cell e2
  have d3 := Draw.Later.cell e3
  have d4 := Draw.Later.cell e4
  have d5 := Draw.Later.cell e5
  go_cut [20] from 3 (fun v wr => v = .bool (!far) ∧ Below V.heap.size V wr)
  case first =>
    cases h1 : Tak.capB cp
    case false =>
      have hf : far = false := by rw [HF.out, h1]; rfl
      have hC := fun w' => isCapEq h1 w'
      clear h1
      refine Draw.wp_region_later hmix (by kernel_rfl) ?_
      repeat (go_big_quiet_step ((go_at_call 105; exact Draw.later_same (hC _))))
      refine wpQuiet_nil ?_
      intro wq hw'
      obtain ⟨q9, hq⟩ := hw'
      have hBq := q9.h
      rw [← hq] at hBq
      go_wp2_with fail
      go_meet
      exact ⟨by rw [hf]; rfl, hBq⟩
    have hC := fun w' => isCapEq h1 w'
    cases h2 : Num.plB ba
    case false =>
      have hf : far = false := by rw [HF.out, h1, h2]; rfl
      have hP := fun w' => isPlaceEq h2 w'
      clear h1 h2
      refine Draw.wp_region_later hmix (by kernel_rfl) ?_
      repeat (go_big_quiet_step (first | (go_at_call 105; exact Draw.later_same (hC _)) | (go_at_call 110; exact Draw.later_same (hP _))))
      refine wpQuiet_nil ?_
      intro wq hw'
      obtain ⟨q9, hq⟩ := hw'
      have hBq := q9.h
      rw [← hq] at hBq
      go_wp2_with fail
      go_meet
      exact ⟨by rw [hf]; rfl, hBq⟩
    have hP := fun w' => isPlaceEq h2 w'
    have hpl := Num.pl_t h2
    have hM := fun w' => hK w' hpl.1 hpl.2
    have hf : far = decide ((bs.size : Int) ≤ mk) := by rw [HF.out, h1, h2]; rfl
    have hf2 : (!far) = decide (mk < (bs.size : Int)) := by
      rw [hf]
      by_cases hc : (bs.size : Int) ≤ mk
      · rw [decide_eq_true hc, decide_eq_false (by omega)]; rfl
      · rw [decide_eq_false hc, decide_eq_true (by omega)]; rfl
    have HF2 : Hid _ := hf2
    clear h1 h2 hpl hf hf2 hK
    refine Draw.wp_region_later hmix (by kernel_rfl) ?_
    repeat (go_big_quiet_step (first | (go_at_call 105; exact Draw.later_same (hC _)) | (go_at_call 110; exact Draw.later_same (hP _)) | (go_at_call 111; exact Draw.later_of (hM _))))
    refine wpQuiet_nil ?_
    intro wq hw'
    obtain ⟨q9, hq⟩ := hw'
    have hBq := q9.h
    rw [← hq] at hBq
    go_wp2_with fail
    go_meet
    exact ⟨by rw [HF2.out], hBq⟩
  case rest =>
    obtain ⟨rfl, b2⟩ := hcut
    replace v1 := v1.later b2
    have B2 := b1.trans (b2.mono b1.size)
    clear b1 b2 d0 d1 d2 d3 d4 d5 e0 e1 e2 e3 e4 e5
    have e0 := v1.cell (i := 0) rfl
    have e1 := v1.cell (i := 1) rfl
    have e3 := v1.cell (i := 3) rfl
    have e4 := v1.cell (i := 4) rfl
    have e5 := v1.cell (i := 5) rfl
    cases far
    case false =>
      go_wp2_with fail
      go_ret
      exact ⟨rfl, B2⟩
    cases h3 : Num.plB lm
    case false =>
      have hP := fun w' => isPlaceEq h3 w'
      have H3 : Hid _ := h3
      clear h3
      go_wp2_with fail
      refine (hP _).mono ?_
      rintro x w3 ⟨rfl, rfl⟩
      go_wp2_with fail
      go_ret
      exact ⟨Num.ret_bool (by rw [H3.out]; rfl), B2⟩
    have hP := fun w' => isPlaceEq h3 w'
    have H3 : Hid _ := h3
    clear h3
    go_wp2_with fail
    refine (hP _).mono ?_
    rintro x w3 ⟨rfl, rfl⟩
    by_cases h4 : lm < ba
    case pos =>
      have h5 : decide (ba ≤ lm) = false := decide_eq_false (by omega)
      go_wp2_with fail
      go_ret
      exact ⟨Num.ret_bool (by rw [H3.out, h5]; rfl), B2⟩
    have HT : Hid (decide (ba ≤ lm) = true) := decide_eq_true (by omega)
    have HS : Hid _ := isEmpty_eq bs
    cases dn
    case false =>
      go_wp2_with fail
      go_ret
      exact ⟨Num.ret_bool (by rw [H3.out, HT.out]; rfl), B2⟩
    cases en
    case false =>
      go_wp2_with fail
      go_ret
      exact ⟨Num.ret_bool (by rw [H3.out, HT.out]; rfl), B2⟩
    go_wp2_with fail
    go_ret
    exact ⟨Num.ret_bool (show bs.toList.isEmpty = _ by rw [H3.out, HT.out, HS.out]; rfl), B2⟩
theorem implNewGiver (n : Int) (w : World) :
    Calls Try.prog 81 #[.int .i64 n] w fun x w' => x = .returned (.tuple #[(newG n).1.v, .bool (newG n).2]) ∧ Below w.heap.size w w' := by
  unfold newG
  cases h : Tak.capB n
  · go_enter Try.func81, Try.ntmps81
    go_wp2_with (go_at_call 105; refine (isCapEq h _).mono ?_; rintro x w' ⟨rfl, rfl⟩)
    exact bodyPost_ret (v := .tuple #[.agg #[.int .i64 0, .string ⟨#[]⟩, .int .i64 0, .int .i64 0, .bool false, .bool false], .bool false]) (by rw [Tak.res_cell_tmp rfl]; go_simp; try rfl) rfl ⟨rfl, by repeat (first | exact (Below.refl _ _).alloc (Nat.le_refl _) _ | refine Below.setCell ?_ (Nat.le_refl _) _)⟩
  · go_enter Try.func81, Try.ntmps81
    go_wp2_with (go_at_call 105; refine (isCapEq h _).mono ?_; rintro x w' ⟨rfl, rfl⟩)
    exact bodyPost_ret (v := .tuple #[Gv.v ⟨0, ⟨#[]⟩, n, 0, false, false⟩, .bool true]) (by rw [Tak.res_cell_tmp rfl]; go_simp; try rfl) rfl ⟨rfl, by repeat (first | exact (Below.refl _ _).alloc (Nat.le_refl _) _ | refine Below.setCell ?_ (Nat.le_refl _) _)⟩
end Go.Proofs.Ytldghgadkncehaa.Giv
