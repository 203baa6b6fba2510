/- Contracts of the program's PaceOk, NewPace and Longer (chapter 9); no condition. -/
import Derived.Test.YtbmfnkdcbdkcdaaPacB
import Derived.Laws.Cover1
namespace Go.Proofs.Ytbmfnkdcbdkcdaa.Pac
open Go.RowKit RowG
set_option linter.unusedVariables false
set_option linter.unusedSimpArgs false

theorem isMeasure (n : Int) (w : World) : Calls Try.prog 33 #[.int .i64 n] w fun e w' => e = .returned (.bool (decide (0 ≤ n ∧ n ≤ 480000))) ∧ w = w' := by
  by_cases h1 : 0 ≤ n
  · by_cases h2 : n ≤ 480000
    all_goals
      go_enter Try.func33, Try.ntmps33
      go_wp2_with fail
      go_ret
      exact ⟨Num.ret_bool (by simp [h1, h2]), rfl⟩
  · go_enter Try.func33, Try.ntmps33
    go_wp2_with fail
    go_ret
    exact ⟨Num.ret_bool (by simp; omega), rfl⟩
theorem isMeasureEq {n : Int} {v : Bool} (h : decide (0 ≤ n ∧ n ≤ 480000) = v) (w : World) : Calls Try.prog 33 #[.int .i64 n] w fun e w' => e = .returned (.bool v) ∧ w = w' := by
  subst h
  exact isMeasure n w
theorem isWait (n : Int) (w : World) : Calls Try.prog 34 #[.int .i64 n] w fun e w' => e = .returned (.bool (decide (200 ≤ n ∧ n ≤ 60000))) ∧ w = w' := by
  by_cases h1 : 200 ≤ n
  · by_cases h2 : n ≤ 60000
    all_goals
      go_enter Try.func34, Try.ntmps34
      go_wp2_with fail
      go_ret
      exact ⟨Num.ret_bool (by simp [h1, h2]), rfl⟩
  · go_enter Try.func34, Try.ntmps34
    go_wp2_with fail
    go_ret
    exact ⟨Num.ret_bool (by simp; omega), rfl⟩
theorem isWaitEq {n : Int} {v : Bool} (h : decide (200 ≤ n ∧ n ≤ 60000) = v) (w : World) : Calls Try.prog 34 #[.int .i64 n] w fun e w' => e = .returned (.bool v) ∧ w = w' := by
  subst h
  exact isWait n w

set_option maxHeartbeats 2000000 in
theorem implPaceOk (p : Pc) (w : World) : Calls Try.prog 16 #[p.v] w fun x w' => x = .returned (.bool (paceB p)) ∧ Below w.heap.size w w' := by
  obtain ⟨mn, sp, wt, tm⟩ := p
  dsimp only [Pc.v]
  have fin : ∀ {o : Obj}, Below w.heap.size w (w.alloc o) := fun {o} => (Below.refl _ _).alloc (Nat.le_refl _) o
  cases h1 : decide (0 ≤ mn ∧ mn ≤ 480000)
  · go_enter Try.func16, Try.ntmps16
    go_wp2_with fail
    refine (isMeasureEq h1 _).mono ?_
    rintro x w1 ⟨rfl, rfl⟩
    go_wp2_with fail
    go_ret
    exact ⟨Num.ret_bool (by simp only [paceB, h1, Bool.false_and]), fin⟩
  · cases h2 : decide (0 ≤ sp ∧ sp ≤ 480000)
    · go_enter Try.func16, Try.ntmps16
      go_wp2_with fail
      refine (isMeasureEq h1 _).mono ?_
      rintro x w1 ⟨rfl, rfl⟩
      go_wp2_with fail
      refine (isMeasureEq h2 _).mono ?_
      rintro x w1 ⟨rfl, rfl⟩
      go_wp2_with fail
      go_ret
      exact ⟨Num.ret_bool (by simp only [paceB, h1, h2, Bool.false_and, Bool.true_and]), fin⟩
    · cases h3 : decide (200 ≤ wt ∧ wt ≤ 60000)
      · go_enter Try.func16, Try.ntmps16
        go_wp2_with fail
        refine (isMeasureEq h1 _).mono ?_
        rintro x w1 ⟨rfl, rfl⟩
        go_wp2_with fail
        refine (isMeasureEq h2 _).mono ?_
        rintro x w1 ⟨rfl, rfl⟩
        go_wp2_with fail
        refine (isWaitEq h3 _).mono ?_
        rintro x w1 ⟨rfl, rfl⟩
        go_wp2_with fail
        go_ret
        exact ⟨Num.ret_bool (by simp only [paceB, h1, h2, h3, Bool.false_and, Bool.true_and]), fin⟩
      · by_cases h4 : 0 ≤ tm
        · by_cases h5 : tm ≤ 20
          all_goals
            go_enter Try.func16, Try.ntmps16
            go_wp2_with fail
            refine (isMeasureEq h1 _).mono ?_
            rintro x w1 ⟨rfl, rfl⟩
            go_wp2_with fail
            refine (isMeasureEq h2 _).mono ?_
            rintro x w1 ⟨rfl, rfl⟩
            go_wp2_with fail
            refine (isWaitEq h3 _).mono ?_
            rintro x w1 ⟨rfl, rfl⟩
            go_wp2_with fail
            go_ret
            exact ⟨Num.ret_bool (by simp only [paceB, h1, h2, h3, Bool.true_and]; simp [h4, h5]), fin⟩
        · go_enter Try.func16, Try.ntmps16
          go_wp2_with fail
          refine (isMeasureEq h1 _).mono ?_
          rintro x w1 ⟨rfl, rfl⟩
          go_wp2_with fail
          refine (isMeasureEq h2 _).mono ?_
          rintro x w1 ⟨rfl, rfl⟩
          go_wp2_with fail
          refine (isWaitEq h3 _).mono ?_
          rintro x w1 ⟨rfl, rfl⟩
          go_wp2_with fail
          go_ret
          exact ⟨Num.ret_bool (by simp only [paceB, h1, h2, h3, Bool.true_and]; simp; omega), fin⟩

set_option maxHeartbeats 2000000 in
theorem implNewPace (w : World) : Calls Try.prog 18 #[] w fun x w' => x = .returned (.agg #[.int .i64 0, .int .i64 0, .int .i64 1000, .int .i64 0]) ∧ Below w.heap.size w w' := by
  have B : ∀ {w1 : World}, w1 = ((((w.alloc (.cells #[.int .i64 0, .int .i64 0, .int .i64 0, .int .i64 0] 25)).setCell ⟨w.heap.size, 0, none⟩ (.int .i64 0)).setCell ⟨w.heap.size, 1, none⟩ (.int .i64 0)).setCell ⟨w.heap.size, 2, none⟩ (.int .i64 1000)).setCell ⟨w.heap.size, 3, none⟩ (.int .i64 0) → Below w.heap.size w w1 := by
    rintro w1 rfl
    exact ((((((Below.refl _ _).alloc (Nat.le_refl _) _).setCell (p := ⟨w.heap.size, 0, none⟩) (Nat.le_refl _) _).setCell (p := ⟨w.heap.size, 1, none⟩) (Nat.le_refl _) _).setCell (p := ⟨w.heap.size, 2, none⟩) (Nat.le_refl _) _).setCell (p := ⟨w.heap.size, 3, none⟩) (Nat.le_refl _) _)
  go_enter Try.func18, Try.ntmps18
  go_wp2_with fail
  first
    | exact bodyPost_ret (v := .agg #[.int .i64 0, .int .i64 0, .int .i64 1000, .int .i64 0]) (by rw [res_cellP rfl]; go_simp) rfl ⟨rfl, B rfl⟩
    | exact bodyPost_ret (v := .agg #[.int .i64 0, .int .i64 0, .int .i64 1000, .int .i64 0]) (by rw [res_cellP rfl]; go_simp) rfl ⟨rfl, (Below.refl _ _).alloc (Nat.le_refl _) _⟩

set_option maxHeartbeats 2000000 in
theorem wait (m s : Int) (w : World) (h1 : 0 ≤ m ∧ m ≤ 480000) (h2 : 0 ≤ s ∧ s ≤ 480000) : Calls Try.prog 28 #[.agg #[.int .i64 m, .int .i64 s]] w fun x w' => x = .returned (.int .i64 (waitI m s)) ∧ Below w.heap.size w w' := by
  go_enter Try.func28, Try.ntmps28
  go_wp2_with fail
  all_goals go_ret
  all_goals exact ⟨Num.ret_int (by unfold waitI; (repeat' split) <;> omega), (Below.refl _ _).alloc (Nat.le_refl _) _⟩

end Go.Proofs.Ytbmfnkdcbdkcdaa.Pac
