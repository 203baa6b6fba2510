/- Which road (chapter 11): contracts of the program's AfterIt, waysToChoose, Chosen; lists of at most 2^21 roads. -/
import Derived.Test.YtnfdomgibkdkcaaChoP
import Derived.Laws.EntriesVeiled
namespace Go.Proofs.Ytnfdomgibkdkcaa.Roa
open Go.RowKit RowG
set_option linter.unusedVariables false
set_option linter.unusedSimpArgs false

set_option maxHeartbeats 2000000 in
theorem implAfterIt (a : Option Addr) (n cap : Nat) (l : List Rd) (z : Int) (w : World) (hn : n = l.length) (h : E.Lies w a l) (hl : l.length ≤ 2097152) :
    Calls Try.prog 15 #[.slice a n cap, .int .i64 z] w fun x w' => x = .returned (.int .i64 (afterI l z)) ∧ Below w.heap.size w w' := by
  subst hn
  have hmix := mix
  have hol := openL_len l
  go_enter Try.func15, Try.ntmps15
  go_wp2_with fail
  refine (implOpenOnes _ _ _ l _ rfl h hl).mono ?_
  rintro x w1 ⟨g, c, rfl, o1, b1⟩
  by_cases h0 : (openL l).length = 0
  · have hb' : ((openL l).length : Int) = 0 := by omega
    have hb : (((openL l).length : Int) == 0) = true := by rw [hb']; rfl
    have HF : Hid (afterI l z = -1) := if_neg (fun q => q.2 (List.length_eq_zero_iff.1 h0))
    go_wp2_with fail
    go_ret
    exact ⟨by rw [HF.out]; rfl, b1⟩
  have hb : ¬ ((openL l).length : Int) = 0 := by omega
  have hbd : (((openL l).length : Int) == 0) = false := beq_eq_false_iff_ne.2 hb
  by_cases hz : z < -1
  · have HF : Hid (afterI l z = -1) := if_neg (fun q => by omega)
    go_wp2_with fail
    go_ret
    exact ⟨by rw [HF.out]; rfl, b1⟩
  by_cases hy : (l.length : Int) ≤ z
  · have HF : Hid (afterI l z = -1) := if_neg (fun q => by omega)
    go_wp2_with fail
    go_ret
    exact ⟨by rw [HF.out]; rfl, b1⟩
  have HA : Hid (afterI l z = afterL z (openL l)) := if_pos ⟨by omega, fun e => h0 (by rw [e]; rfl)⟩
  go_wp2_with fail
  go_loopw [25] (fun iv wr => ∃ k : Nat, k ≤ (openL l).length ∧ iv = .int .i64 k ∧ Hid (∀ i, i < k → ¬ z < (openL l).getD i 0) ∧ Below w1.heap.size w1 wr) (fun iv _ => (openL l).length - (intOf iv).toNat)
  case atStart => exact ⟨0, Nat.zero_le _, rfl, fun i hi => absurd hi (by omega), Below.refl _ _⟩
  case round =>
    obtain ⟨k, hk, rfl, hno, hB⟩ := hrel
    have o2 := o1.later hB
    have B2 := b1.trans (hB.mono b1.size)
    by_cases hlt : k < (openL l).length
    · have i0 : (0 : Int) ≤ (k : Int) := by omega
      have i1 : (k : Int) < ((openL l).length : Int) := by omega
      have x0 := (o2.at hlt).1
      obtain ⟨y, HY⟩ : ∃ y, Hid ((openL l).getD k 0 = y) := ⟨_, rfl⟩
      rw [HY.out] at x0
      by_cases hy' : z < y
      · have HF : Hid (afterL z (openL l) = y) := by show _ = _; rw [find_take hlt hno.out (by rw [HY.out]; exact hy'), HY.out]
        go_wp2_with fail
        go_ret
        exact ⟨by rw [HA.out, HF.out]; rfl, B2⟩
      · have HN : Hid (∀ i, i < k + 1 → ¬ z < (openL l).getD i 0) := fun i hi => by
          by_cases e : i = k
          · rw [e, HY.out]; exact hy'
          · exact hno.out i (by omega)
        go_wp2_with fail
        go_roundw
        case rel => exact ⟨k + 1, by omega, by go_num, HN, hB⟩
        case measure => simp [intOf]; omega
    · have i1 : ¬ (k : Int) < ((openL l).length : Int) := by omega
      have j1 : (0 : Int) < ((openL l).length : Int) := by omega
      have hl0 : 0 < (openL l).length := by omega
      have x0 := (o2.at hl0).1
      have HF : Hid (afterL z (openL l) = (openL l).getD 0 0) := find_none (fun i hi => hno.out i (by omega)) (fun e => h0 (by rw [e]; rfl))
      obtain ⟨y, HY⟩ : ∃ y, Hid ((openL l).getD 0 0 = y) := ⟨_, rfl⟩
      rw [HY.out] at x0
      go_wp2_with fail
      go_ret
      exact ⟨by rw [HA.out, HF.out, HY.out]; rfl, B2⟩

def wayCells : List Value := [.int .i64 1, .func (.func 40) #[] #[], .int .i64 2, .func (.func 15) #[] #[], .int .i64 3, .func (.func 41) #[] #[]]
set_option maxHeartbeats 2000000 in
theorem waysToChoose (w : World) : Calls Try.prog 27 #[] w fun x w' => ∃ g, x = .returned (.slice (some ⟨g, 0, none⟩) 3 3) ∧ Var 51 w' g wayCells ∧ Below w.heap.size w w' := by
  have v0 : Var 51 (w.alloc (.cells wayCells.toArray 51)) w.heap.size wayCells := Var.new w _
  have b0 := (Below.refl w.heap.size w).alloc (Nat.le_refl _) (.cells wayCells.toArray 51)
  go_enter Try.func27, Try.ntmps27
  go_wp2_with fail
  go_ret
  exact ⟨w.heap.size, rfl, v0, b0⟩

set_option maxHeartbeats 2000000 in
theorem way1 (a : Option Addr) (n cap : Nat) (l : List Rd) (z : Int) (w : World) (hn : n = l.length) (h : E.Lies w a l) (hl : l.length ≤ 2097152) :
    Calls Try.prog 40 #[.slice a n cap, .int .i64 z] w fun x w' => x = .returned (.int .i64 (best chB l)) ∧ Below w.heap.size w w' := by
  subst hn
  go_enter Try.func40, Try.ntmps40
  go_wp2_with fail
  refine (implCheapest _ _ _ l _ rfl h hl).mono ?_
  rintro x w1 ⟨rfl, b1⟩
  go_wp2_with fail
  go_ret
  exact ⟨rfl, b1⟩

set_option maxHeartbeats 2000000 in
theorem way3 (a : Option Addr) (n cap : Nat) (l : List Rd) (z : Int) (w : World) (hn : n = l.length) (h : E.Lies w a l) (hl : l.length ≤ 2097152) :
    Calls Try.prog 41 #[.slice a n cap, .int .i64 z] w fun x w' => x = .returned (.int .i64 (best saB l)) ∧ Below w.heap.size w w' := by
  subst hn
  go_enter Try.func41, Try.ntmps41
  go_wp2_with fail
  refine (implSafest _ _ _ l _ rfl h hl).mono ?_
  rintro x w1 ⟨rfl, b1⟩
  go_wp2_with fail
  go_ret
  exact ⟨rfl, b1⟩

set_option maxHeartbeats 2000000 in
theorem implChosen (a : Option Addr) (n cap : Nat) (l : List Rd) (y z : Int) (w : World) (hn : n = l.length) (h : E.Lies w a l) (hl : l.length ≤ 2097152) :
    Calls Try.prog 10 #[.slice a n cap, .int .i64 y, .int .i64 z] w fun x w' => x = .returned (.int .i64 (chosenI l y z)) ∧ Below w.heap.size w w' := by
  subst hn
  go_enter Try.func10, Try.ntmps10
  go_wp2_with fail
  refine (waysToChoose _).mono ?_
  rintro x w1 ⟨g, rfl, v1, b1⟩
  go_wp2_with fail
  go_loopw [11] (fun iv wr => ∃ k : Nat, k ≤ 3 ∧ iv = .int .i64 k ∧ Hid (∀ i : Nat, i < k → y ≠ (i : Int) + 1) ∧ Below w1.heap.size w1 wr) (fun iv _ => 3 - (intOf iv).toNat)
  case atStart => exact ⟨0, by omega, rfl, fun i hi => absurd hi (by omega), Below.refl _ _⟩
  case round =>
    obtain ⟨k, hk, rfl, hno, hB⟩ := hrel
    have v2 := v1.later hB
    have B2 := b1.trans (hB.mono b1.size)
    have hk4 : k = 0 ∨ k = 1 ∨ k = 2 ∨ k = 3 := by omega
    rcases hk4 with rfl | rfl | rfl | rfl
    · have c0 := v2.cell (i := 0) rfl
      have c1 := v2.cell (i := 1) rfl
      have b3 := B2.alloc B2.size (.cells #[.int .i64 1, .func (.func 40) #[] #[]] 51)
      have q3 := hB.alloc hB.size (.cells #[.int .i64 1, .func (.func 40) #[] #[]] 51)
      have h3 := h.later b3
      by_cases hy : y = 1
      · subst hy
        clear hno
        go_wp2_with fail
        refine (way1 _ _ _ l z _ rfl h3 hl).mono ?_
        rintro x w4 ⟨rfl, b4⟩
        have B4 := b3.trans (b4.mono b3.size)
        go_wp2_with fail
        go_ret
        exact ⟨rfl, B4⟩
      · have hd : ((1 : Int) == y) = false := beq_eq_false_iff_ne.2 (Ne.symm hy)
        have HN : Hid (∀ i : Nat, i < 1 → y ≠ (i : Int) + 1) := fun i hi => by
          rcases Nat.lt_succ_iff_lt_or_eq.1 hi with e | e
          · exact hno.out i e
          · subst e; exact hy
        clear hno
        go_wp2_with fail
        go_roundw
        case rel => exact ⟨1, by omega, by go_num, HN, q3⟩
        case measure => simp [intOf]
    · have c0 := v2.cell (i := 2) rfl
      have c1 := v2.cell (i := 3) rfl
      have b3 := B2.alloc B2.size (.cells #[.int .i64 2, .func (.func 15) #[] #[]] 51)
      have q3 := hB.alloc hB.size (.cells #[.int .i64 2, .func (.func 15) #[] #[]] 51)
      have h3 := h.later b3
      by_cases hy : y = 2
      · subst hy
        clear hno
        go_wp2_with fail
        refine (implAfterIt _ _ _ l z _ rfl h3 hl).mono ?_
        rintro x w4 ⟨rfl, b4⟩
        have B4 := b3.trans (b4.mono b3.size)
        go_wp2_with fail
        go_ret
        exact ⟨rfl, B4⟩
      · have hd : ((2 : Int) == y) = false := beq_eq_false_iff_ne.2 (Ne.symm hy)
        have HN : Hid (∀ i : Nat, i < 2 → y ≠ (i : Int) + 1) := fun i hi => by
          rcases Nat.lt_succ_iff_lt_or_eq.1 hi with e | e
          · exact hno.out i e
          · subst e; exact hy
        clear hno
        go_wp2_with fail
        go_roundw
        case rel => exact ⟨2, by omega, by go_num, HN, q3⟩
        case measure => simp [intOf]
    · have c0 := v2.cell (i := 4) rfl
      have c1 := v2.cell (i := 5) rfl
      have b3 := B2.alloc B2.size (.cells #[.int .i64 3, .func (.func 41) #[] #[]] 51)
      have q3 := hB.alloc hB.size (.cells #[.int .i64 3, .func (.func 41) #[] #[]] 51)
      have h3 := h.later b3
      by_cases hy : y = 3
      · subst hy
        clear hno
        go_wp2_with fail
        refine (way3 _ _ _ l z _ rfl h3 hl).mono ?_
        rintro x w4 ⟨rfl, b4⟩
        have B4 := b3.trans (b4.mono b3.size)
        go_wp2_with fail
        go_ret
        exact ⟨rfl, B4⟩
      · have hd : ((3 : Int) == y) = false := beq_eq_false_iff_ne.2 (Ne.symm hy)
        have HN : Hid (∀ i : Nat, i < 3 → y ≠ (i : Int) + 1) := fun i hi => by
          rcases Nat.lt_succ_iff_lt_or_eq.1 hi with e | e
          · exact hno.out i e
          · subst e; exact hy
        clear hno
        go_wp2_with fail
        go_roundw
        case rel => exact ⟨3, by omega, by go_num, HN, q3⟩
        case measure => simp [intOf]
    · have HF : Hid (chosenI l y z = -1) := by
        have e1 := hno.out 0 (by omega)
        have e2 := hno.out 1 (by omega)
        have e3 := hno.out 2 (by omega)
        show _ = _
        unfold chosenI
        rw [if_neg (by simpa using e1), if_neg (by simpa using e2), if_neg (by simpa using e3)]
      go_wp2_with fail
      go_ret
      exact ⟨by rw [HF.out]; rfl, B2⟩

end Go.Proofs.Ytnfdomgibkdkcaa.Roa
