/- Which road (chapter 11): contracts of the specification's Safest, AfterIt and Chosen; lists of at most 2^21 roads. -/
import Derived.Test.YtnfdomgibkdkcaaChoA
namespace Go.Proofs.Ytnfdomgibkdkcaa.Roa
open Go.RowKit RowG
set_option linter.unusedVariables false
set_option linter.unusedSimpArgs false

theorem l11LessEq {a b : Rd} {u : Bool} (h : saB a b = u) (w : World) (ha : rdB a = true) (hb : rdB b = true) : Calls Try.prog 33 #[a.v, b.v] w fun x w' => x = .returned (.bool u) ∧ Below w.heap.size w w' := by
  subst h
  exact l11Less a b w ha hb

set_option maxHeartbeats 2000000 in
theorem specSafest (a : Option Addr) (n cap : Nat) (l : List Rd) (w : World) (hn : n = l.length) (h : E.Lies w a l) (hl : l.length ≤ 2097152) :
    Calls Try.prog 18 #[.slice a n cap] w fun x w' => x = .returned (.int .i64 (best saB l)) ∧ Below w.heap.size w w' := by
  subst hn
  have hmix := mix
  go_enter Try.func18, Try.ntmps18
  go_wp2_with fail
  refine (specOpenOnes _ _ _ l _ rfl h hl).mono ?_
  rintro x w1 ⟨g, c, rfl, o1, b1⟩
  have h1 := h.later b1
  have hol := openL_len l
  go_wp2_with fail
  go_loopw [3, 5] (fun bv iv wr => ∃ (k : Nat) (b : Int), k ≤ (openL l).length ∧ iv = .int .i64 k ∧ bv = .int .i64 b ∧ Hid (b = bestN saB l k) ∧ Below w1.heap.size w1 wr) (fun _ iv _ => (openL l).length - (intOf iv).toNat)
  case atStart => exact ⟨0, _, Nat.zero_le _, rfl, rfl, (best_zero _ _).symm, Below.refl _ _⟩
  case round =>
    obtain ⟨k, b, hk, rfl, rfl, hb, hB⟩ := hrel
    by_cases hlt : k < (openL l).length
    · have i0 : (0 : Int) ≤ (k : Int) := by omega
      have i1 : (k : Int) < ((openL l).length : Int) := by omega
      obtain ⟨hr, i, hi, ei, hop⟩ := open_at hlt
      have o2 := o1.later hB
      have x0 := (o2.at hlt).1
      rw [ei] at x0
      have j0 : (0 : Int) ≤ (i : Int) := by omega
      have j1 : (i : Int) < (l.length : Int) := by omega
      rcases h1.later hB with hs | ⟨bb, off, rfl, hs⟩
      · simp [hs] at hi
      obtain ⟨c0, c1, c2, c3⟩ := cells4 hs hi
      rcases best_nat saB hk with e | ⟨j, hj, e⟩
      · have hb1 : b = -1 := by rw [hb.out, e]
        subst hb1
        have HN : Hid ((i : Int) = bestN saB l (k + 1)) := by show _ = _; rw [best_none _ hlt e, ei]
        clear hs hop hr e hb
        have d0 := Draw.Later.cell x0
        go_wp2_with fail
        refine Draw.wp_region_later hmix (by kernel_rfl) ?_
        repeat (go_big_quiet_step (fail))
        refine wpQuiet_nil ?_
        intro wq hw'
        obtain ⟨q9, hq9⟩ := hw'
        have hBq := q9.h
        rw [← hq9] at hBq
        have B2 := hB.trans (hBq.mono hB.size)
        have x1 := ((o2.later hBq).at hlt).1
        rw [ei] at x1
        clear hq9 q9 d0 hBq c0 c1 c2 c3 x0 o2 hB ei
        go_wp2_with fail
        go_roundw
        case rel => exact ⟨k + 1, _, by omega, by go_num, rfl, HN, B2⟩
        case measure => simp [intOf]; omega
      · have hb1 : b = (j : Int) := by rw [hb.out, e]
        subst hb1
        have q0 : (0 : Int) ≤ (j : Int) := by omega
        have q1 : (j : Int) < (l.length : Int) := by omega
        have q2 : ¬ (j : Int) < 0 := by omega
        have q3 : decide ((j : Int) < 0) = false := by simp
        obtain ⟨y0, y1, y2, y3⟩ := cells4 hs hj
        have hst := best_some saB hlt e ei
        have hri := rd_of hr hi
        have hrj := rd_of hr hj
        obtain ⟨u, hu⟩ : ∃ u, saB (at' l i) (at' l j) = u := ⟨_, rfl⟩
        rw [hu] at hst
        have HU : Hid (∀ w, Calls Try.prog 33 #[(at' l i).v, (at' l j).v] w fun x w' => x = .returned (.bool u) ∧ Below w.heap.size w w') := fun w => l11LessEq hu w hri hrj
        clear hs hop hr e hb hu hri hrj
        have HN : Hid _ := hst
        clear hst
        generalize at' l i = A at *
        generalize at' l j = C at *
        obtain ⟨ao, ac, ax, al⟩ := A
        obtain ⟨bo, bc, bx, bl⟩ := C
        dsimp only at *
        have d0 := Draw.Later.cell x0
        have d1 := Draw.Later.cell c0
        have d2 := Draw.Later.cell c1
        have d3 := Draw.Later.cell c2
        have d4 := Draw.Later.cell c3
        have d5 := Draw.Later.cell y0
        have d6 := Draw.Later.cell y1
        have d7 := Draw.Later.cell y2
        have d8 := Draw.Later.cell y3
        go_wp2_with fail
        refine Draw.wp_region_later hmix (by kernel_rfl) ?_
        repeat (go_big_quiet_step ((go_at_call 33; exact Draw.later_of (HU.out _))))
        refine wpQuiet_nil ?_
        intro wq hw'
        obtain ⟨q9, hq9⟩ := hw'
        have hBq := q9.h
        rw [← hq9] at hBq
        have B2 := hB.trans (hBq.mono hB.size)
        have x1 := ((o2.later hBq).at hlt).1
        rw [ei] at x1
        clear hq9 q9 d0 d1 d2 d3 d4 d5 d6 d7 d8 hBq c0 c1 c2 c3 y0 y1 y2 y3 x0 o2 hB ei HU
        cases u
        · go_wp2_with fail
          go_roundw
          case rel => exact ⟨k + 1, _, by omega, by go_num, rfl, HN.out.symm, B2⟩
          case measure => simp [intOf]; omega
        · go_wp2_with fail
          go_roundw
          case rel => exact ⟨k + 1, _, by omega, by go_num, rfl, HN.out.symm, B2⟩
          case measure => simp [intOf]; omega
    · have i1 : ¬ (k : Int) < ((openL l).length : Int) := by omega
      have hk0 : k = (openL l).length := by omega
      have HN : Hid (b = best saB l) := by show _ = _; rw [hb.out, hk0]; rfl
      have B2 := b1.trans (hB.mono b1.size)
      go_wp2_with fail
      go_ret
      exact ⟨by rw [HN.out]; rfl, B2⟩

theorem find_take {x : Int} : ∀ {o : List Int} {k : Nat}, k < o.length → (∀ i, i < k → ¬ x < o.getD i 0) → x < o.getD k 0 → afterL x o = o.getD k 0 := by
  intro o k hk hno hyes
  have : o.find? (fun r => decide (x < r)) = some (o.getD k 0) := by
    rw [List.find?_eq_some_iff_getElem]
    refine ⟨by simpa using hyes, k, hk, by rw [List.getD_eq_getElem?_getD, List.getElem?_eq_getElem hk]; rfl, fun j hj => ?_⟩
    have := hno j hj
    rw [List.getD_eq_getElem?_getD, List.getElem?_eq_getElem (by omega)] at this
    simpa using this
  simp only [afterL, this, Option.getD_some]
theorem find_none {x : Int} {o : List Int} (hno : ∀ i, i < o.length → ¬ x < o.getD i 0) (h0 : o ≠ []) : afterL x o = o.getD 0 0 := by
  have : o.find? (fun r => decide (x < r)) = none := by
    rw [List.find?_eq_none]
    intro y hy
    obtain ⟨i, hi, rfl⟩ := List.getElem_of_mem hy
    have := hno i hi
    rw [List.getD_eq_getElem?_getD, List.getElem?_eq_getElem hi] at this
    simpa using this
  simp only [afterL, this, Option.getD_none]
  cases o
  · exact absurd rfl h0
  · rfl

set_option maxHeartbeats 2000000 in
theorem specAfterIt (a : Option Addr) (n cap : Nat) (l : List Rd) (z : Int) (w : World) (hn : n = l.length) (h : E.Lies w a l) (hl : l.length ≤ 2097152) :
    Calls Try.prog 16 #[.slice a n cap, .int .i64 z] w fun x w' => x = .returned (.int .i64 (afterI l z)) ∧ Below w.heap.size w w' := by
  subst hn
  have hmix := mix
  have hol := openL_len l
  go_enter Try.func16, Try.ntmps16
  go_wp2_with fail
  refine (specOpenOnes _ _ _ l _ rfl h hl).mono ?_
  rintro x w1 ⟨g, c, rfl, o1, b1⟩
  obtain ⟨v, hv⟩ : ∃ v, decide (-1 ≤ z ∧ z ≤ (l.length : Int) - 1) = v := ⟨_, rfl⟩
  go_wp2_with fail
  refine (Tak.l1InEq hv _).mono ?_
  rintro x w2 ⟨rfl, rfl⟩
  cases v
  · have HF : Hid (afterI l z = -1) := if_neg (fun q => by simp only [decide_eq_false_iff_not] at hv; exact hv q.1)
    clear hv
    go_wp2_with fail
    go_ret
    exact ⟨by rw [HF.out]; rfl, b1⟩
  by_cases h0 : (openL l).length = 0
  · have hb : decide (((openL l).length : Int) = 0) = true := by simp [h0]
    have hb' : ((openL l).length : Int) = 0 := by omega
    have HF : Hid (afterI l z = -1) := if_neg (fun q => q.2 (List.length_eq_zero_iff.1 h0))
    clear hv
    go_wp2_with fail
    go_ret
    exact ⟨by rw [HF.out]; rfl, b1⟩
  have HA : Hid (afterI l z = afterL z (openL l)) := if_pos ⟨of_decide_eq_true hv, fun e => h0 (by rw [e]; rfl)⟩
  have hb : ¬ ((openL l).length : Int) = 0 := by omega
  have hbd : decide (((openL l).length : Int) = 0) = false := decide_eq_false hb
  clear hv
  go_wp2_with fail
  go_loopw [6] (fun iv wr => ∃ k : Nat, k ≤ (openL l).length ∧ iv = .int .i64 k ∧ Hid (∀ i, i < k → ¬ z < (openL l).getD i 0) ∧ Below w1.heap.size w1 wr) (fun iv _ => (openL l).length - (intOf iv).toNat)
  case atStart => exact ⟨0, Nat.zero_le _, rfl, fun i hi => absurd hi (by omega), Below.refl _ _⟩
  case round =>
    obtain ⟨k, hk, rfl, hno, hB⟩ := hrel
    have o2 := o1.later hB
    have B2 := b1.trans (hB.mono b1.size)
    by_cases hlt : k < (openL l).length
    · have i0 : (0 : Int) ≤ (k : Int) := by omega
      have i1 : (k : Int) < ((openL l).length : Int) := by omega
      have x0 := (o2.at hlt).1
      obtain ⟨y, HY⟩ : ∃ y, Hid ((openL l).getD k 0 = y) := ⟨_, rfl⟩
      rw [HY.out] at x0
      by_cases hy : z < y
      · have HF : Hid (afterL z (openL l) = y) := by show _ = _; rw [find_take hlt hno.out (by rw [HY.out]; exact hy), HY.out]
        go_wp2_with fail
        go_ret
        exact ⟨by rw [HA.out, HF.out]; rfl, B2⟩
      · have HN : Hid (∀ i, i < k + 1 → ¬ z < (openL l).getD i 0) := fun i hi => by
          by_cases e : i = k
          · rw [e, HY.out]; exact hy
          · exact hno.out i (by omega)
        go_wp2_with fail
        go_roundw
        case rel => exact ⟨k + 1, by omega, by go_num, HN, hB⟩
        case measure => simp [intOf]; omega
    · have i1 : ¬ (k : Int) < ((openL l).length : Int) := by omega
      have j1 : (0 : Int) < ((openL l).length : Int) := by omega
      have hl0 : 0 < (openL l).length := by omega
      have x0 := (o2.at hl0).1
      have HF : Hid (afterL z (openL l) = (openL l).getD 0 0) := find_none (fun i hi => hno.out i (by omega)) (fun e => h0 (by rw [e]; rfl))
      obtain ⟨y, HY⟩ : ∃ y, Hid ((openL l).getD 0 0 = y) := ⟨_, rfl⟩
      rw [HY.out] at x0
      go_wp2_with fail
      go_ret
      exact ⟨by rw [HA.out, HF.out, HY.out]; rfl, B2⟩

set_option maxHeartbeats 2000000 in
theorem specChosen (a : Option Addr) (n cap : Nat) (l : List Rd) (y z : Int) (w : World) (hn : n = l.length) (h : E.Lies w a l) (hl : l.length ≤ 2097152) :
    Calls Try.prog 14 #[.slice a n cap, .int .i64 y, .int .i64 z] w fun x w' => x = .returned (.int .i64 (chosenI l y z)) ∧ Below w.heap.size w w' := by
  subst hn
  by_cases h1 : y = 1
  · subst h1
    go_enter Try.func14, Try.ntmps14
    go_wp2_with fail
    refine (specCheapest _ _ _ l _ rfl h hl).mono ?_
    rintro x w1 ⟨rfl, b1⟩
    go_wp2_with fail
    go_ret
    exact ⟨rfl, b1⟩
  by_cases h2 : y = 2
  · subst h2
    go_enter Try.func14, Try.ntmps14
    go_wp2_with fail
    refine (specAfterIt _ _ _ l _ _ rfl h hl).mono ?_
    rintro x w1 ⟨rfl, b1⟩
    go_wp2_with fail
    go_ret
    exact ⟨rfl, b1⟩
  by_cases h3 : y = 3
  · subst h3
    go_enter Try.func14, Try.ntmps14
    go_wp2_with fail
    refine (specSafest _ _ _ l _ rfl h hl).mono ?_
    rintro x w1 ⟨rfl, b1⟩
    go_wp2_with fail
    go_ret
    exact ⟨rfl, b1⟩
  have HF : Hid (chosenI l y z = -1) := by show _ = _; simp [chosenI, h1, h2, h3]
  go_enter Try.func14, Try.ntmps14
  go_wp2_with fail
  go_ret
  exact ⟨by rw [HF.out]; rfl, Below.refl _ _⟩

end Go.Proofs.Ytnfdomgibkdkcaa.Roa
