/- Which road (chapter 11): contracts of the program's isCheaper, losesLess, firstOfLeast, Cheapest, Safest, AfterIt; lists of at most 2^21 roads. -/
import Derived.Test.YtnfdomgibkdkcaaChoA
import Derived.Test.YtnfdomgibkdkcaaChoB
import Derived.Test.YtnfdomgibkdkcaaRoaT
import Derived.Laws.Cover1
namespace Go.Proofs.Ytnfdomgibkdkcaa.Roa
open Go.RowKit RowG
set_option linter.unusedVariables false
set_option linter.unusedSimpArgs false

set_option maxHeartbeats 2000000 in
theorem isCheaper (a b : Rd) (w : World) : Calls Try.prog 29 #[a.v, b.v] w fun x w' => x = .returned (.bool (chB a b)) ∧ Below w.heap.size w w' := by
  obtain ⟨v, HV⟩ : ∃ v, Hid (chB a b = v) := ⟨_, rfl⟩
  rw [HV.out]
  have HE : Hid (decide (a.co < b.co) = v) := HV.out
  obtain ⟨ao, ac, ax, al⟩ := a
  obtain ⟨bo, bc, bx, bl⟩ := b
  dsimp only at *
  have bW := ((Below.refl w.heap.size w).alloc (Nat.le_refl _) (.cells #[.bool ao, .int .i64 ac, .int .i64 ax, .int .i64 al] 36)).alloc (by simp) (.cells #[.bool bo, .int .i64 bc, .int .i64 bx, .int .i64 bl] 36)
  go_enter Try.func29, Try.ntmps29
  go_wp2_with fail
  go_ret
  exact ⟨by rw [HE.out]; rfl, bW⟩

set_option maxHeartbeats 2000000 in
theorem losesLess (a b : Rd) (w : World) (ha : rdB a = true) (hb : rdB b = true) : Calls Try.prog 30 #[a.v, b.v] w fun x w' => x = .returned (.bool (saB a b)) ∧ Below w.heap.size w w' := by
  obtain ⟨a1, a2, a3, a4⟩ := m1_small ha
  obtain ⟨b1, b2, b3, b4⟩ := m1_small hb
  have p := prod_small a3 a4 b1 b2
  have q := prod_small b3 b4 a1 a2
  obtain ⟨v, HV⟩ : ∃ v, Hid (saB a b = v) := ⟨_, rfl⟩
  rw [HV.out]
  have hv := HV.out
  unfold saB at hv
  obtain ⟨ao, ac, ax, al⟩ := a
  obtain ⟨bo, bc, bx, bl⟩ := b
  dsimp only at *
  have HE : Hid (decide (wrap64 (al * m1 bx) < wrap64 (bl * m1 ax)) = v) := by show _ = _; rw [wrapMul p, wrapMul q]; exact hv
  clear p q hv
  have hmix := mix
  have v0 : Var 36 (w.alloc (.cells #[.bool ao, .int .i64 ac, .int .i64 ax, .int .i64 al] 36)) w.heap.size [.bool ao, .int .i64 ac, .int .i64 ax, .int .i64 al] := Var.new w _
  have v1 : Var 36 ((w.alloc (.cells #[.bool ao, .int .i64 ac, .int .i64 ax, .int .i64 al] 36)).alloc (.cells #[.bool bo, .int .i64 bc, .int .i64 bx, .int .i64 bl] 36)) (w.heap.size + 1) [.bool bo, .int .i64 bc, .int .i64 bx, .int .i64 bl] := by
    have := Var.new (T := 36) (w.alloc (.cells #[.bool ao, .int .i64 ac, .int .i64 ax, .int .i64 al] 36)) [.bool bo, .int .i64 bc, .int .i64 bx, .int .i64 bl]
    simpa using this
  replace v0 := v0.alloc (.cells #[.bool bo, .int .i64 bc, .int .i64 bx, .int .i64 bl] 36)
  have bW := ((Below.refl w.heap.size w).alloc (Nat.le_refl _) (.cells #[.bool ao, .int .i64 ac, .int .i64 ax, .int .i64 al] 36)).alloc (by simp) (.cells #[.bool bo, .int .i64 bc, .int .i64 bx, .int .i64 bl] 36)
  clear v0 v1 a1 a2 b1 b2 ha hb HV a3 a4 b3 b4
  by_cases hx : bx < 1 <;> by_cases hy : ax < 1
  · have HV : Hid (decide (wrap64 al < wrap64 bl) = v) := by show _ = _; have := HE.out; simpa [m1, hx, hy] using this
    clear HE
    go_enter Try.func30, Try.ntmps30
    go_wp2_with fail
    go_ret
    exact ⟨by rw [HV.out]; rfl, bW⟩
  · have HV : Hid (decide (wrap64 al < wrap64 (bl * ax)) = v) := by show _ = _; have := HE.out; simpa [m1, hx, hy] using this
    clear HE
    have hy' : 1 ≤ ax := by omega
    go_enter Try.func30, Try.ntmps30
    go_wp2_with fail
    go_ret
    exact ⟨by rw [HV.out]; rfl, bW⟩
  · have HV : Hid (decide (wrap64 (al * bx) < wrap64 bl) = v) := by show _ = _; have := HE.out; simpa [m1, hx, hy] using this
    clear HE
    have hx' : 1 ≤ bx := by omega
    go_enter Try.func30, Try.ntmps30
    go_wp2_with fail
    go_ret
    exact ⟨by rw [HV.out]; rfl, bW⟩
  · have HV : Hid (decide (wrap64 (al * bx) < wrap64 (bl * ax)) = v) := by show _ = _; have := HE.out; simpa [m1, hx, hy] using this
    clear HE
    have hx' : 1 ≤ bx := by omega
    have hy' : 1 ≤ ax := by omega
    go_enter Try.func30, Try.ntmps30
    go_wp2_with fail
    go_ret
    exact ⟨by rw [HV.out]; rfl, bW⟩

set_option maxRecDepth 10000 in
set_option maxHeartbeats 2000000 in
theorem firstOfLeast (F : FuncId) (less : Rd → Rd → Bool) (hFF : F = 29 ∨ F = 30) (hF : ∀ (r s : Rd) (w1 : World), rdB r = true → rdB s = true → Calls Try.prog F #[r.v, s.v] w1 fun x w' => x = .returned (.bool (less r s)) ∧ Below w1.heap.size w1 w')
    (a : Option Addr) (n cap : Nat) (l : List Rd) (w : World) (hn : n = l.length) (h : E.Lies w a l) (hl : l.length ≤ 2097152) :
    Calls Try.prog 28 #[.slice a n cap, .func (.func F) #[] #[]] w fun x w' => x = .returned (.int .i64 (best less l)) ∧ Below w.heap.size w w' := by
  subst hn
  have hmix := mix
  have hol := openL_len l
  rcases hFF with rfl | rfl
  · go_enter Try.func28, Try.ntmps28
    go_wp2_with fail
    refine (implOpenOnes _ _ _ l _ rfl h hl).mono ?_
    rintro x w1 ⟨g, c, rfl, o1, b1⟩
    have h1 := h.later b1
    have HF : Hid _ := hF
    clear hF
    go_wp2_with fail
    go_loopw [5, 11] (fun bv iv wr => ∃ (k : Nat) (b : Int), k ≤ (openL l).length ∧ iv = .int .i64 k ∧ bv = .int .i64 b ∧ Hid (b = bestN less l k) ∧ Below w1.heap.size w1 wr) (fun _ iv _ => (openL l).length - (intOf iv).toNat)
    case atStart => exact ⟨0, _, Nat.zero_le _, rfl, rfl, (best_zero _ _).symm, Below.refl _ _⟩
    case round =>
      obtain ⟨k, b, hk, rfl, rfl, hb, hB⟩ := hrel
      by_cases hlt : k < (openL l).length
      · have i0 : (0 : Int) ≤ (k : Int) := by omega
        have i1 : (k : Int) < ((openL l).length : Int) := by omega
        obtain ⟨hr, i, hi, ei, hop⟩ := open_at hlt
        have o2 := o1.later hB
        have x0 := (o2.at hlt).1
        rw [ei] at x0
        have j0 : (0 : Int) ≤ (i : Int) := by omega
        have j1 : (i : Int) < (l.length : Int) := by omega
        rcases h1.later hB with hs | ⟨bb, off, rfl, hs⟩
        · simp [hs] at hi
        obtain ⟨c0, c1, c2, c3⟩ := cells4 hs hi
        rcases best_nat less hk with e | ⟨j, hj, e⟩
        · have hb1 : b = -1 := by rw [hb.out, e]
          subst hb1
          have HN : Hid ((i : Int) = bestN less l (k + 1)) := by show _ = _; rw [best_none _ hlt e, ei]
          clear hs hop hr e hb c0 c1 c2 c3 ei HF
          go_wp2_with fail
          refine Draw.wp_region_later hmix (by kernel_rfl) ?_
          repeat (go_big_quiet_step (fail))
          refine wpQuiet_nil ?_
          intro wq hw'
          obtain ⟨q9, hq9⟩ := hw'
          have hBq := q9.h
          rw [← hq9] at hBq
          have B2 := hB.trans (hBq.mono hB.size)
          clear hq9 q9 hBq x0 o2 hB
          go_wp2_with fail
          go_roundw
          case rel => exact ⟨k + 1, _, by omega, by go_num, rfl, HN, B2⟩
          case measure => simp [intOf]; omega
        · have hb1 : b = (j : Int) := by rw [hb.out, e]
          subst hb1
          have q0 : (0 : Int) ≤ (j : Int) := by omega
          have q1 : (j : Int) < (l.length : Int) := by omega
          have q2 : ¬ (j : Int) = -1 := by omega
          have q3 : ((j : Int) == -1) = false := beq_eq_false_iff_ne.2 q2
          obtain ⟨y0, y1, y2, y3⟩ := cells4 hs hj
          have hst := best_some less hlt e ei
          have hri := rd_of hr hi
          have hrj := rd_of hr hj
          obtain ⟨u, hu⟩ : ∃ u, less (at' l i) (at' l j) = u := ⟨_, rfl⟩
          rw [hu] at hst
          have HU : Hid (∀ w, Calls Try.prog 29 #[(at' l i).v, (at' l j).v] w fun x w' => x = .returned (.bool u) ∧ Below w.heap.size w w') := fun w => by
            have := HF.out (at' l i) (at' l j) w hri hrj
            rw [hu] at this
            exact this
          clear hs hop hr e hb hu hri hrj HF
          have HN : Hid _ := hst
          clear hst
          generalize at' l i = A at *
          generalize at' l j = C at *
          obtain ⟨ao, ac, ax, al⟩ := A
          obtain ⟨bo, bc, bx, bl⟩ := C
          dsimp only at *
          go_wp2_with fail
          have d1 := Draw.Later.cell c0
          have d2 := Draw.Later.cell c1
          have d3 := Draw.Later.cell c2
          have d4 := Draw.Later.cell c3
          have d5 := Draw.Later.cell y0
          have d6 := Draw.Later.cell y1
          have d7 := Draw.Later.cell y2
          have d8 := Draw.Later.cell y3
          refine Draw.wp_region_later hmix (by kernel_rfl) ?_
          repeat (go_big_quiet_step ((go_at_call 29; exact Draw.later_of (HU.out _))))
          refine wpQuiet_nil ?_
          intro wq hw'
          obtain ⟨q9, hq9⟩ := hw'
          have hBq := q9.h
          rw [← hq9] at hBq
          have B2 := hB.trans (hBq.mono hB.size)
          clear hq9 q9 d1 d2 d3 d4 d5 d6 d7 d8 hBq c0 c1 c2 c3 y0 y1 y2 y3 x0 o2 hB ei HU
          cases u
          · go_wp2_with fail
            go_roundw
            case rel => exact ⟨k + 1, _, by omega, by go_num, rfl, HN.out.symm, B2⟩
            case measure => simp [intOf]; omega
          · go_wp2_with fail
            go_roundw
            case rel => exact ⟨k + 1, _, by omega, by go_num, rfl, HN.out.symm, B2⟩
            case measure => simp [intOf]; omega
      · have i1 : ¬ (k : Int) < ((openL l).length : Int) := by omega
        have hk0 : k = (openL l).length := by omega
        have HN : Hid (b = best less l) := by show _ = _; rw [hb.out, hk0]; rfl
        have B2 := b1.trans (hB.mono b1.size)
        go_wp2_with fail
        go_ret
        exact ⟨by rw [HN.out]; rfl, B2⟩
  · go_enter Try.func28, Try.ntmps28
    go_wp2_with fail
    refine (implOpenOnes _ _ _ l _ rfl h hl).mono ?_
    rintro x w1 ⟨g, c, rfl, o1, b1⟩
    have h1 := h.later b1
    have HF : Hid _ := hF
    clear hF
    go_wp2_with fail
    go_loopw [5, 11] (fun bv iv wr => ∃ (k : Nat) (b : Int), k ≤ (openL l).length ∧ iv = .int .i64 k ∧ bv = .int .i64 b ∧ Hid (b = bestN less l k) ∧ Below w1.heap.size w1 wr) (fun _ iv _ => (openL l).length - (intOf iv).toNat)
    case atStart => exact ⟨0, _, Nat.zero_le _, rfl, rfl, (best_zero _ _).symm, Below.refl _ _⟩
    case round =>
      obtain ⟨k, b, hk, rfl, rfl, hb, hB⟩ := hrel
      by_cases hlt : k < (openL l).length
      · have i0 : (0 : Int) ≤ (k : Int) := by omega
        have i1 : (k : Int) < ((openL l).length : Int) := by omega
        obtain ⟨hr, i, hi, ei, hop⟩ := open_at hlt
        have o2 := o1.later hB
        have x0 := (o2.at hlt).1
        rw [ei] at x0
        have j0 : (0 : Int) ≤ (i : Int) := by omega
        have j1 : (i : Int) < (l.length : Int) := by omega
        rcases h1.later hB with hs | ⟨bb, off, rfl, hs⟩
        · simp [hs] at hi
        obtain ⟨c0, c1, c2, c3⟩ := cells4 hs hi
        rcases best_nat less hk with e | ⟨j, hj, e⟩
        · have hb1 : b = -1 := by rw [hb.out, e]
          subst hb1
          have HN : Hid ((i : Int) = bestN less l (k + 1)) := by show _ = _; rw [best_none _ hlt e, ei]
          clear hs hop hr e hb c0 c1 c2 c3 ei HF
          go_wp2_with fail
          refine Draw.wp_region_later hmix (by kernel_rfl) ?_
          repeat (go_big_quiet_step (fail))
          refine wpQuiet_nil ?_
          intro wq hw'
          obtain ⟨q9, hq9⟩ := hw'
          have hBq := q9.h
          rw [← hq9] at hBq
          have B2 := hB.trans (hBq.mono hB.size)
          clear hq9 q9 hBq x0 o2 hB
          go_wp2_with fail
          go_roundw
          case rel => exact ⟨k + 1, _, by omega, by go_num, rfl, HN, B2⟩
          case measure => simp [intOf]; omega
        · have hb1 : b = (j : Int) := by rw [hb.out, e]
          subst hb1
          have q0 : (0 : Int) ≤ (j : Int) := by omega
          have q1 : (j : Int) < (l.length : Int) := by omega
          have q2 : ¬ (j : Int) = -1 := by omega
          have q3 : ((j : Int) == -1) = false := beq_eq_false_iff_ne.2 q2
          obtain ⟨y0, y1, y2, y3⟩ := cells4 hs hj
          have hst := best_some less hlt e ei
          have hri := rd_of hr hi
          have hrj := rd_of hr hj
          obtain ⟨u, hu⟩ : ∃ u, less (at' l i) (at' l j) = u := ⟨_, rfl⟩
          rw [hu] at hst
          have HU : Hid (∀ w, Calls Try.prog 30 #[(at' l i).v, (at' l j).v] w fun x w' => x = .returned (.bool u) ∧ Below w.heap.size w w') := fun w => by
            have := HF.out (at' l i) (at' l j) w hri hrj
            rw [hu] at this
            exact this
          clear hs hop hr e hb hu hri hrj HF
          have HN : Hid _ := hst
          clear hst
          generalize at' l i = A at *
          generalize at' l j = C at *
          obtain ⟨ao, ac, ax, al⟩ := A
          obtain ⟨bo, bc, bx, bl⟩ := C
          dsimp only at *
          go_wp2_with fail
          have d1 := Draw.Later.cell c0
          have d2 := Draw.Later.cell c1
          have d3 := Draw.Later.cell c2
          have d4 := Draw.Later.cell c3
          have d5 := Draw.Later.cell y0
          have d6 := Draw.Later.cell y1
          have d7 := Draw.Later.cell y2
          have d8 := Draw.Later.cell y3
          refine Draw.wp_region_later hmix (by kernel_rfl) ?_
          repeat (go_big_quiet_step ((go_at_call 30; exact Draw.later_of (HU.out _))))
          refine wpQuiet_nil ?_
          intro wq hw'
          obtain ⟨q9, hq9⟩ := hw'
          have hBq := q9.h
          rw [← hq9] at hBq
          have B2 := hB.trans (hBq.mono hB.size)
          clear hq9 q9 d1 d2 d3 d4 d5 d6 d7 d8 hBq c0 c1 c2 c3 y0 y1 y2 y3 x0 o2 hB ei HU
          cases u
          · go_wp2_with fail
            go_roundw
            case rel => exact ⟨k + 1, _, by omega, by go_num, rfl, HN.out.symm, B2⟩
            case measure => simp [intOf]; omega
          · go_wp2_with fail
            go_roundw
            case rel => exact ⟨k + 1, _, by omega, by go_num, rfl, HN.out.symm, B2⟩
            case measure => simp [intOf]; omega
      · have i1 : ¬ (k : Int) < ((openL l).length : Int) := by omega
        have hk0 : k = (openL l).length := by omega
        have HN : Hid (b = best less l) := by show _ = _; rw [hb.out, hk0]; rfl
        have B2 := b1.trans (hB.mono b1.size)
        go_wp2_with fail
        go_ret
        exact ⟨by rw [HN.out]; rfl, B2⟩

set_option maxHeartbeats 2000000 in
theorem implCheapest (a : Option Addr) (n cap : Nat) (l : List Rd) (w : World) (hn : n = l.length) (h : E.Lies w a l) (hl : l.length ≤ 2097152) :
    Calls Try.prog 12 #[.slice a n cap] w fun x w' => x = .returned (.int .i64 (best chB l)) ∧ Below w.heap.size w w' := by
  subst hn
  go_enter Try.func12, Try.ntmps12
  go_wp2_with fail
  refine (firstOfLeast _ chB (.inl rfl) (fun r s w1 _ _ => isCheaper r s w1) _ _ _ l _ rfl h hl).mono ?_
  rintro x w1 ⟨rfl, b1⟩
  go_wp2_with fail
  go_ret
  exact ⟨rfl, b1⟩

set_option maxHeartbeats 2000000 in
theorem implSafest (a : Option Addr) (n cap : Nat) (l : List Rd) (w : World) (hn : n = l.length) (h : E.Lies w a l) (hl : l.length ≤ 2097152) :
    Calls Try.prog 13 #[.slice a n cap] w fun x w' => x = .returned (.int .i64 (best saB l)) ∧ Below w.heap.size w w' := by
  subst hn
  go_enter Try.func13, Try.ntmps13
  go_wp2_with fail
  refine (firstOfLeast _ saB (.inr rfl) (fun r s w1 hr hs => losesLess r s w1 hr hs) _ _ _ l _ rfl h hl).mono ?_
  rintro x w1 ⟨rfl, b1⟩
  go_wp2_with fail
  go_ret
  exact ⟨rfl, b1⟩

end Go.Proofs.Ytnfdomgibkdkcaa.Roa
