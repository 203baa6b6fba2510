/- Which road (chapter 11): plain mathematics (the first of the least among the open ones, the next one, the chosen one) and contracts of the specification's Cheapest, AfterIt, Safest, Chosen; lists of at most 2^21 roads. -/
import Derived.Test.YtnfdomgibkdkcaaRoaB
import Derived.Test.YtnfdomgibkdkcaaRoaU
import Derived.Test.YtnfdomgibkdkcaaRoaS
import Derived.Test.YtnfdomgibkdkcaaDrawB
namespace Go.Proofs.Ytnfdomgibkdkcaa.Roa
open Go.RowKit RowG
set_option linter.unusedVariables false
set_option linter.unusedSimpArgs false

def chB (a b : Rd) : Bool := decide (a.co < b.co)
def m1 (x : Int) : Int := if x < 1 then 1 else x
def saB (a b : Rd) : Bool := decide (a.lo * m1 b.se < b.lo * m1 a.se)
def stepI (less : Rd → Rd → Bool) (l : List Rd) (b r : Int) : Int := if decide (b < 0) || less (at' l r.toNat) (at' l b.toNat) then r else b
def bestN (less : Rd → Rd → Bool) (l : List Rd) (k : Nat) : Int := ((openL l).take k).foldl (stepI less l) (-1)
def best (less : Rd → Rd → Bool) (l : List Rd) : Int := bestN less l (openL l).length
def afterL (x : Int) (o : List Int) : Int := (o.find? fun r => decide (x < r)).getD (o.getD 0 (-1))
def afterI (l : List Rd) (x : Int) : Int := if (-1 ≤ x ∧ x ≤ (l.length : Int) - 1) ∧ openL l ≠ [] then afterL x (openL l) else -1
def chosenI (l : List Rd) (way x : Int) : Int := if way = 1 then best chB l else if way = 2 then afterI l x else if way = 3 then best saB l else -1

theorem roads_len {l : List Rd} (h : roadsB l = true) : 1 ≤ l.length ∧ l.length ≤ 4 := by
  simp only [roadsB, Bool.and_eq_true, decide_eq_true_eq] at h
  exact h.2
theorem rd_of {l : List Rd} (h : roadsB l = true) {k : Nat} (hk : k < l.length) : rdB (at' l k) = true := by
  cases q : rdB (at' l k)
  · rw [rd_false hk q] at h; cases h
  · rfl
theorem open_mem {l : List Rd} {x : Int} (h : x ∈ openL l) : roadsB l = true ∧ ∃ j : Nat, j < l.length ∧ x = (j : Int) ∧ (at' l j).op = true := by
  unfold openL at h
  split at h
  · rename_i hr
    obtain ⟨i, hi, e, ho⟩ := (openN_mem l 0 x).1 h
    exact ⟨hr, i, hi, by simpa using e, ho⟩
  · cases h
theorem mem_open {l : List Rd} (hr : roadsB l = true) {j : Nat} (hj : j < l.length) (ho : (at' l j).op = true) : (j : Int) ∈ openL l := by
  simp only [openL, hr, if_true]
  exact (openN_mem l 0 _).2 ⟨j, hj, by simp, ho⟩
theorem getD_mem {o : List Int} {k : Nat} (h : k < o.length) : o.getD k 0 ∈ o := by
  rw [List.getD_eq_getElem?_getD, List.getElem?_eq_getElem h]
  exact List.getElem_mem h
theorem open_at {l : List Rd} {k : Nat} (h : k < (openL l).length) : roadsB l = true ∧ ∃ j : Nat, j < l.length ∧ (openL l).getD k 0 = (j : Int) ∧ (at' l j).op = true := open_mem (getD_mem h)
theorem take_getD {o : List Int} {k : Nat} (h : k < o.length) : o.take (k + 1) = o.take k ++ [o.getD k 0] := by
  rw [List.take_add_one, List.getD_eq_getElem?_getD, List.getElem?_eq_getElem h]
  rfl
theorem best_step (less : Rd → Rd → Bool) {l : List Rd} {k : Nat} (h : k < (openL l).length) : bestN less l (k + 1) = stepI less l (bestN less l k) ((openL l).getD k 0) := by
  simp only [bestN]
  rw [take_getD h, List.foldl_append]
  rfl
theorem best_zero (less : Rd → Rd → Bool) (l : List Rd) : bestN less l 0 = -1 := by simp [bestN]
theorem best_form (less : Rd → Rd → Bool) (l : List Rd) : ∀ k, k ≤ (openL l).length → bestN less l k = -1 ∨ bestN less l k ∈ openL l
  | 0, _ => .inl (best_zero less l)
  | k + 1, h => by
    rw [best_step less (by omega)]
    unfold stepI
    split
    · exact .inr (getD_mem (by omega))
    · exact best_form less l k (by omega)
theorem best_nat (less : Rd → Rd → Bool) {l : List Rd} {k : Nat} (h : k ≤ (openL l).length) : bestN less l k = -1 ∨ ∃ j : Nat, j < l.length ∧ bestN less l k = (j : Int) := by
  rcases best_form less l k h with e | e
  · exact .inl e
  · obtain ⟨_, j, hj, e, _⟩ := open_mem e
    exact .inr ⟨j, hj, e⟩
theorem best_none (less : Rd → Rd → Bool) {l : List Rd} {k : Nat} (h : k < (openL l).length) (hb : bestN less l k = -1) : bestN less l (k + 1) = (openL l).getD k 0 := by
  rw [best_step less h, hb]
  simp [stepI]
theorem best_some (less : Rd → Rd → Bool) {l : List Rd} {k j i : Nat} (h : k < (openL l).length) (hb : bestN less l k = (j : Int)) (hi : (openL l).getD k 0 = (i : Int)) : bestN less l (k + 1) = if less (at' l i) (at' l j) then (i : Int) else (j : Int) := by
  rw [best_step less h, hb, hi]
  have : ¬ (j : Int) < 0 := by omega
  simp [stepI, this]
theorem prod_small {a b : Int} (h0 : 0 ≤ a) (h1 : a ≤ 1000000000) (h2 : 1 ≤ b) (h3 : b ≤ 1000000000) : 0 ≤ a * b ∧ a * b ≤ 1000000000000000000 := by
  refine ⟨Int.mul_nonneg h0 (by omega), ?_⟩
  have q := Int.mul_le_mul h1 h3 (by omega) (by omega)
  omega
theorem m1_small {r : Rd} (h : rdB r = true) : 1 ≤ m1 r.se ∧ m1 r.se ≤ 1000000000 ∧ 0 ≤ r.lo ∧ r.lo ≤ 1000000000 := by
  simp only [rdB, Num.plB, Bool.and_eq_true, decide_eq_true_eq] at h
  unfold m1
  split <;> omega

theorem wrapMul {x y : Int} (h : 0 ≤ x * y ∧ x * y ≤ 1000000000000000000) : wrap64 (x * y) = x * y := by
  unfold wrap64
  omega
theorem l1MaxEq {x m : Int} (h : m1 x = m) (w : World) : Calls Try.prog 44 #[.int .i64 1, .int .i64 x] w fun e w' => e = .returned (.int .i64 m) ∧ w = w' := by
  subst h
  exact Draw.l1Max 1 x w

set_option maxHeartbeats 2000000 in
theorem l11Less (a b : Rd) (w : World) (ha : rdB a = true) (hb : rdB b = true) : Calls Try.prog 33 #[a.v, b.v] w fun x w' => x = .returned (.bool (saB a b)) ∧ Below w.heap.size w w' := by
  obtain ⟨a1, a2, a3, a4⟩ := m1_small ha
  obtain ⟨b1, b2, b3, b4⟩ := m1_small hb
  have p := prod_small a3 a4 b1 b2
  have q := prod_small b3 b4 a1 a2
  obtain ⟨v, HV⟩ : ∃ v, Hid (saB a b = v) := ⟨_, rfl⟩
  rw [HV.out]
  have hv := HV.out
  unfold saB at hv
  obtain ⟨ao, ac, ax, al⟩ := a
  obtain ⟨bo, bc, bx, bl⟩ := b
  dsimp only at *
  have hma := fun w => l1MaxEq (x := ax) rfl w
  have hmb := fun w => l1MaxEq (x := bx) rfl w
  clear ha hb a1 a2 b1 b2 HV
  generalize m1 ax = ma at *
  generalize m1 bx = mb at *
  have HA : Hid _ := hma
  have HB : Hid _ := hmb
  clear hma hmb
  have HE : Hid (decide (wrap64 (al * mb) < wrap64 (bl * ma)) = v) := by show _ = _; rw [wrapMul p, wrapMul q]; exact hv
  clear p q hv
  have hmix := mix
  have v0 : Var 36 (w.alloc (.cells #[.bool ao, .int .i64 ac, .int .i64 ax, .int .i64 al] 36)) w.heap.size [.bool ao, .int .i64 ac, .int .i64 ax, .int .i64 al] := Var.new w _
  have v1 : Var 36 ((w.alloc (.cells #[.bool ao, .int .i64 ac, .int .i64 ax, .int .i64 al] 36)).alloc (.cells #[.bool bo, .int .i64 bc, .int .i64 bx, .int .i64 bl] 36)) (w.heap.size + 1) [.bool bo, .int .i64 bc, .int .i64 bx, .int .i64 bl] := by
    have := Var.new (T := 36) (w.alloc (.cells #[.bool ao, .int .i64 ac, .int .i64 ax, .int .i64 al] 36)) [.bool bo, .int .i64 bc, .int .i64 bx, .int .i64 bl]
    simpa using this
  replace v0 := v0.alloc (.cells #[.bool bo, .int .i64 bc, .int .i64 bx, .int .i64 bl] 36)
  have bW := ((Below.refl w.heap.size w).alloc (Nat.le_refl _) (.cells #[.bool ao, .int .i64 ac, .int .i64 ax, .int .i64 al] 36)).alloc (by simp) (.cells #[.bool bo, .int .i64 bc, .int .i64 bx, .int .i64 bl] 36)
  go_enter Try.func33, Try.ntmps33
  go_wp2_with fail
  generalize (w.alloc (.cells #[.bool ao, .int .i64 ac, .int .i64 ax, .int .i64 al] 36)).alloc (.cells #[.bool bo, .int .i64 bc, .int .i64 bx, .int .i64 bl] 36) = W at *
  have d0 := Draw.Later.cell (v0.cell (i := 2) rfl)
  have d1 := Draw.Later.cell (v0.cell (i := 3) rfl)
  have d2 := Draw.Later.cell (v1.cell (i := 2) rfl)
  have d3 := Draw.Later.cell (v1.cell (i := 3) rfl)
  refine Draw.wp_region_later hmix (by kernel_rfl) ?_
  repeat (go_big_quiet_step ((go_at_call 44; first | (with_reducible exact Draw.later_same (HA.out _)) | (with_reducible exact Draw.later_same (HB.out _)))))
  refine wpQuiet_nil ?_
  intro wq hw'
  obtain ⟨q9, hq9⟩ := hw'
  have hBq := q9.h
  rw [← hq9] at hBq
  have B2 := bW.trans (hBq.mono bW.size)
  clear hq9 q9 d0 d1 d2 d3 hBq bW v0 v1
  go_wp2_with fail
  go_ret
  exact ⟨by rw [HE.out]; rfl, B2⟩

set_option maxHeartbeats 2000000 in
theorem specCheapest (a : Option Addr) (n cap : Nat) (l : List Rd) (w : World) (hn : n = l.length) (h : E.Lies w a l) (hl : l.length ≤ 2097152) :
    Calls Try.prog 17 #[.slice a n cap] w fun x w' => x = .returned (.int .i64 (best chB l)) ∧ Below w.heap.size w w' := by
  subst hn
  have hmix := mix
  go_enter Try.func17, Try.ntmps17
  go_wp2_with fail
  refine (specOpenOnes _ _ _ l _ rfl h hl).mono ?_
  rintro x w1 ⟨g, c, rfl, o1, b1⟩
  have h1 := h.later b1
  have hol := openL_len l
  go_wp2_with fail
  go_loopw [3, 5] (fun bv iv wr => ∃ (k : Nat) (b : Int), k ≤ (openL l).length ∧ iv = .int .i64 k ∧ bv = .int .i64 b ∧ Hid (b = bestN chB l k) ∧ Below w1.heap.size w1 wr) (fun _ iv _ => (openL l).length - (intOf iv).toNat)
  case atStart => exact ⟨0, _, Nat.zero_le _, rfl, rfl, (best_zero _ _).symm, Below.refl _ _⟩
  case round =>
    obtain ⟨k, b, hk, rfl, rfl, hb, hB⟩ := hrel
    by_cases hlt : k < (openL l).length
    · have i0 : (0 : Int) ≤ (k : Int) := by omega
      have i1 : (k : Int) < ((openL l).length : Int) := by omega
      obtain ⟨hr, i, hi, ei, hop⟩ := open_at hlt
      have o2 := o1.later hB
      have x0 := (o2.at hlt).1
      rw [ei] at x0
      have j0 : (0 : Int) ≤ (i : Int) := by omega
      have j1 : (i : Int) < (l.length : Int) := by omega
      rcases h1.later hB with hs | ⟨bb, off, rfl, hs⟩
      · simp [hs] at hi
      obtain ⟨_, c1, _, _⟩ := cells4 hs hi
      rcases best_nat chB hk with e | ⟨j, hj, e⟩
      · have hb1 : b = -1 := by rw [hb.out, e]
        subst hb1
        have HN : Hid ((i : Int) = bestN chB l (k + 1)) := by show _ = _; rw [best_none _ hlt e, ei]
        clear hs hop hr e hb
        have d0 := Draw.Later.cell x0
        have d1 := Draw.Later.cell c1
        go_wp2_with fail
        refine Draw.wp_region_later hmix (by kernel_rfl) ?_
        repeat (go_big_quiet_step (fail))
        refine wpQuiet_nil ?_
        intro wq hw'
        obtain ⟨q9, hq9⟩ := hw'
        have hBq := q9.h
        rw [← hq9] at hBq
        have B2 := hB.trans (hBq.mono hB.size)
        have x1 := ((o2.later hBq).at hlt).1
        rw [ei] at x1
        clear hq9 q9 d0 d1 hBq c1 x0 o2 hB ei
        go_wp2_with fail
        go_roundw
        case rel => exact ⟨k + 1, _, by omega, by go_num, rfl, HN, B2⟩
        case measure => simp [intOf]; omega
      · have hb1 : b = (j : Int) := by rw [hb.out, e]
        subst hb1
        have q0 : (0 : Int) ≤ (j : Int) := by omega
        have q1 : (j : Int) < (l.length : Int) := by omega
        have q2 : ¬ (j : Int) < 0 := by omega
        have q3 : decide ((j : Int) < 0) = false := by simp
        obtain ⟨_, c2, _, _⟩ := cells4 hs hj
        have hst := best_some chB hlt e ei
        have d0 := Draw.Later.cell x0
        have d1 := Draw.Later.cell c1
        have d2 := Draw.Later.cell c2
        obtain ⟨u, hu⟩ : ∃ u, chB (at' l i) (at' l j) = u := ⟨_, rfl⟩
        rw [hu] at hst
        have HU : Hid (decide ((at' l i).co < (at' l j).co) = u) := hu
        clear hs hop hr e hb hu
        have HN : Hid _ := hst
        clear hst
        go_wp2_with fail
        refine Draw.wp_region_later hmix (by kernel_rfl) ?_
        repeat (go_big_quiet_step (fail))
        refine wpQuiet_nil ?_
        intro wq hw'
        rw [HU.out]
        obtain ⟨q9, hq9⟩ := hw'
        have hBq := q9.h
        rw [← hq9] at hBq
        have B2 := hB.trans (hBq.mono hB.size)
        have x1 := ((o2.later hBq).at hlt).1
        rw [ei] at x1
        clear hq9 q9 d0 d1 d2 hBq c1 c2 x0 o2 hB ei HU
        cases u
        · go_wp2_with fail
          go_roundw
          case rel => exact ⟨k + 1, _, by omega, by go_num, rfl, HN.out.symm, B2⟩
          case measure => simp [intOf]; omega
        · go_wp2_with fail
          go_roundw
          case rel => exact ⟨k + 1, _, by omega, by go_num, rfl, HN.out.symm, B2⟩
          case measure => simp [intOf]; omega
    · have i1 : ¬ (k : Int) < ((openL l).length : Int) := by omega
      have hk0 : k = (openL l).length := by omega
      have HN : Hid (b = best chB l) := by show _ = _; rw [hb.out, hk0]; rfl
      have B2 := b1.trans (hB.mono b1.size)
      go_wp2_with fail
      go_ret
      exact ⟨by rw [HN.out]; rfl, B2⟩

end Go.Proofs.Ytnfdomgibkdkcaa.Roa
