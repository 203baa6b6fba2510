/- Contracts of this seat's functions, and their mathematics (DonI DonJ). -/
import Derived.Test.YtanfnphdgcnojaaGreatR54
set_option linter.unusedVariables false
set_option linter.unusedSimpArgs false
set_option maxRecDepth 10000
set_option maxHeartbeats 4000000
namespace Go.Proofs.YtanfnphdgcnojaaGreat.Wor
open Go.RowKit RowG Hop Roa Lin
def mayX (x0 x1 x2 : Ha) (i : Nat) : Bool := if i = 0 then x0.h.t.en && x1.h.g.dn else if i = 1 then x1.h.t.en && x2.h.g.dn else x2.h.t.en
def mayL (xs : List Ha) (rs : List Rd) (h : Int) : Bool := hopsB (xs.map (·.h)) rs && (decide (0 ≤ h ∧ h ≤ 2) && (match xs with | [x0, x1, x2] => mayX x0 x1 x2 h.toNat | _ => false))
def writL (xs : List Ha) (rs : List Rd) : Bool := hopsB (xs.map (·.h)) rs && (match xs with | [x0, _, _] => x0.h.g.dn | _ => false)
def endL (xs : List Ha) (rs : List Rd) : Bool := hopsB (xs.map (·.h)) rs && (match xs with | [_, _, x2] => x2.h.t.en && decide (x2.h.t.bs.size = 0) | _ => false)
theorem three' {xs : List Ha} (h3 : xs.length = 3) : ∃ x0 x1 x2, xs = [x0, x1, x2] := by
 cases xs with
 | nil => simp at h3
 | cons a xs =>
  cases xs with
  | nil => simp at h3
  | cons b xs =>
   cases xs with
   | nil => simp at h3
   | cons c xs =>
    cases xs with
    | nil => exact ⟨a, b, c, rfl⟩
    | cons d xs => simp at h3
theorem three {xs : List Ha} {rs : List Rd} (h : hopsB (xs.map (·.h)) rs = true) : ∃ x0 x1 x2, xs = [x0, x1, x2] := three' (by
 have h3 := (hops_iff.1 h).1
 rw [List.length_map] at h3
 exact h3)
theorem specWriterDone (aH aR : Option Addr) (n m cH cR : Nat) (xs : List Ha) (rs : List Rd) (w : World) (hn : n = xs.length) (hm : m = rs.length) (L : LL w aH xs) (R : Roa.E.Lies w aR rs) (hl : xs.length ≤ 1000) (hr : rs.length ≤ 1000) (hs : ∀ x ∈ xs, x.h.Sm) :
  Calls Tryz.prog 25 #[.agg #[.slice aH n cH, .slice aR m cR]] w fun e w' => e = .returned (.bool (writL xs rs)) ∧ Below w.heap.size w w' := by
 subst hn hm
 have v0 : Var 30 (w.alloc (.cells #[.slice aH xs.length cH, .slice aR rs.length cR] 30)) w.heap.size [.slice aH xs.length cH, .slice aR rs.length cR] := Var.new w _
 have BV : Below w.heap.size w (w.alloc (.cells #[.slice aH xs.length cH, .slice aR rs.length cR] 30)) := (Below.refl _ _).alloc (Nat.le_refl _) _
 have L0 := L.later BV
 have R0 := R.later BV
 have hOk := fun w' l' r' => Lin.specLineOk aH aR xs.length rs.length cH cR xs rs w' rfl rfl l' r' hl hr hs
 go_enter Tryz.func25, Tryz.ntmps25
 go_upto_region 1 with (fail)
 generalize w.alloc (.cells #[.slice aH xs.length cH, .slice aR rs.length cR] 30) = V at *
 have e0 := v0.cell (i := 0) rfl
 have e1 := v0.cell (i := 1) rfl
 go_wp2_with fail
 refine (hOk _ L0 R0).mono ?_
 rintro e W1 ⟨rfl, b1⟩
 have B1 : Below w.heap.size w W1 := BV.trans (b1.mono BV.size)
 have L1 := L0.later b1
 have R1 := R0.later b1
 have v1 := v0.later b1
 clear e0 e1 L0 R0 L R hOk v0 b1 BV
 cases hb : hopsB (xs.map (·.h)) rs
 case false =>
  go_wp2_with fail
  go_ret
  exact ⟨by simp [writL, hb], B1⟩
 have HB : Hid (hopsB (xs.map (·.h)) rs = true) := hb
 clear hb
 obtain ⟨x0, x1, x2, rfl⟩ := three HB.out
 replace HB : Hid (hopsB [x0.h, x1.h, x2.h] rs = true) := HB.out
 obtain ⟨b, off, rfl, hL1⟩ : ∃ b off, aH = some ⟨b, off, none⟩ ∧ ∀ j u, (hopE.vals [x0, x1, x2])[j]? = some u → W1.cell? ⟨b, off + j, none⟩ = some u := by
  rcases L1.row with h0 | h0
  ·cases h0
  ·exact h0
 have e0 := v1.cell (i := 0) rfl
 have e1 := v1.cell (i := 1) rfl
 dsimp only [List.length_cons, List.length_nil, Nat.reduceAdd] at e0 v1 ⊢
 have c5 : W1.cell? ⟨b, off + 5, none⟩ = some (.bool x0.h.g.dn) := El.Lies.cell hL1 (i := 0) rfl (j := 5) rfl
 clear hL1 L1 R1
 go_wp2_with fail
 go_ret
 have HM : Hid (writL [x0, x1, x2] rs = x0.h.g.dn) := by
  show (hopsB [x0.h, x1.h, x2.h] rs && x0.h.g.dn) = _
  rw [HB.out]
  rfl
 exact ⟨by rw [HM.out]; rfl, B1⟩
theorem l14MayL (b off cH n cR : Nat) (aR : Option Addr) (x0 x1 x2 : Ha) (i : Nat) (hi : i < 3) (w : World) (L : hopE.Lies w (some ⟨b, off, none⟩) [x0, x1, x2]) :
  Calls Tryz.prog 46 #[.agg #[.slice (some ⟨b, off, none⟩) 3 cH, .slice aR n cR], .int .i64 (i : Int)] w fun e w' => e = .returned (.bool (mayX x0 x1 x2 i)) ∧ Below w.heap.size w w' := by
 obtain ⟨W1, hW1⟩ : ∃ z, Hid (z = w.alloc (.cells #[.slice (some ⟨b, off, none⟩) 3 cH, .slice aR n cR] 30)) := ⟨_, rfl⟩
 have v0 : Var 30 W1 w.heap.size [.slice (some ⟨b, off, none⟩) 3 cH, .slice aR n cR] := by rw [hW1.out]; exact Var.new w _
 have BV : Below w.heap.size w W1 := by rw [hW1.out]; exact (Below.refl _ _).alloc (Nat.le_refl _) _
 have L0 := L.later BV
 have hmix := Roa.mix
 go_enter Tryz.func46, Tryz.ntmps46
 go_upto_region 1 with (fail)
 rw [← hW1.out]
 clear hW1
 have e0 := v0.cell (i := 0) rfl
 have hL1 : ∀ j u, (hopE.vals [x0, x1, x2])[j]? = some u → W1.cell? ⟨b, off + j, none⟩ = some u := by
  rcases L0 with h0 | ⟨b', off', h0, h1⟩
  ·cases h0
  ·cases h0; exact h1
 have a0 : W1.cell? ⟨b, off + 11, none⟩ = some (.bool x0.h.t.en) := El.Lies.cell hL1 (i := 0) rfl (j := 11) rfl
 have a1 : W1.cell? ⟨b, off + 13 + 11, none⟩ = some (.bool x1.h.t.en) := El.Lies.cell hL1 (i := 1) rfl (j := 11) rfl
 have a2 : W1.cell? ⟨b, off + 26 + 11, none⟩ = some (.bool x2.h.t.en) := El.Lies.cell hL1 (i := 2) rfl (j := 11) rfl
 have d1 : W1.cell? ⟨b, off + 13 + 5, none⟩ = some (.bool x1.h.g.dn) := El.Lies.cell hL1 (i := 1) rfl (j := 5) rfl
 have d2 : W1.cell? ⟨b, off + 26 + 5, none⟩ = some (.bool x2.h.g.dn) := El.Lies.cell hL1 (i := 2) rfl (j := 5) rfl
 clear hL1 L0 L v0
 have hi' : i = 0 ∨ i = 1 ∨ i = 2 := by omega
 rcases hi' with rfl | rfl | rfl
 ·cases he : x0.h.t.en
  ·go_wp2_with fail
   go_ret
   exact ⟨by simp [mayX, he], BV⟩
  ·go_wp2_with fail
   go_ret
   exact ⟨by simp [mayX, he], BV⟩
 ·cases he : x1.h.t.en
  ·go_wp2_with fail
   go_ret
   exact ⟨by simp [mayX, he], BV⟩
  ·go_wp2_with fail
   go_ret
   exact ⟨by simp [mayX, he], BV⟩
 ·cases he : x2.h.t.en
  ·go_wp2_with fail
   go_ret
   exact ⟨by simp [mayX, he], BV⟩
  ·go_wp2_with fail
   go_ret
   exact ⟨by simp [mayX, he], BV⟩
theorem l14AtEndL (b off cH n cR : Nat) (aR : Option Addr) (x0 x1 x2 : Ha) (w : World) (L : hopE.Lies w (some ⟨b, off, none⟩) [x0, x1, x2]) :
  Calls Tryz.prog 47 #[.agg #[.slice (some ⟨b, off, none⟩) 3 cH, .slice aR n cR]] w fun e w' => e = .returned (.bool (x2.h.t.en && decide (x2.h.t.bs.size = 0))) ∧ Below w.heap.size w w' := by
 obtain ⟨W1, hW1⟩ : ∃ z, Hid (z = w.alloc (.cells #[.slice (some ⟨b, off, none⟩) 3 cH, .slice aR n cR] 30)) := ⟨_, rfl⟩
 have v0 : Var 30 W1 w.heap.size [.slice (some ⟨b, off, none⟩) 3 cH, .slice aR n cR] := by rw [hW1.out]; exact Var.new w _
 have BV : Below w.heap.size w W1 := by rw [hW1.out]; exact (Below.refl _ _).alloc (Nat.le_refl _) _
 have L0 := L.later BV
 have hE := Giv.isEmpty_eq x2.h.t.bs
 obtain ⟨u, hu⟩ : ∃ u, decide (x2.h.t.bs.size = 0) = u := ⟨_, rfl⟩
 rw [hu] at hE ⊢
 clear hu
 go_enter Tryz.func47, Tryz.ntmps47
 go_upto_region 1 with (fail)
 rw [← hW1.out]
 clear hW1
 have e0 := v0.cell (i := 0) rfl
 have hL1 : ∀ j u, (hopE.vals [x0, x1, x2])[j]? = some u → W1.cell? ⟨b, off + j, none⟩ = some u := by
  rcases L0 with h0 | ⟨b', off', h0, h1⟩
  ·cases h0
  ·cases h0; exact h1
 have c7 : W1.cell? ⟨b, off + 26 + 7, none⟩ = some (.string x2.h.t.bs) := El.Lies.cell hL1 (i := 2) rfl (j := 7) rfl
 have c11 : W1.cell? ⟨b, off + 26 + 11, none⟩ = some (.bool x2.h.t.en) := El.Lies.cell hL1 (i := 2) rfl (j := 11) rfl
 clear hL1 L0 L v0
 cases he : x2.h.t.en
 ·rw [he] at c11
  go_wp2_with fail
  go_ret
  exact ⟨by rw [he]; rfl, BV⟩
 ·rw [he] at c11
  have HE : Hid (x2.h.t.bs.toList.isEmpty = u) := hE
  clear hE
  go_wp2_with fail
  go_ret
  exact ⟨by rw [he, ← HE.out]; rfl, BV⟩
theorem specMayTell (aH aR : Option Addr) (n m cH cR : Nat) (xs : List Ha) (rs : List Rd) (h : Int) (w : World) (hn : n = xs.length) (hm : m = rs.length) (L : LL w aH xs) (R : Roa.E.Lies w aR rs) (hl : xs.length ≤ 1000) (hr : rs.length ≤ 1000) (hs : ∀ x ∈ xs, x.h.Sm) :
  Calls Tryz.prog 23 #[.agg #[.slice aH n cH, .slice aR m cR], .int .i64 h] w fun e w' => e = .returned (.bool (mayL xs rs h)) ∧ Below w.heap.size w w' := by
 subst hn hm
 have v0 : Var 30 (w.alloc (.cells #[.slice aH xs.length cH, .slice aR rs.length cR] 30)) w.heap.size [.slice aH xs.length cH, .slice aR rs.length cR] := Var.new w _
 have BV : Below w.heap.size w (w.alloc (.cells #[.slice aH xs.length cH, .slice aR rs.length cR] 30)) := (Below.refl _ _).alloc (Nat.le_refl _) _
 have L0 := L.later BV
 have R0 := R.later BV
 have hOk := fun w' l' r' => Lin.specLineOk aH aR xs.length rs.length cH cR xs rs w' rfl rfl l' r' hl hr hs
 go_enter Tryz.func23, Tryz.ntmps23
 go_upto_region 1 with (fail)
 generalize w.alloc (.cells #[.slice aH xs.length cH, .slice aR rs.length cR] 30) = V at *
 have e0 := v0.cell (i := 0) rfl
 have e1 := v0.cell (i := 1) rfl
 go_wp2_with fail
 refine (hOk _ L0 R0).mono ?_
 rintro e W1 ⟨rfl, b1⟩
 have B1 : Below w.heap.size w W1 := BV.trans (b1.mono BV.size)
 have L1 := L0.later b1
 have R1 := R0.later b1
 have v1 := v0.later b1
 clear e0 e1 L0 R0 L R hOk v0 b1 BV
 cases hb : hopsB (xs.map (·.h)) rs
 case false =>
  go_wp2_with fail
  go_ret
  exact ⟨by simp [mayL, hb], B1⟩
 have HB : Hid (hopsB (xs.map (·.h)) rs = true) := hb
 clear hb
 obtain ⟨x0, x1, x2, rfl⟩ := three HB.out
 replace HB : Hid (hopsB [x0.h, x1.h, x2.h] rs = true) := HB.out
 obtain ⟨b, off, rfl, hL1⟩ : ∃ b off, aH = some ⟨b, off, none⟩ ∧ ∀ j u, (hopE.vals [x0, x1, x2])[j]? = some u → W1.cell? ⟨b, off + j, none⟩ = some u := by
  rcases L1.row with h0 | h0
  ·cases h0
  ·exact h0
 have e0 := v1.cell (i := 0) rfl
 have e1 := v1.cell (i := 1) rfl
 dsimp only [List.length_cons, List.length_nil, Nat.reduceAdd] at e0 v1 ⊢
 clear hL1
 by_cases hh : 0 ≤ h ∧ h ≤ 2
 case neg =>
  have hIn : ∀ w', Calls Tryz.prog 34 #[.int .i64 h, .int .i64 0, .int .i64 2] w' fun x w'' => x = .returned (.bool false) ∧ w' = w'' := fun w' => Tak.l1InEq (decide_eq_false hh) w'
  go_wp2_with fail
  refine (hIn _).mono ?_
  rintro e w2 ⟨rfl, rfl⟩
  go_wp2_with fail
  go_ret
  exact ⟨by simp [mayL, HB.out, hh], B1⟩
 case pos =>
  have hIn : ∀ w', Calls Tryz.prog 34 #[.int .i64 h, .int .i64 0, .int .i64 2] w' fun x w'' => x = .returned (.bool true) ∧ w' = w'' := fun w' => Tak.l1InEq (decide_eq_true hh) w'
  obtain ⟨i, rfl⟩ := Int.eq_ofNat_of_zero_le hh.1
  have hi : i < 3 := by omega
  have hM := l14MayL b off cH rs.length cR aR x0 x1 x2 i hi W1 L1.row
  have HM : Hid (mayL [x0, x1, x2] rs (i : Int) = mayX x0 x1 x2 i) := by
   show (hopsB [x0.h, x1.h, x2.h] rs && (decide (0 ≤ (i : Int) ∧ (i : Int) ≤ 2) && mayX x0 x1 x2 (i : Int).toNat)) = _
   rw [HB.out, decide_eq_true hh]
   rfl
  clear hh
  go_wp2_with fail
  refine (hIn _).mono ?_
  rintro e w2 ⟨rfl, rfl⟩
  go_wp2_with fail
  refine hM.mono ?_
  rintro e w3 ⟨rfl, b3⟩
  go_wp2_with fail
  go_ret
  exact ⟨by rw [HM.out]; rfl, B1.trans (b3.mono B1.size)⟩
theorem specReaderAtEnd (aH aR : Option Addr) (n m cH cR : Nat) (xs : List Ha) (rs : List Rd) (w : World) (hn : n = xs.length) (hm : m = rs.length) (L : LL w aH xs) (R : Roa.E.Lies w aR rs) (hl : xs.length ≤ 1000) (hr : rs.length ≤ 1000) (hs : ∀ x ∈ xs, x.h.Sm) :
  Calls Tryz.prog 27 #[.agg #[.slice aH n cH, .slice aR m cR]] w fun e w' => e = .returned (.bool (endL xs rs)) ∧ Below w.heap.size w w' := by
 subst hn hm
 have v0 : Var 30 (w.alloc (.cells #[.slice aH xs.length cH, .slice aR rs.length cR] 30)) w.heap.size [.slice aH xs.length cH, .slice aR rs.length cR] := Var.new w _
 have BV : Below w.heap.size w (w.alloc (.cells #[.slice aH xs.length cH, .slice aR rs.length cR] 30)) := (Below.refl _ _).alloc (Nat.le_refl _) _
 have L0 := L.later BV
 have R0 := R.later BV
 have hOk := fun w' l' r' => Lin.specLineOk aH aR xs.length rs.length cH cR xs rs w' rfl rfl l' r' hl hr hs
 go_enter Tryz.func27, Tryz.ntmps27
 go_upto_region 1 with (fail)
 generalize w.alloc (.cells #[.slice aH xs.length cH, .slice aR rs.length cR] 30) = V at *
 have e0 := v0.cell (i := 0) rfl
 have e1 := v0.cell (i := 1) rfl
 go_wp2_with fail
 refine (hOk _ L0 R0).mono ?_
 rintro e W1 ⟨rfl, b1⟩
 have B1 : Below w.heap.size w W1 := BV.trans (b1.mono BV.size)
 have L1 := L0.later b1
 have R1 := R0.later b1
 have v1 := v0.later b1
 clear e0 e1 L0 R0 L R hOk v0 b1 BV
 cases hb : hopsB (xs.map (·.h)) rs
 case false =>
  go_wp2_with fail
  go_ret
  exact ⟨by simp [endL, hb], B1⟩
 have HB : Hid (hopsB (xs.map (·.h)) rs = true) := hb
 clear hb
 obtain ⟨x0, x1, x2, rfl⟩ := three HB.out
 replace HB : Hid (hopsB [x0.h, x1.h, x2.h] rs = true) := HB.out
 obtain ⟨b, off, rfl, hL1⟩ : ∃ b off, aH = some ⟨b, off, none⟩ ∧ ∀ j u, (hopE.vals [x0, x1, x2])[j]? = some u → W1.cell? ⟨b, off + j, none⟩ = some u := by
  rcases L1.row with h0 | h0
  ·cases h0
  ·exact h0
 have e0 := v1.cell (i := 0) rfl
 have e1 := v1.cell (i := 1) rfl
 dsimp only [List.length_cons, List.length_nil, Nat.reduceAdd] at e0 v1 ⊢
 have hM := l14AtEndL b off cH rs.length cR aR x0 x1 x2 W1 L1.row
 obtain ⟨u, hu⟩ : ∃ u, (x2.h.t.en && decide (x2.h.t.bs.size = 0)) = u := ⟨_, rfl⟩
 have HM : Hid (endL [x0, x1, x2] rs = u) := by
  show (hopsB [x0.h, x1.h, x2.h] rs && (x2.h.t.en && decide (x2.h.t.bs.size = 0))) = _
  rw [HB.out, hu]
  rfl
 rw [hu] at hM
 clear hL1 hu
 go_wp2_with fail
 refine hM.mono ?_
 rintro e w3 ⟨rfl, b3⟩
 go_wp2_with fail
 go_ret
 exact ⟨by rw [HM.out]; rfl, B1.trans (b3.mono B1.size)⟩
theorem implWriterDone (aH aR : Option Addr) (n m cH cR : Nat) (xs : List Ha) (rs : List Rd) (w : World) (hn : n = xs.length) (hm : m = rs.length) (L : LL w aH xs) (R : Roa.E.Lies w aR rs) (hl : xs.length ≤ 1000) (hr : rs.length ≤ 1000) (hs : ∀ x ∈ xs, x.h.Sm) :
  Calls Tryz.prog 24 #[.agg #[.slice aH n cH, .slice aR m cR]] w fun e w' => e = .returned (.bool (writL xs rs)) ∧ Below w.heap.size w w' := by
 subst hn hm
 have v0 : Var 30 (w.alloc (.cells #[.slice aH xs.length cH, .slice aR rs.length cR] 30)) w.heap.size [.slice aH xs.length cH, .slice aR rs.length cR] := Var.new w _
 have BV : Below w.heap.size w (w.alloc (.cells #[.slice aH xs.length cH, .slice aR rs.length cR] 30)) := (Below.refl _ _).alloc (Nat.le_refl _) _
 have L0 := L.later BV
 have R0 := R.later BV
 have hOk := fun w' l' r' => Lin.implLineOk aH aR xs.length rs.length cH cR xs rs w' rfl rfl l' r' hr hs
 go_enter Tryz.func24, Tryz.ntmps24
 go_upto_region 1 with (fail)
 generalize w.alloc (.cells #[.slice aH xs.length cH, .slice aR rs.length cR] 30) = V at *
 have e0 := v0.cell (i := 0) rfl
 have e1 := v0.cell (i := 1) rfl
 go_wp2_with fail
 refine (hOk _ L0 R0).mono ?_
 rintro e W1 ⟨rfl, b1⟩
 have B1 : Below w.heap.size w W1 := BV.trans (b1.mono BV.size)
 have L1 := L0.later b1
 have R1 := R0.later b1
 have v1 := v0.later b1
 clear e0 e1 L0 R0 L R hOk v0 b1 BV
 cases hb : hopsB (xs.map (·.h)) rs
 case false =>
  go_wp2_with fail
  go_ret
  exact ⟨by simp [writL, hb], B1⟩
 have HB : Hid (hopsB (xs.map (·.h)) rs = true) := hb
 clear hb
 obtain ⟨x0, x1, x2, rfl⟩ := three HB.out
 replace HB : Hid (hopsB [x0.h, x1.h, x2.h] rs = true) := HB.out
 obtain ⟨b, off, rfl, hL1⟩ : ∃ b off, aH = some ⟨b, off, none⟩ ∧ ∀ j u, (hopE.vals [x0, x1, x2])[j]? = some u → W1.cell? ⟨b, off + j, none⟩ = some u := by
  rcases L1.row with h0 | h0
  ·cases h0
  ·exact h0
 have e0 := v1.cell (i := 0) rfl
 have e1 := v1.cell (i := 1) rfl
 dsimp only [List.length_cons, List.length_nil, Nat.reduceAdd] at e0 v1 ⊢
 have hD := fun w' l' => desksOf (some ⟨b, off, none⟩) aR cH cR [x0, x1, x2] rs w' l' (by simp)
 dsimp only [desksL, List.flatMap_cons, List.flatMap_nil, List.cons_append, List.nil_append, List.append_nil, List.length_cons, List.length_nil, Nat.reduceAdd] at hD
 clear hL1
 go_wp2_with fail
 refine (hD _ L1).mono ?_
 rintro e W2 ⟨a, c, rfl, oD, b2⟩
 have B2 := B1.trans (b2.mono B1.size)
 obtain ⟨q, rfl⟩ : ∃ q, a = some ⟨q, 0, none⟩ := by
  rcases oD.form with ⟨_, _, h0⟩ | ⟨q, h0, _⟩
  ·cases h0
  ·exact ⟨q, h0⟩
 have hcap : 6 ≤ c := oD.cap
 have hc6 : (6 : Int) ≤ (c : Int) := by omega
 have hc1 : ¬ c = 1 := by omega
 have hc3 : ¬ c = 3 := by omega
 have hc5 : ¬ c = 5 := by omega
 clear hcap
 have hqL : ∀ j u, (dkE.vals [(true, x0), (false, x0), (true, x1), (false, x1), (true, x2), (false, x2)])[j]? = some u → W2.cell? ⟨q, j, none⟩ = some u := by
  rcases oD.lies with h0 | ⟨b', off', h0, h1⟩
  ·cases h0
  ·cases h0
   intro j u hu
   have := h1 j u hu
   rwa [Nat.zero_add] at this
 have k0 : W2.cell? ⟨q, 0, none⟩ = some (dkV (true, x0)) := hqL 0 _ rfl
 clear hqL oD
 have hI := fun w' => isDone (true, x0) w'
 go_wp2_with fail
 refine (hI _).mono ?_
 rintro e w3 ⟨rfl, b3⟩
 go_wp2_with fail
 go_ret
 have HM : Hid (writL [x0, x1, x2] rs = x0.h.g.dn) := by
  show (hopsB [x0.h, x1.h, x2.h] rs && x0.h.g.dn) = _
  rw [HB.out]
  rfl
 exact ⟨by rw [HM.out]; rfl, B2.trans (b3.mono B2.size)⟩
theorem implReaderAtEnd (aH aR : Option Addr) (n m cH cR : Nat) (xs : List Ha) (rs : List Rd) (w : World) (hn : n = xs.length) (hm : m = rs.length) (L : LL w aH xs) (R : Roa.E.Lies w aR rs) (hl : xs.length ≤ 1000) (hr : rs.length ≤ 1000) (hs : ∀ x ∈ xs, x.h.Sm) :
  Calls Tryz.prog 26 #[.agg #[.slice aH n cH, .slice aR m cR]] w fun e w' => e = .returned (.bool (endL xs rs)) ∧ Below w.heap.size w w' := by
 subst hn hm
 have v0 : Var 30 (w.alloc (.cells #[.slice aH xs.length cH, .slice aR rs.length cR] 30)) w.heap.size [.slice aH xs.length cH, .slice aR rs.length cR] := Var.new w _
 have BV : Below w.heap.size w (w.alloc (.cells #[.slice aH xs.length cH, .slice aR rs.length cR] 30)) := (Below.refl _ _).alloc (Nat.le_refl _) _
 have L0 := L.later BV
 have R0 := R.later BV
 have hOk := fun w' l' r' => Lin.implLineOk aH aR xs.length rs.length cH cR xs rs w' rfl rfl l' r' hr hs
 go_enter Tryz.func26, Tryz.ntmps26
 go_upto_region 1 with (fail)
 generalize w.alloc (.cells #[.slice aH xs.length cH, .slice aR rs.length cR] 30) = V at *
 have e0 := v0.cell (i := 0) rfl
 have e1 := v0.cell (i := 1) rfl
 go_wp2_with fail
 refine (hOk _ L0 R0).mono ?_
 rintro e W1 ⟨rfl, b1⟩
 have B1 : Below w.heap.size w W1 := BV.trans (b1.mono BV.size)
 have L1 := L0.later b1
 have R1 := R0.later b1
 have v1 := v0.later b1
 clear e0 e1 L0 R0 L R hOk v0 b1 BV
 cases hb : hopsB (xs.map (·.h)) rs
 case false =>
  go_wp2_with fail
  go_ret
  exact ⟨by simp [endL, hb], B1⟩
 have HB : Hid (hopsB (xs.map (·.h)) rs = true) := hb
 clear hb
 obtain ⟨x0, x1, x2, rfl⟩ := three HB.out
 replace HB : Hid (hopsB [x0.h, x1.h, x2.h] rs = true) := HB.out
 obtain ⟨b, off, rfl, hL1⟩ : ∃ b off, aH = some ⟨b, off, none⟩ ∧ ∀ j u, (hopE.vals [x0, x1, x2])[j]? = some u → W1.cell? ⟨b, off + j, none⟩ = some u := by
  rcases L1.row with h0 | h0
  ·cases h0
  ·exact h0
 have e0 := v1.cell (i := 0) rfl
 have e1 := v1.cell (i := 1) rfl
 dsimp only [List.length_cons, List.length_nil, Nat.reduceAdd] at e0 v1 ⊢
 have hsm := hs
 have hD := fun w' l' => desksOf (some ⟨b, off, none⟩) aR cH cR [x0, x1, x2] rs w' l' (by simp)
 dsimp only [desksL, List.flatMap_cons, List.flatMap_nil, List.cons_append, List.nil_append, List.append_nil, List.length_cons, List.length_nil, Nat.reduceAdd] at hD
 clear hL1
 have hAD := fun w' l' r' => Lin.implAtDesk (some ⟨b, off, none⟩) aR 3 rs.length cH cR [x0, x1, x2] rs w' rfl rfl l' r' (by simp) hr hsm
 have hdk : deskS ([x0, x1, x2].map (·.h)) rs = x2.h.t.bs := by
  show (if hopsB [x0.h, x1.h, x2.h] rs = true then _ else _) = _
  rw [if_pos HB.out]
  rfl
 rw [hdk] at hAD
 have hE := Giv.isEmpty_eq x2.h.t.bs
 obtain ⟨u, hu⟩ : ∃ u, decide (x2.h.t.bs.size = 0) = u := ⟨_, rfl⟩
 rw [hu] at hE
 have HE : Hid (x2.h.t.bs.toList.isEmpty = u) := hE
 have HM : Hid (endL [x0, x1, x2] rs = (x2.h.t.en && u)) := by
  show (hopsB [x0.h, x1.h, x2.h] rs && (x2.h.t.en && decide (x2.h.t.bs.size = 0))) = _
  rw [HB.out, hu]
  rfl
 clear hdk hE hu
 go_wp2_with fail
 refine (hD _ L1).mono ?_
 rintro e W2 ⟨a, c, rfl, oD, b2⟩
 have B2 := B1.trans (b2.mono B1.size)
 replace v1 := v1.later b2
 replace L1 := L1.later b2
 replace R1 := R1.later b2
 obtain ⟨q, rfl⟩ : ∃ q, a = some ⟨q, 0, none⟩ := by
  rcases oD.form with ⟨_, _, h0⟩ | ⟨q, h0, _⟩
  ·cases h0
  ·exact ⟨q, h0⟩
 have hcap : 6 ≤ c := oD.cap
 have hc6 : (6 : Int) ≤ (c : Int) := by omega
 have hc1 : ¬ c = 1 := by omega
 have hc3 : ¬ c = 3 := by omega
 have hc5 : ¬ c = 5 := by omega
 clear hcap
 have hqL : ∀ j u, (dkE.vals [(true, x0), (false, x0), (true, x1), (false, x1), (true, x2), (false, x2)])[j]? = some u → W2.cell? ⟨q, j, none⟩ = some u := by
  rcases oD.lies with h0 | ⟨b', off', h0, h1⟩
  ·cases h0
  ·cases h0
   intro j u hu
   have := h1 j u hu
   rwa [Nat.zero_add] at this
 have k5 : W2.cell? ⟨q, 5, none⟩ = some (dkV (false, x2)) := hqL 5 _ rfl
 clear hqL oD
 have hI := fun w' => isDone (false, x2) w'
 clear e0 e1
 go_wp2_with fail
 refine (hI _).mono ?_
 rintro e w3 ⟨rfl, b3⟩
 have B3 := B2.trans (b3.mono B2.size)
 have hdb : dkB (false, x2) = x2.h.t.en := rfl
 rw [hdb]
 clear hdb k5
 cases he : x2.h.t.en
 case false =>
  go_wp2_with fail
  go_ret
  exact ⟨by rw [HM.out, he]; rfl, B3⟩
 case true =>
  replace v1 := v1.later b3
  replace L1 := L1.later b3
  replace R1 := R1.later b3
  have e0 := v1.cell (i := 0) rfl
  have e1 := v1.cell (i := 1) rfl
  go_wp2_with fail
  refine (hAD _ L1 R1).mono ?_
  rintro e w4 ⟨rfl, b4⟩
  clear e0 e1
  go_wp2_with fail
  go_ret
  exact ⟨by rw [HM.out, he, ← HE.out]; rfl, B3.trans (b4.mono B3.size)⟩
theorem implMayTell (aH aR : Option Addr) (n m cH cR : Nat) (xs : List Ha) (rs : List Rd) (h : Int) (w : World) (hn : n = xs.length) (hm : m = rs.length) (L : LL w aH xs) (R : Roa.E.Lies w aR rs) (hl : xs.length ≤ 1000) (hr : rs.length ≤ 1000) (hs : ∀ x ∈ xs, x.h.Sm) :
  Calls Tryz.prog 20 #[.agg #[.slice aH n cH, .slice aR m cR], .int .i64 h] w fun e w' => e = .returned (.bool (mayL xs rs h)) ∧ Below w.heap.size w w' := by
 subst hn hm
 have v0 : Var 30 (w.alloc (.cells #[.slice aH xs.length cH, .slice aR rs.length cR] 30)) w.heap.size [.slice aH xs.length cH, .slice aR rs.length cR] := Var.new w _
 have BV : Below w.heap.size w (w.alloc (.cells #[.slice aH xs.length cH, .slice aR rs.length cR] 30)) := (Below.refl _ _).alloc (Nat.le_refl _) _
 have L0 := L.later BV
 have R0 := R.later BV
 have hOk := fun w' l' r' => Lin.implLineOk aH aR xs.length rs.length cH cR xs rs w' rfl rfl l' r' hr hs
 go_enter Tryz.func20, Tryz.ntmps20
 go_upto_region 1 with (fail)
 generalize w.alloc (.cells #[.slice aH xs.length cH, .slice aR rs.length cR] 30) = V at *
 have e0 := v0.cell (i := 0) rfl
 have e1 := v0.cell (i := 1) rfl
 go_wp2_with fail
 refine (hOk _ L0 R0).mono ?_
 rintro e W1 ⟨rfl, b1⟩
 have B1 : Below w.heap.size w W1 := BV.trans (b1.mono BV.size)
 have L1 := L0.later b1
 have R1 := R0.later b1
 have v1 := v0.later b1
 clear e0 e1 L0 R0 L R hOk v0 b1 BV
 cases hb : hopsB (xs.map (·.h)) rs
 case false =>
  go_wp2_with fail
  go_ret
  exact ⟨by simp [mayL, hb], B1⟩
 have HB : Hid (hopsB (xs.map (·.h)) rs = true) := hb
 clear hb
 obtain ⟨x0, x1, x2, rfl⟩ := three HB.out
 replace HB : Hid (hopsB [x0.h, x1.h, x2.h] rs = true) := HB.out
 obtain ⟨b, off, rfl, hL1⟩ : ∃ b off, aH = some ⟨b, off, none⟩ ∧ ∀ j u, (hopE.vals [x0, x1, x2])[j]? = some u → W1.cell? ⟨b, off + j, none⟩ = some u := by
  rcases L1.row with h0 | h0
  ·cases h0
  ·exact h0
 have e0 := v1.cell (i := 0) rfl
 have e1 := v1.cell (i := 1) rfl
 dsimp only [List.length_cons, List.length_nil, Nat.reduceAdd] at e0 v1 ⊢
 have hD := fun w' l' => desksOf (some ⟨b, off, none⟩) aR cH cR [x0, x1, x2] rs w' l' (by simp)
 dsimp only [desksL, List.flatMap_cons, List.flatMap_nil, List.cons_append, List.nil_append, List.append_nil, List.length_cons, List.length_nil, Nat.reduceAdd] at hD
 clear hL1
 by_cases h0 : h < 0
 case pos =>
  go_wp2_with fail
  go_ret
  exact ⟨by simp [mayL, HB.out, show ¬ 0 ≤ h by omega], B1⟩
 by_cases h2 : 2 < h
 case pos =>
  go_wp2_with fail
  go_ret
  exact ⟨by simp [mayL, HB.out, show ¬ h ≤ 2 by omega], B1⟩
 case neg =>
  clear e0 e1
  have hh : h = 0 ∨ h = 1 ∨ h = 2 := by omega
  clear h0 h2
  rcases hh with rfl | rfl | rfl
  focus
   have HM : Hid (mayL [x0, x1, x2] rs 0 = (x0.h.t.en && x1.h.g.dn)) := by
    show (hopsB [x0.h, x1.h, x2.h] rs && (true && _)) = _
    rw [HB.out]
    rfl
   have e0 := v1.cell (i := 0) rfl
   have e1 := v1.cell (i := 1) rfl
   go_wp2_with fail
   refine (hD _ L1).mono ?_
   rintro e W2 ⟨a, c, rfl, oD, b2⟩
   have B2 := B1.trans (b2.mono B1.size)
   clear e0 e1
   obtain ⟨q, rfl⟩ : ∃ q, a = some ⟨q, 0, none⟩ := by
    rcases oD.form with ⟨_, _, h0⟩ | ⟨q, h0, _⟩
    ·cases h0
    ·exact ⟨q, h0⟩
   have hcap : 6 ≤ c := oD.cap
   have hc6 : (6 : Int) ≤ (c : Int) := by omega
   have hc1 : ¬ c = 1 := by omega
   have hc3 : ¬ c = 3 := by omega
   have hc5 : ¬ c = 5 := by omega
   clear hcap
   have hqL : ∀ j u, (dkE.vals [(true, x0), (false, x0), (true, x1), (false, x1), (true, x2), (false, x2)])[j]? = some u → W2.cell? ⟨q, j, none⟩ = some u := by
    rcases oD.lies with h0 | ⟨b', off', h0, h1⟩
    ·cases h0
    ·cases h0
     intro j u hu
     have := h1 j u hu
     rwa [Nat.zero_add] at this
   have k1 : W2.cell? ⟨q, 1, none⟩ = some (dkV (false, x0)) := hqL 1 _ rfl
   have k2 : W2.cell? ⟨q, 2, none⟩ = some (dkV (true, x1)) := hqL 2 _ rfl
   clear hqL oD
   have hI := fun w' => isDone (false, x0) w'
   go_wp2_with fail
   refine (hI _).mono ?_
   rintro e w3 ⟨rfl, b3⟩
   have B3 := B2.trans (b3.mono B2.size)
   rw [show dkB (false, x0) = x0.h.t.en from rfl]
   replace k2 := (b3.cell (Draw.lt_of_cell k2)).trans k2
   have hI2 := fun w' => isDone (true, x1) w'
   cases he : x0.h.t.en
   ·go_wp2_with fail
    go_ret
    exact ⟨by rw [HM.out, he]; rfl, B3⟩
   ·go_wp2_with fail
    refine (hI2 _).mono ?_
    rintro e w4 ⟨rfl, b4⟩
    go_wp2_with fail
    go_ret
    exact ⟨by rw [HM.out, he]; rfl, B3.trans (b4.mono B3.size)⟩
  focus
   have HM : Hid (mayL [x0, x1, x2] rs 1 = (x1.h.t.en && x2.h.g.dn)) := by
    show (hopsB [x0.h, x1.h, x2.h] rs && (true && _)) = _
    rw [HB.out]
    rfl
   have e0 := v1.cell (i := 0) rfl
   have e1 := v1.cell (i := 1) rfl
   go_wp2_with fail
   refine (hD _ L1).mono ?_
   rintro e W2 ⟨a, c, rfl, oD, b2⟩
   have B2 := B1.trans (b2.mono B1.size)
   clear e0 e1
   obtain ⟨q, rfl⟩ : ∃ q, a = some ⟨q, 0, none⟩ := by
    rcases oD.form with ⟨_, _, h0⟩ | ⟨q, h0, _⟩
    ·cases h0
    ·exact ⟨q, h0⟩
   have hcap : 6 ≤ c := oD.cap
   have hc6 : (6 : Int) ≤ (c : Int) := by omega
   have hc1 : ¬ c = 1 := by omega
   have hc3 : ¬ c = 3 := by omega
   have hc5 : ¬ c = 5 := by omega
   clear hcap
   have hqL : ∀ j u, (dkE.vals [(true, x0), (false, x0), (true, x1), (false, x1), (true, x2), (false, x2)])[j]? = some u → W2.cell? ⟨q, j, none⟩ = some u := by
    rcases oD.lies with h0 | ⟨b', off', h0, h1⟩
    ·cases h0
    ·cases h0
     intro j u hu
     have := h1 j u hu
     rwa [Nat.zero_add] at this
   have k3 : W2.cell? ⟨q, 3, none⟩ = some (dkV (false, x1)) := hqL 3 _ rfl
   have k4 : W2.cell? ⟨q, 4, none⟩ = some (dkV (true, x2)) := hqL 4 _ rfl
   clear hqL oD
   have hI := fun w' => isDone (false, x1) w'
   go_wp2_with fail
   refine (hI _).mono ?_
   rintro e w3 ⟨rfl, b3⟩
   have B3 := B2.trans (b3.mono B2.size)
   rw [show dkB (false, x1) = x1.h.t.en from rfl]
   replace k4 := (b3.cell (Draw.lt_of_cell k4)).trans k4
   have hI2 := fun w' => isDone (true, x2) w'
   cases he : x1.h.t.en
   ·go_wp2_with fail
    go_ret
    exact ⟨by rw [HM.out, he]; rfl, B3⟩
   ·go_wp2_with fail
    refine (hI2 _).mono ?_
    rintro e w4 ⟨rfl, b4⟩
    go_wp2_with fail
    go_ret
    exact ⟨by rw [HM.out, he]; rfl, B3.trans (b4.mono B3.size)⟩
  focus
   have HM : Hid (mayL [x0, x1, x2] rs 2 = x2.h.t.en) := by
    show (hopsB [x0.h, x1.h, x2.h] rs && (true && _)) = _
    rw [HB.out]
    rfl
   have e0 := v1.cell (i := 0) rfl
   have e1 := v1.cell (i := 1) rfl
   go_wp2_with fail
   refine (hD _ L1).mono ?_
   rintro e W2 ⟨a, c, rfl, oD, b2⟩
   have B2 := B1.trans (b2.mono B1.size)
   clear e0 e1
   obtain ⟨q, rfl⟩ : ∃ q, a = some ⟨q, 0, none⟩ := by
    rcases oD.form with ⟨_, _, h0⟩ | ⟨q, h0, _⟩
    ·cases h0
    ·exact ⟨q, h0⟩
   have hcap : 6 ≤ c := oD.cap
   have hc6 : (6 : Int) ≤ (c : Int) := by omega
   have hc1 : ¬ c = 1 := by omega
   have hc3 : ¬ c = 3 := by omega
   have hc5 : ¬ c = 5 := by omega
   clear hcap
   have hqL : ∀ j u, (dkE.vals [(true, x0), (false, x0), (true, x1), (false, x1), (true, x2), (false, x2)])[j]? = some u → W2.cell? ⟨q, j, none⟩ = some u := by
    rcases oD.lies with h0 | ⟨b', off', h0, h1⟩
    ·cases h0
    ·cases h0
     intro j u hu
     have := h1 j u hu
     rwa [Nat.zero_add] at this
   have k5 : W2.cell? ⟨q, 5, none⟩ = some (dkV (false, x2)) := hqL 5 _ rfl
   clear hqL oD
   have hI := fun w' => isDone (false, x2) w'
   go_wp2_with fail
   refine (hI _).mono ?_
   rintro e w3 ⟨rfl, b3⟩
   have B3 := B2.trans (b3.mono B2.size)
   rw [show dkB (false, x2) = x2.h.t.en from rfl]
   cases he : x2.h.t.en
   ·go_wp2_with fail
    go_ret
    exact ⟨by rw [HM.out, he]; rfl, B3⟩
   ·go_wp2_with fail
    go_ret
    exact ⟨by rw [HM.out, he]; rfl, B3⟩
end Go.Proofs.YtanfnphdgcnojaaGreat.Wor
namespace Go.Proofs.YtanfnphdgcnojaaGreat.Wor
open Go.RowKit RowG Hop Roa Lin
theorem taker_end {h : Hp} (hb : hopB h = true) : (h.t.fi == h.t.nx) = h.t.en := by
 obtain ⟨_, _, h2, _⟩ := Hop.hop_ok hb
 unfold Tak.Tk.ok Tak.takerB at h2
 rw [Bool.and_eq_true] at h2
 have h3 := h2.2
 split at h3
 ·cases h3
 ·unfold Tak.endB at h3
  simp only [Bool.and_eq_true, beq_iff_eq] at h3
  rw [h3.2.1]
  rfl
theorem giver_end {h : Hp} (hb : hopB h = true) (hd : h.g.dn = true) : h.g.en = true := by
 obtain ⟨_, h1, _, _⟩ := Hop.hop_ok hb
 exact ((Giv.ok_iff.1 h1).2.2.2.2.2.2 hd).1
theorem ok_three {x0 x1 x2 : Ha} {rs : List Rd} (h : hopsB [x0.h, x1.h, x2.h] rs = true) : hopB x0.h = true ∧ hopB x1.h = true ∧ hopB x2.h = true :=
 ⟨((hops_iff.1 h).2.2 0 (by decide)).1, ((hops_iff.1 h).2.2 1 (by decide)).1, ((hops_iff.1 h).2.2 2 (by decide)).1⟩
theorem writ_facts {ys : List Ha} {ss : List Rd} (h : writL ys ss = true) : ∃ a0 a1 a2, ys = [a0, a1, a2] ∧ a0.h.g.en = true := by
 unfold writL at h
 rw [Bool.and_eq_true] at h
 obtain ⟨a0, a1, a2, rfl⟩ := three h.1
 exact ⟨a0, a1, a2, rfl, giver_end (ok_three h.1).1 h.2⟩
theorem end_facts {zs : List Ha} {ts : List Rd} (h : endL zs ts = true) : ∃ x0 x1 x2, zs = [x0, x1, x2] ∧ x2.h.t.en = true ∧ x2.h.t.bs = ⟨#[]⟩ ∧ deskS (zs.map (·.h)) ts = x2.h.t.bs := by
 unfold endL at h
 rw [Bool.and_eq_true] at h
 obtain ⟨x0, x1, x2, rfl⟩ := three h.1
 have h2 := h.2
 simp only [Bool.and_eq_true] at h2
 refine ⟨x0, x1, x2, rfl, h2.1, ?_, ?_⟩
 ·have h3 : x2.h.t.bs.size = 0 := of_decide_eq_true h2.2
  cases hs : x2.h.t.bs with
  | mk d =>
   rw [hs] at h3
   have : d.size = 0 := h3
   rw [Array.size_eq_zero_iff.1 this]
 ·show (if hopsB [x0.h, x1.h, x2.h] ts = true then _ else _) = _
  have e : hopsB [x0.h, x1.h, x2.h] ts = true := h.1
  rw [if_pos e]
  rfl
theorem may_facts {xs : List Ha} {rs : List Rd} {h : Int} (hq : hopsB (xs.map (·.h)) rs = true) (hh : 0 ≤ h ∧ h ≤ 2) : ∃ x0 x1 x2, xs = [x0, x1, x2] ∧ (x0.h.t.fi == x0.h.t.nx) = x0.h.t.en ∧ (x1.h.t.fi == x1.h.t.nx) = x1.h.t.en ∧ (x2.h.t.fi == x2.h.t.nx) = x2.h.t.en ∧ mayL xs rs h = mayX x0 x1 x2 h.toNat := by
 obtain ⟨x0, x1, x2, rfl⟩ := three hq
 obtain ⟨k0, k1, k2⟩ := ok_three hq
 refine ⟨x0, x1, x2, rfl, taker_end k0, taker_end k1, taker_end k2, ?_⟩
 show (hopsB [x0.h, x1.h, x2.h] rs && (decide (0 ≤ h ∧ h ≤ 2) && mayX x0 x1 x2 h.toNat)) = _
 have e : hopsB [x0.h, x1.h, x2.h] rs = true := hq
 rw [e, decide_eq_true hh]
 rfl
end Go.Proofs.YtanfnphdgcnojaaGreat.Wor
