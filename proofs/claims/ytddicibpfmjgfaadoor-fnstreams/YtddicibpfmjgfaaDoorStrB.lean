/- Streams (chapter 15): contracts of the specification's StreamOk, Grew, WasRead, Ended, TellEnd. Made by tools/genstrb.py. -/
import Derived.Test.YtddicibpfmjgfaaDoorStrA
namespace Go.Proofs.YtddicibpfmjgfaaDoor.Str
open Go.RowKit RowG
set_option linter.unusedVariables false
set_option linter.unusedSimpArgs false

def Sm.ok (s : Sm) : Bool := decide ((s.tx.size : Int) ≤ 2000) && (decide (0 ≤ s.rd ∧ s.rd ≤ (s.tx.size : Int)) && ((!s.sn || (s.en && decide (s.rd = (s.tx.size : Int)))) && (!s.dn || s.en)))
abbrev zeroS : Sm := ⟨⟨#[]⟩, 0, false, false, false⟩
theorem ok_in {s : Sm} (h : s.ok = true) : 0 ≤ s.rd ∧ s.rd ≤ (s.tx.size : Int) := by
  simp only [Sm.ok, Bool.and_eq_true, decide_eq_true_eq] at h
  exact h.2.1
theorem ok_len {s : Sm} (h : s.ok = true) : s.tx.size ≤ 2000 := by
  simp only [Sm.ok, Bool.and_eq_true, decide_eq_true_eq] at h
  omega
def grewS (s : Sm) (b : ByteArray) : Sm × Bool := if s.ok then (growS s b, growB s b) else (zeroS, false)
def wasS (s : Sm) (b : ByteArray) : Sm × Bool := if s.ok then (readS s b, readB s b) else (zeroS, false)
def toldS (s : Sm) (b : Bool) : Sm × Bool := if s.ok then (tellS s b, tellB s b) else (zeroS, false)
def endS (s : Sm) : Sm × Bool := if s.ok then ({ s with en := true }, !s.en) else (zeroS, false)

set_option maxRecDepth 10000 in
set_option maxHeartbeats 4000000 in
theorem specStreamOk (s : Sm) (w : World) (hs : s.tx.size ≤ 2097152) :
    Calls Tryd.prog 19 #[s.v] w fun x w' => x = .returned (.bool s.ok) ∧ Below w.heap.size w w' := by
  have hmix := Tak.mix
  have HO : Hid (s.ok = (decide ((s.tx.size : Int) ≤ 2000) && (decide (0 ≤ s.rd ∧ s.rd ≤ (s.tx.size : Int)) && ((!s.sn || (s.en && decide (s.rd = (s.tx.size : Int)))) && (!s.dn || s.en))))) := rfl
  generalize s.ok = O at *
  obtain ⟨tx, rd, en, dn, sn⟩ := s
  dsimp only [Sm.v] at *
  have v1 : Var 25 (w.alloc (.cells #[.string tx, .int .i64 rd, .bool en, .bool dn, .bool sn] 25)) w.heap.size [.string tx, .int .i64 rd, .bool en, .bool dn, .bool sn] := Var.new w _
  have b1 : Below w.heap.size w (w.alloc (.cells #[.string tx, .int .i64 rd, .bool en, .bool dn, .bool sn] 25)) := (Below.refl _ _).alloc (Nat.le_refl _) _
  go_enter Tryd.func19, Tryd.ntmps19
  go_upto_region 1 with (fail)
  generalize (w.alloc (.cells #[.string tx, .int .i64 rd, .bool en, .bool dn, .bool sn] 25)) = V at *
  have e0 := v1.cell (i := 0) rfl
  have e1 := v1.cell (i := 1) rfl
  have e2 := v1.cell (i := 2) rfl
  have e3 := v1.cell (i := 3) rfl
  have e4 := v1.cell (i := 4) rfl
  by_cases h1 : (tx.size : Int) ≤ 2000
  case neg =>
    have h1' : (2000 : Int) < (tx.size : Int) := by omega
    have hO : O = false := by rw [HO.out, decide_eq_false h1]; rfl
    subst hO
    go_wp2_with fail
    go_ret
    exact ⟨rfl, b1⟩
  have h1' : ¬ (2000 : Int) < (tx.size : Int) := by omega
  rw [decide_eq_true h1, Bool.true_and] at HO
  go_wp2_with fail
  refine (Tak.l1In rd 0 tx.size _).mono ?_
  rintro x w1 ⟨rfl, rfl⟩
  cases h2 : decide (0 ≤ rd ∧ rd ≤ (tx.size : Int))
  case false =>
    have hO : O = false := by rw [HO.out, h2]; rfl
    subst hO
    clear h2
    go_wp2_with fail
    go_ret
    exact ⟨rfl, b1⟩
  rw [h2, Bool.true_and] at HO
  clear h2
  cases sn <;> cases en <;> cases dn
  all_goals first
    | (have hO : O = _ := HO.out
       simp only [Bool.not_false, Bool.not_true, Bool.true_or, Bool.false_or, Bool.or_true, Bool.or_false, Bool.and_true, Bool.true_and, Bool.false_and, Bool.and_false] at hO
       subst hO
       go_wp2_with fail
       go_ret
       exact ⟨rfl, b1⟩)
    | (by_cases h3 : rd = (tx.size : Int)
       · have hO : O = true := by rw [HO.out, decide_eq_true h3]; rfl
         subst hO
         go_wp2_with fail
         go_ret
         exact ⟨rfl, b1⟩
       · have hO : O = false := by rw [HO.out, decide_eq_false h3]; rfl
         subst hO
         go_wp2_with fail
         go_ret
         exact ⟨rfl, b1⟩)

set_option maxRecDepth 10000 in
set_option maxHeartbeats 4000000 in
theorem specGrew (s : Sm) (b : ByteArray) (w : World) (hs : s.tx.size ≤ 2097152) (hb : b.size ≤ 2097152) :
    Calls Tryd.prog 20 #[s.v, .string b] w fun x w' => x = .returned (.tuple #[(grewS s b).1.v, .bool (grewS s b).2]) ∧ Below w.heap.size w w' := by
  have hL := fun w' hv (hok : s.ok = true) => (l15Grow (T := 25) w.heap.size s b w' (Var.win hv) hs hb).mono fun _ _ ⟨h1, h2, h3⟩ => (⟨h1, h2.whole, h3⟩ : _ ∧ Var 25 _ _ _ ∧ _)
  have hG := fun w' => specStreamOk s w' hs
  obtain ⟨ok, hok⟩ : ∃ ok, s.ok = ok := ⟨_, rfl⟩
  unfold grewS
  rw [hok] at hG hL ⊢
  clear hok
  generalize growS s b = R at *
  generalize growB s b = C at *
  obtain ⟨rt, rr, re, rn, rs⟩ := R
  obtain ⟨tx, rd, en, dn, sn⟩ := s
  dsimp only [Sm.v, Sm.c] at *
  have v1 : Var 25 ((w.alloc (.cells #[.string tx, .int .i64 rd, .bool en, .bool dn, .bool sn] 25)).alloc (.cells #[.string ⟨#[]⟩, .int .i64 0, .bool false, .bool false, .bool false] 25)) w.heap.size [.string tx, .int .i64 rd, .bool en, .bool dn, .bool sn] := (Var.new w [.string tx, .int .i64 rd, .bool en, .bool dn, .bool sn]).alloc _
  have v2 : Var 25 ((w.alloc (.cells #[.string tx, .int .i64 rd, .bool en, .bool dn, .bool sn] 25)).alloc (.cells #[.string ⟨#[]⟩, .int .i64 0, .bool false, .bool false, .bool false] 25)) (w.heap.size + 1) [.string ⟨#[]⟩, .int .i64 0, .bool false, .bool false, .bool false] := by
    have := Var.new (T := 25) (w.alloc (.cells #[.string tx, .int .i64 rd, .bool en, .bool dn, .bool sn] 25)) [.string ⟨#[]⟩, .int .i64 0, .bool false, .bool false, .bool false]
    simpa using this
  have b1 : Below w.heap.size w ((w.alloc (.cells #[.string tx, .int .i64 rd, .bool en, .bool dn, .bool sn] 25)).alloc (.cells #[.string ⟨#[]⟩, .int .i64 0, .bool false, .bool false, .bool false] 25)) := ((Below.refl _ _).alloc (Nat.le_refl _) _).alloc (by simp) _
  go_enter Tryd.func20, Tryd.ntmps20
  go_wp2_with fail
  generalize ((w.alloc (.cells #[.string tx, .int .i64 rd, .bool en, .bool dn, .bool sn] 25)).alloc (.cells #[.string ⟨#[]⟩, .int .i64 0, .bool false, .bool false, .bool false] 25)) = V at *
  refine (hG _).mono ?_
  rintro x w1 ⟨rfl, b2⟩
  have x1 := v1.later b2
  have x2 := v2.later b2
  have B2 := b1.trans (b2.mono b1.size)
  clear v1 v2 b1 b2
  cases ok
  · have r0 := x2.cell (i := 0) rfl
    have r1 := x2.cell (i := 1) rfl
    have r2 := x2.cell (i := 2) rfl
    have r3 := x2.cell (i := 3) rfl
    have r4 := x2.cell (i := 4) rfl
    have q0 := x2.free 0
    have q1 := x2.free 1
    have q2 := x2.free 2
    have q3 := x2.free 3
    have q4 := x2.free 4
    go_wp2_with fail
    refine bodyPost_ret (v := .tuple #[.agg #[.string ⟨#[]⟩, .int .i64 0, .bool false, .bool false, .bool false], .bool false]) (by rw [Tak.res_cell_tmp rfl]; go_simp; try rfl) rfl ⟨rfl, ?_⟩
    iterate 5 (refine Below.setCell ?_ (by dsimp only; omega) _)
    exact B2
  · go_wp2_with fail
    refine (hL _ x1 trivial).mono ?_
    rintro x w2 ⟨rfl, y1, K⟩
    have y2 := x2.kept K (by omega)
    have B3 := B2.trans (K.below (Nat.le_refl _) B2.size)
    clear x1 x2 K B2
    have e0 := y1.cell (i := 0) rfl
    have e1 := y1.cell (i := 1) rfl
    have e2 := y1.cell (i := 2) rfl
    have e3 := y1.cell (i := 3) rfl
    have e4 := y1.cell (i := 4) rfl
    have r0 := y2.cell (i := 0) rfl
    have r1 := y2.cell (i := 1) rfl
    have r2 := y2.cell (i := 2) rfl
    have r3 := y2.cell (i := 3) rfl
    have r4 := y2.cell (i := 4) rfl
    have q0 := y2.free 0
    have q1 := y2.free 1
    have q2 := y2.free 2
    have q3 := y2.free 3
    have q4 := y2.free 4
    go_wp2_with fail
    refine bodyPost_ret (v := .tuple #[.agg #[.string rt, .int .i64 rr, .bool re, .bool rn, .bool rs], .bool C]) (by rw [Tak.res_cell_tmp rfl]; go_simp; try rfl) rfl ⟨rfl, ?_⟩
    iterate 5 (refine Below.setCell ?_ (by dsimp only; omega) _)
    exact B3

set_option maxRecDepth 10000 in
set_option maxHeartbeats 4000000 in
theorem specWasRead (s : Sm) (b : ByteArray) (w : World) (hs : s.tx.size ≤ 2097152) (hb : b.size ≤ 2097152) :
    Calls Tryd.prog 17 #[s.v, .string b] w fun x w' => x = .returned (.tuple #[(wasS s b).1.v, .bool (wasS s b).2]) ∧ Below w.heap.size w w' := by
  have hL := fun w' hv (hok : s.ok = true) => (l15Read (T := 25) w.heap.size s b w' (Var.win hv) hs hb (ok_in hok)).mono fun _ _ ⟨h1, h2, h3⟩ => (⟨h1, h2.whole, h3⟩ : _ ∧ Var 25 _ _ _ ∧ _)
  have hG := fun w' => specStreamOk s w' hs
  obtain ⟨ok, hok⟩ : ∃ ok, s.ok = ok := ⟨_, rfl⟩
  unfold wasS
  rw [hok] at hG hL ⊢
  clear hok
  generalize readS s b = R at *
  generalize readB s b = C at *
  obtain ⟨rt, rr, re, rn, rs⟩ := R
  obtain ⟨tx, rd, en, dn, sn⟩ := s
  dsimp only [Sm.v, Sm.c] at *
  have v1 : Var 25 ((w.alloc (.cells #[.string tx, .int .i64 rd, .bool en, .bool dn, .bool sn] 25)).alloc (.cells #[.string ⟨#[]⟩, .int .i64 0, .bool false, .bool false, .bool false] 25)) w.heap.size [.string tx, .int .i64 rd, .bool en, .bool dn, .bool sn] := (Var.new w [.string tx, .int .i64 rd, .bool en, .bool dn, .bool sn]).alloc _
  have v2 : Var 25 ((w.alloc (.cells #[.string tx, .int .i64 rd, .bool en, .bool dn, .bool sn] 25)).alloc (.cells #[.string ⟨#[]⟩, .int .i64 0, .bool false, .bool false, .bool false] 25)) (w.heap.size + 1) [.string ⟨#[]⟩, .int .i64 0, .bool false, .bool false, .bool false] := by
    have := Var.new (T := 25) (w.alloc (.cells #[.string tx, .int .i64 rd, .bool en, .bool dn, .bool sn] 25)) [.string ⟨#[]⟩, .int .i64 0, .bool false, .bool false, .bool false]
    simpa using this
  have b1 : Below w.heap.size w ((w.alloc (.cells #[.string tx, .int .i64 rd, .bool en, .bool dn, .bool sn] 25)).alloc (.cells #[.string ⟨#[]⟩, .int .i64 0, .bool false, .bool false, .bool false] 25)) := ((Below.refl _ _).alloc (Nat.le_refl _) _).alloc (by simp) _
  go_enter Tryd.func17, Tryd.ntmps17
  go_wp2_with fail
  generalize ((w.alloc (.cells #[.string tx, .int .i64 rd, .bool en, .bool dn, .bool sn] 25)).alloc (.cells #[.string ⟨#[]⟩, .int .i64 0, .bool false, .bool false, .bool false] 25)) = V at *
  refine (hG _).mono ?_
  rintro x w1 ⟨rfl, b2⟩
  have x1 := v1.later b2
  have x2 := v2.later b2
  have B2 := b1.trans (b2.mono b1.size)
  clear v1 v2 b1 b2
  cases ok
  · have r0 := x2.cell (i := 0) rfl
    have r1 := x2.cell (i := 1) rfl
    have r2 := x2.cell (i := 2) rfl
    have r3 := x2.cell (i := 3) rfl
    have r4 := x2.cell (i := 4) rfl
    have q0 := x2.free 0
    have q1 := x2.free 1
    have q2 := x2.free 2
    have q3 := x2.free 3
    have q4 := x2.free 4
    go_wp2_with fail
    refine bodyPost_ret (v := .tuple #[.agg #[.string ⟨#[]⟩, .int .i64 0, .bool false, .bool false, .bool false], .bool false]) (by rw [Tak.res_cell_tmp rfl]; go_simp; try rfl) rfl ⟨rfl, ?_⟩
    iterate 5 (refine Below.setCell ?_ (by dsimp only; omega) _)
    exact B2
  · go_wp2_with fail
    refine (hL _ x1 trivial).mono ?_
    rintro x w2 ⟨rfl, y1, K⟩
    have y2 := x2.kept K (by omega)
    have B3 := B2.trans (K.below (Nat.le_refl _) B2.size)
    clear x1 x2 K B2
    have e0 := y1.cell (i := 0) rfl
    have e1 := y1.cell (i := 1) rfl
    have e2 := y1.cell (i := 2) rfl
    have e3 := y1.cell (i := 3) rfl
    have e4 := y1.cell (i := 4) rfl
    have r0 := y2.cell (i := 0) rfl
    have r1 := y2.cell (i := 1) rfl
    have r2 := y2.cell (i := 2) rfl
    have r3 := y2.cell (i := 3) rfl
    have r4 := y2.cell (i := 4) rfl
    have q0 := y2.free 0
    have q1 := y2.free 1
    have q2 := y2.free 2
    have q3 := y2.free 3
    have q4 := y2.free 4
    go_wp2_with fail
    refine bodyPost_ret (v := .tuple #[.agg #[.string rt, .int .i64 rr, .bool re, .bool rn, .bool rs], .bool C]) (by rw [Tak.res_cell_tmp rfl]; go_simp; try rfl) rfl ⟨rfl, ?_⟩
    iterate 5 (refine Below.setCell ?_ (by dsimp only; omega) _)
    exact B3

set_option maxRecDepth 10000 in
set_option maxHeartbeats 4000000 in
theorem specTellEnd (s : Sm) (b : Bool) (w : World) (hs : s.tx.size ≤ 2097152) :
    Calls Tryd.prog 22 #[s.v, .bool b] w fun x w' => x = .returned (.tuple #[(toldS s b).1.v, .bool (toldS s b).2]) ∧ Below w.heap.size w w' := by
  have hL := fun w' hv (hok : s.ok = true) => (l15Tell (T := 25) w.heap.size s b w' (Var.win hv) hs).mono fun _ _ ⟨h1, h2, h3⟩ => (⟨h1, h2.whole, h3⟩ : _ ∧ Var 25 _ _ _ ∧ _)
  have hG := fun w' => specStreamOk s w' hs
  obtain ⟨ok, hok⟩ : ∃ ok, s.ok = ok := ⟨_, rfl⟩
  unfold toldS
  rw [hok] at hG hL ⊢
  clear hok
  generalize tellS s b = R at *
  generalize tellB s b = C at *
  obtain ⟨rt, rr, re, rn, rs⟩ := R
  obtain ⟨tx, rd, en, dn, sn⟩ := s
  dsimp only [Sm.v, Sm.c] at *
  have v1 : Var 25 ((w.alloc (.cells #[.string tx, .int .i64 rd, .bool en, .bool dn, .bool sn] 25)).alloc (.cells #[.string ⟨#[]⟩, .int .i64 0, .bool false, .bool false, .bool false] 25)) w.heap.size [.string tx, .int .i64 rd, .bool en, .bool dn, .bool sn] := (Var.new w [.string tx, .int .i64 rd, .bool en, .bool dn, .bool sn]).alloc _
  have v2 : Var 25 ((w.alloc (.cells #[.string tx, .int .i64 rd, .bool en, .bool dn, .bool sn] 25)).alloc (.cells #[.string ⟨#[]⟩, .int .i64 0, .bool false, .bool false, .bool false] 25)) (w.heap.size + 1) [.string ⟨#[]⟩, .int .i64 0, .bool false, .bool false, .bool false] := by
    have := Var.new (T := 25) (w.alloc (.cells #[.string tx, .int .i64 rd, .bool en, .bool dn, .bool sn] 25)) [.string ⟨#[]⟩, .int .i64 0, .bool false, .bool false, .bool false]
    simpa using this
  have b1 : Below w.heap.size w ((w.alloc (.cells #[.string tx, .int .i64 rd, .bool en, .bool dn, .bool sn] 25)).alloc (.cells #[.string ⟨#[]⟩, .int .i64 0, .bool false, .bool false, .bool false] 25)) := ((Below.refl _ _).alloc (Nat.le_refl _) _).alloc (by simp) _
  go_enter Tryd.func22, Tryd.ntmps22
  go_wp2_with fail
  generalize ((w.alloc (.cells #[.string tx, .int .i64 rd, .bool en, .bool dn, .bool sn] 25)).alloc (.cells #[.string ⟨#[]⟩, .int .i64 0, .bool false, .bool false, .bool false] 25)) = V at *
  refine (hG _).mono ?_
  rintro x w1 ⟨rfl, b2⟩
  have x1 := v1.later b2
  have x2 := v2.later b2
  have B2 := b1.trans (b2.mono b1.size)
  clear v1 v2 b1 b2
  cases ok
  · have r0 := x2.cell (i := 0) rfl
    have r1 := x2.cell (i := 1) rfl
    have r2 := x2.cell (i := 2) rfl
    have r3 := x2.cell (i := 3) rfl
    have r4 := x2.cell (i := 4) rfl
    have q0 := x2.free 0
    have q1 := x2.free 1
    have q2 := x2.free 2
    have q3 := x2.free 3
    have q4 := x2.free 4
    go_wp2_with fail
    refine bodyPost_ret (v := .tuple #[.agg #[.string ⟨#[]⟩, .int .i64 0, .bool false, .bool false, .bool false], .bool false]) (by rw [Tak.res_cell_tmp rfl]; go_simp; try rfl) rfl ⟨rfl, ?_⟩
    iterate 5 (refine Below.setCell ?_ (by dsimp only; omega) _)
    exact B2
  · go_wp2_with fail
    refine (hL _ x1 trivial).mono ?_
    rintro x w2 ⟨rfl, y1, K⟩
    have y2 := x2.kept K (by omega)
    have B3 := B2.trans (K.below (Nat.le_refl _) B2.size)
    clear x1 x2 K B2
    have e0 := y1.cell (i := 0) rfl
    have e1 := y1.cell (i := 1) rfl
    have e2 := y1.cell (i := 2) rfl
    have e3 := y1.cell (i := 3) rfl
    have e4 := y1.cell (i := 4) rfl
    have r0 := y2.cell (i := 0) rfl
    have r1 := y2.cell (i := 1) rfl
    have r2 := y2.cell (i := 2) rfl
    have r3 := y2.cell (i := 3) rfl
    have r4 := y2.cell (i := 4) rfl
    have q0 := y2.free 0
    have q1 := y2.free 1
    have q2 := y2.free 2
    have q3 := y2.free 3
    have q4 := y2.free 4
    go_wp2_with fail
    refine bodyPost_ret (v := .tuple #[.agg #[.string rt, .int .i64 rr, .bool re, .bool rn, .bool rs], .bool C]) (by rw [Tak.res_cell_tmp rfl]; go_simp; try rfl) rfl ⟨rfl, ?_⟩
    iterate 5 (refine Below.setCell ?_ (by dsimp only; omega) _)
    exact B3

set_option maxRecDepth 10000 in
set_option maxHeartbeats 4000000 in
theorem specEnded (s : Sm) (w : World) (hs : s.tx.size ≤ 2097152) :
    Calls Tryd.prog 21 #[s.v] w fun x w' => x = .returned (.tuple #[(endS s).1.v, .bool (endS s).2]) ∧ Below w.heap.size w w' := by
  have hG := fun w' => specStreamOk s w' hs
  obtain ⟨ok, hok⟩ : ∃ ok, s.ok = ok := ⟨_, rfl⟩
  unfold endS
  rw [hok] at hG ⊢
  clear hok
  obtain ⟨tx, rd, en, dn, sn⟩ := s
  dsimp only [Sm.v, Sm.c] at *
  have v1 : Var 25 ((w.alloc (.cells #[.string tx, .int .i64 rd, .bool en, .bool dn, .bool sn] 25)).alloc (.cells #[.string ⟨#[]⟩, .int .i64 0, .bool false, .bool false, .bool false] 25)) w.heap.size [.string tx, .int .i64 rd, .bool en, .bool dn, .bool sn] := (Var.new w [.string tx, .int .i64 rd, .bool en, .bool dn, .bool sn]).alloc _
  have v2 : Var 25 ((w.alloc (.cells #[.string tx, .int .i64 rd, .bool en, .bool dn, .bool sn] 25)).alloc (.cells #[.string ⟨#[]⟩, .int .i64 0, .bool false, .bool false, .bool false] 25)) (w.heap.size + 1) [.string ⟨#[]⟩, .int .i64 0, .bool false, .bool false, .bool false] := by
    have := Var.new (T := 25) (w.alloc (.cells #[.string tx, .int .i64 rd, .bool en, .bool dn, .bool sn] 25)) [.string ⟨#[]⟩, .int .i64 0, .bool false, .bool false, .bool false]
    simpa using this
  have b1 : Below w.heap.size w ((w.alloc (.cells #[.string tx, .int .i64 rd, .bool en, .bool dn, .bool sn] 25)).alloc (.cells #[.string ⟨#[]⟩, .int .i64 0, .bool false, .bool false, .bool false] 25)) := ((Below.refl _ _).alloc (Nat.le_refl _) _).alloc (by simp) _
  go_enter Tryd.func21, Tryd.ntmps21
  go_wp2_with fail
  generalize ((w.alloc (.cells #[.string tx, .int .i64 rd, .bool en, .bool dn, .bool sn] 25)).alloc (.cells #[.string ⟨#[]⟩, .int .i64 0, .bool false, .bool false, .bool false] 25)) = V at *
  refine (hG _).mono ?_
  rintro x w1 ⟨rfl, b2⟩
  have x1 := v1.later b2
  have x2 := v2.later b2
  have B2 := b1.trans (b2.mono b1.size)
  clear v1 v2 b1 b2
  cases ok
  · have r0 := x2.cell (i := 0) rfl
    have r1 := x2.cell (i := 1) rfl
    have r2 := x2.cell (i := 2) rfl
    have r3 := x2.cell (i := 3) rfl
    have r4 := x2.cell (i := 4) rfl
    have q0 := x2.free 0
    have q1 := x2.free 1
    have q2 := x2.free 2
    have q3 := x2.free 3
    have q4 := x2.free 4
    go_wp2_with fail
    refine bodyPost_ret (v := .tuple #[.agg #[.string ⟨#[]⟩, .int .i64 0, .bool false, .bool false, .bool false], .bool false]) (by rw [Tak.res_cell_tmp rfl]; go_simp; try rfl) rfl ⟨rfl, ?_⟩
    iterate 5 (refine Below.setCell ?_ (by dsimp only; omega) _)
    exact B2
  · have e0 := x1.cell (i := 0) rfl
    have e1 := x1.cell (i := 1) rfl
    have e2 := x1.cell (i := 2) rfl
    have e3 := x1.cell (i := 3) rfl
    have e4 := x1.cell (i := 4) rfl
    have p2 := x1.free 2
    have r0 := x2.cell (i := 0) rfl
    have r1 := x2.cell (i := 1) rfl
    have r2 := x2.cell (i := 2) rfl
    have r3 := x2.cell (i := 3) rfl
    have r4 := x2.cell (i := 4) rfl
    have q0 := x2.free 0
    have q1 := x2.free 1
    have q2 := x2.free 2
    have q3 := x2.free 3
    have q4 := x2.free 4
    go_wp2_with fail
    refine bodyPost_ret (v := .tuple #[.agg #[.string tx, .int .i64 rd, .bool true, .bool dn, .bool sn], .bool (!en)]) (by rw [Tak.res_cell_tmp rfl]; go_simp; try rfl) rfl ⟨rfl, ?_⟩
    iterate 6 (refine Below.setCell ?_ (by dsimp only; omega) _)
    exact B2

end Go.Proofs.YtddicibpfmjgfaaDoor.Str
