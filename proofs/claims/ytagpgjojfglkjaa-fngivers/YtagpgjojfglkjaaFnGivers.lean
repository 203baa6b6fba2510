/- For every code of bytes FnGivers returns true: the program's Writes, Ends, NewGiver and GiverOk answer as the specification's on every drawn giver, what was written stands behind all that was there, as much as there is room for, and nothing behind the end; no condition. (Its frame is the guide's shell; the walk is mine.) -/
import Derived.Test.YtagpgjojfglkjaaRows
import Derived.Test.YtagpgjojfglkjaaGivS
import Derived.Test.YtagpgjojfglkjaaDrawK
import Derived.WalkKit
import Derived.ProofKit
import Derived.OpenShut
import Derived.ShutString
import Derived.ChangeOld
import Derived.Below
namespace Go.Proofs.Ytagpgjojfglkjaa.fnGivers
open Go.ChangeShapes Go.WideShapes Go.ChangeAt Go.RowKit
open Go.ChangeMaps (open_string shut_string)
set_option linter.unusedVariables false

theorem own : ownKnob Try.prog.godebug = none := by kernel_rfl
theorem laidOut : laidOutB Try.prog = true := by kernel_rfl

/-- WHAT THE WALK IS TOLD OF A SLICE OF INTEGERS THAT CAME IN: it is nil; or it leads to a row of 'cap' cells, the numbers 'zs' (the first 'len' are its elements, the rest its spare room), each fitting its kind. -/
def IsRow (k : IntKind) (w : World) (a : Option Addr) (len cap : Nat) (zs : List Int) : Prop :=
  (a = none ∧ len = 0 ∧ cap = 0 ∧ zs = []) ∨
  ∃ x, a = some x ∧ len ≤ cap ∧ cap ≤ maxLen ∧ zs.length = cap ∧ (∀ i, i < zs.length → w.cell? (x.add i) = some (.int k (zs.getD i 0))) ∧ ∀ n ∈ zs, (Lit.int k n).wf = true

/-! ### STEP 1: THE WALK: the Go text returns true, AND WRITES NOTHING THAT WAS THERE: 'Below w.heap.size w w'' (Derived/Below.lean: '.refl', '.alloc', '.drew', '.setCell' at a new block, '.trans'). Open each 'IsRow' by 'rcases' AHEAD of 'go_enter'; part every test ahead of the walk. -/
set_option linter.unusedSimpArgs false in
set_option maxRecDepth 20000 in
set_option maxHeartbeats 4000000 in
theorem walk (a0 : Option Addr) (len0 cap0 : Nat) (z0 : List Int) (w : World) (w0 : IsRow .u8 w a0 len0 cap0 z0) :
    Calls Try.prog 3 #[.slice a0 len0 cap0] w fun e w' => e = .returned (.bool true) ∧ Below w.heap.size w w' := by
  obtain ⟨hb, hm⟩ := Draw.bytes_of_row w0
  clear w0
  by_cases hl : len0 ≤ 4096
  case neg =>
    have hd : decide (4096 < (len0 : Int)) = true := by simp; omega
    go_enter Try.func3, Try.ntmps3
    go_wp2_with fail
    refine (Draw.big _ _ _ _ hm).mono ?_
    rintro e w1 ⟨rfl, rfl⟩
    go_wp2_with fail
    go_ret
    exact ⟨rfl, Below.refl _ _⟩
  have hd : decide (4096 < (len0 : Int)) = false := by simp; omega
  go_enter Try.func3, Try.ntmps3
  go_wp2_with fail
  refine (Draw.big _ _ _ _ hm).mono ?_
  rintro e w1 ⟨rfl, rfl⟩
  clear hd
  have HB : Hid (Draw.Bytes w a0 len0) := hb
  go_wp2_with fail
  refine (Giv.drawWrites _ _ _ _ hb hl).mono ?_
  rintro x w1 ⟨⟨ga, gb, gc, gl, ge, gd⟩, s, hg4, hs4, rfl, b1⟩
  dsimp only at hg4
  have hg2 : gb.size ≤ 2097152 := by omega
  have hs2 : s.size ≤ 2097152 := by omega
  have hI := fun w' => Giv.implWrites ⟨ga, gb, gc, gl, ge, gd⟩ s w' hg2 hs2
  have hS := fun w' => Giv.specWrites ⟨ga, gb, gc, gl, ge, gd⟩ s w' hg2 hs2
  have hU := fun w' => Giv.implGiverOk ⟨ga, gb, gc, gl, ge, gd⟩ w' hg2
  have hT := fun w' => Giv.specGiverOk ⟨ga, gb, gc, gl, ge, gd⟩ w' hg2
  obtain ⟨ok, hok⟩ : ∃ ok, Giv.Gv.ok ⟨ga, gb, gc, gl, ge, gd⟩ = ok := ⟨_, rfl⟩
  rw [hok] at hU hT
  obtain ⟨R, hR⟩ : ∃ R, Giv.writesG ⟨ga, gb, gc, gl, ge, gd⟩ s = R := ⟨_, rfl⟩
  rw [hR] at hI hS
  obtain ⟨⟨xa, xb, xc, xl, xe, xd⟩, n⟩ := R
  have HOK : Hid _ := hok
  have HR : Hid _ := hR
  dsimp only [Giv.Gv.v] at hI hS hU hT ⊢
  clear hok hR hb hm
  have v3 : RowG.Var 25 (w1.alloc (.cells #[.int .i64 ga, .string gb, .int .i64 gc, .int .i64 gl, .bool ge, .bool gd] 25)) w1.heap.size [.int .i64 ga, .string gb, .int .i64 gc, .int .i64 gl, .bool ge, .bool gd] := RowG.Var.new _ _
  have B3 : Below _ _ (w1.alloc (.cells #[.int .i64 ga, .string gb, .int .i64 gc, .int .i64 gl, .bool ge, .bool gd] 25)) := b1.alloc b1.size _
  clear b1
  go_upto_region 4 with (fail)
  generalize w1.alloc (.cells #[.int .i64 ga, .string gb, .int .i64 gc, .int .i64 gl, .bool ge, .bool gd] 25) = W at *
  generalize w1.heap.size = k3 at *
  have e0 := v3.cell (i := 0) rfl
  have e1 := v3.cell (i := 1) rfl
  have e2 := v3.cell (i := 2) rfl
  have e3 := v3.cell (i := 3) rfl
  have e4 := v3.cell (i := 4) rfl
  have e5 := v3.cell (i := 5) rfl
  go_wp2_with fail
  refine (hI _).mono ?_
  rintro x w2 ⟨rfl, b2⟩
  replace v3 := v3.later b2
  have B4 := B3.trans (b2.mono B3.size)
  clear b2 B3 hI
  clear e0 e1 e2 e3 e4 e5
  have v5 : RowG.Var 25 (w2.alloc (.cells #[.int .i64 xa, .string xb, .int .i64 xc, .int .i64 xl, .bool xe, .bool xd] 25)) w2.heap.size [.int .i64 xa, .string xb, .int .i64 xc, .int .i64 xl, .bool xe, .bool xd] := RowG.Var.new _ _
  replace v3 := v3.alloc (.cells #[.int .i64 xa, .string xb, .int .i64 xc, .int .i64 xl, .bool xe, .bool xd] 25)
  have B5 : Below _ _ (w2.alloc (.cells #[.int .i64 xa, .string xb, .int .i64 xc, .int .i64 xl, .bool xe, .bool xd] 25)) := B4.alloc B4.size _
  clear B4
  go_upto_region 5 with (fail)
  generalize w2.alloc (.cells #[.int .i64 xa, .string xb, .int .i64 xc, .int .i64 xl, .bool xe, .bool xd] 25) = W at *
  generalize w2.heap.size = k5 at *
  have hb5 := Draw.Bytes.below HB.out B5 (Nat.le_refl _)
  go_wp2_with fail
  refine (Giv.drawEnds _ _ _ _ hb5 hl).mono ?_
  rintro x w3 ⟨⟨ea, eb, ec, el, ee, ed⟩, he4, rfl, b3⟩
  dsimp only at he4
  have he2 : eb.size ≤ 2097152 := by omega
  replace v3 := v3.later b3
  replace v5 := v5.later b3
  have B6 := B5.trans (b3.mono B5.size)
  clear b3 B5 hb5
  have hEI := fun w' => Giv.implEnds ⟨ea, eb, ec, el, ee, ed⟩ w' he2
  have hES := fun w' => Giv.specEnds ⟨ea, eb, ec, el, ee, ed⟩ w' he2
  obtain ⟨R, hR⟩ : ∃ R, Giv.endsG ⟨ea, eb, ec, el, ee, ed⟩ = R := ⟨_, rfl⟩
  rw [hR] at hEI hES
  obtain ⟨⟨za, zb, zc, zl, ze, zd⟩, is⟩ := R
  have HE : Hid (is = true → Giv.Gv.ok ⟨za, zb, zc, zl, ze, zd⟩ = true ∧ ze = true ∧ ee = false ∧ zb = eb) := fun hi => by
    unfold Giv.endsG at hR
    by_cases hk : Giv.Gv.ok ⟨ea, eb, ec, el, ee, ed⟩ = true
    · have h2 := Giv.end_ok hk
      rw [if_pos hk] at hR
      simp only [Prod.mk.injEq, Giv.Gv.mk.injEq] at hR
      obtain ⟨⟨q1, q2, q3, q4, q5, q6⟩, q7⟩ := hR
      subst q1 q2 q3 q4 q5 q6
      rw [hi] at q7
      exact ⟨h2, rfl, by simpa using q7, rfl⟩
    · rw [if_neg hk] at hR
      simp only [Prod.mk.injEq] at hR
      rw [hi] at hR
      exact absurd hR.2 (by decide)
  clear hR
  dsimp only [Giv.Gv.v] at hEI hES ⊢
  have v7 : RowG.Var 25 (w3.alloc (.cells #[.int .i64 ea, .string eb, .int .i64 ec, .int .i64 el, .bool ee, .bool ed] 25)) w3.heap.size [.int .i64 ea, .string eb, .int .i64 ec, .int .i64 el, .bool ee, .bool ed] := RowG.Var.new _ _
  replace v3 := v3.alloc (.cells #[.int .i64 ea, .string eb, .int .i64 ec, .int .i64 el, .bool ee, .bool ed] 25)
  replace v5 := v5.alloc (.cells #[.int .i64 ea, .string eb, .int .i64 ec, .int .i64 el, .bool ee, .bool ed] 25)
  have B7 : Below _ _ (w3.alloc (.cells #[.int .i64 ea, .string eb, .int .i64 ec, .int .i64 el, .bool ee, .bool ed] 25)) := B6.alloc B6.size _
  clear B6
  go_upto_region 6 with (fail)
  generalize w3.alloc (.cells #[.int .i64 ea, .string eb, .int .i64 ec, .int .i64 el, .bool ee, .bool ed] 25) = W at *
  generalize w3.heap.size = k7 at *
  have e0 := v7.cell (i := 0) rfl
  have e1 := v7.cell (i := 1) rfl
  have e2 := v7.cell (i := 2) rfl
  have e3 := v7.cell (i := 3) rfl
  have e4 := v7.cell (i := 4) rfl
  have e5 := v7.cell (i := 5) rfl
  go_wp2_with fail
  refine (hEI _).mono ?_
  rintro x w4 ⟨rfl, b4⟩
  replace v3 := v3.later b4
  replace v5 := v5.later b4
  replace v7 := v7.later b4
  have B8 := B7.trans (b4.mono B7.size)
  clear b4 B7 hEI
  clear e0 e1 e2 e3 e4 e5
  have v8 : RowG.Var 25 (w4.alloc (.cells #[.int .i64 za, .string zb, .int .i64 zc, .int .i64 zl, .bool ze, .bool zd] 25)) w4.heap.size [.int .i64 za, .string zb, .int .i64 zc, .int .i64 zl, .bool ze, .bool zd] := RowG.Var.new _ _
  replace v3 := v3.alloc (.cells #[.int .i64 za, .string zb, .int .i64 zc, .int .i64 zl, .bool ze, .bool zd] 25)
  replace v5 := v5.alloc (.cells #[.int .i64 za, .string zb, .int .i64 zc, .int .i64 zl, .bool ze, .bool zd] 25)
  replace v7 := v7.alloc (.cells #[.int .i64 za, .string zb, .int .i64 zc, .int .i64 zl, .bool ze, .bool zd] 25)
  have B9 : Below _ _ (w4.alloc (.cells #[.int .i64 za, .string zb, .int .i64 zc, .int .i64 zl, .bool ze, .bool zd] 25)) := B8.alloc B8.size _
  clear B8
  go_upto_region 7 with (fail)
  generalize w4.alloc (.cells #[.int .i64 za, .string zb, .int .i64 zc, .int .i64 zl, .bool ze, .bool zd] 25) = W at *
  generalize w4.heap.size = k8 at *
  have hb5 := Draw.Bytes.below HB.out B9 (Nat.le_refl _)
  go_wp2_with fail
  refine (Giv.drawNewGiver _ _ _ _ hb5 hl).mono ?_
  rintro x w5 ⟨lim, rfl, b5⟩
  replace v3 := v3.later b5
  replace v5 := v5.later b5
  replace v7 := v7.later b5
  replace v8 := v8.later b5
  have B10 := B9.trans (b5.mono B9.size)
  clear b5 B9 hb5
  have hNI := fun w' => Giv.implNewGiver lim w'
  have hNS := fun w' => Giv.specNewGiver lim w'
  obtain ⟨R, hR⟩ : ∃ R, Giv.newG lim = R := ⟨_, rfl⟩
  rw [hR] at hNI hNS
  obtain ⟨⟨fa, fb, fc, fl, fe, fd⟩, made⟩ := R
  have HN : Hid (made = true → Giv.Gv.ok ⟨fa, fb, fc, fl, fe, fd⟩ = true ∧ fb.size = 0) := fun hi => by
    unfold Giv.newG at hR
    by_cases hk : Tak.capB lim = true
    · have h2 := Giv.new_ok hk
      rw [if_pos hk] at hR
      simp only [Prod.mk.injEq, Giv.Gv.mk.injEq] at hR
      obtain ⟨⟨q1, q2, q3, q4, q5, q6⟩, q7⟩ := hR
      subst q1 q2 q3 q4 q5 q6
      exact ⟨h2, rfl⟩
    · rw [if_neg hk] at hR
      simp only [Prod.mk.injEq] at hR
      rw [hi] at hR
      exact absurd hR.2 (by decide)
  clear hR
  dsimp only [Giv.Gv.v] at hNI hNS ⊢
  go_wp2_with fail
  refine (hNI _).mono ?_
  rintro x w6 ⟨rfl, b6⟩
  replace v3 := v3.later b6
  replace v5 := v5.later b6
  replace v7 := v7.later b6
  replace v8 := v8.later b6
  have B11 := B10.trans (b6.mono B10.size)
  clear b6 B10 hNI
  have v11 : RowG.Var 25 (w6.alloc (.cells #[.int .i64 fa, .string fb, .int .i64 fc, .int .i64 fl, .bool fe, .bool fd] 25)) w6.heap.size [.int .i64 fa, .string fb, .int .i64 fc, .int .i64 fl, .bool fe, .bool fd] := RowG.Var.new _ _
  replace v3 := v3.alloc (.cells #[.int .i64 fa, .string fb, .int .i64 fc, .int .i64 fl, .bool fe, .bool fd] 25)
  replace v5 := v5.alloc (.cells #[.int .i64 fa, .string fb, .int .i64 fc, .int .i64 fl, .bool fe, .bool fd] 25)
  replace v7 := v7.alloc (.cells #[.int .i64 fa, .string fb, .int .i64 fc, .int .i64 fl, .bool fe, .bool fd] 25)
  replace v8 := v8.alloc (.cells #[.int .i64 fa, .string fb, .int .i64 fc, .int .i64 fl, .bool fe, .bool fd] 25)
  have B12 : Below _ _ (w6.alloc (.cells #[.int .i64 fa, .string fb, .int .i64 fc, .int .i64 fl, .bool fe, .bool fd] 25)) := B11.alloc B11.size _
  clear B11
  go_upto_region 9 with (fail)
  generalize w6.alloc (.cells #[.int .i64 fa, .string fb, .int .i64 fc, .int .i64 fl, .bool fe, .bool fd] 25) = W at *
  generalize w6.heap.size = k11 at *
  have e0 := v3.cell (i := 0) rfl
  have e1 := v3.cell (i := 1) rfl
  have e2 := v3.cell (i := 2) rfl
  have e3 := v3.cell (i := 3) rfl
  have e4 := v3.cell (i := 4) rfl
  have e5 := v3.cell (i := 5) rfl
  go_wp2_with fail
  refine (hS _).mono ?_
  rintro x w7 ⟨rfl, b7⟩
  replace v3 := v3.later b7
  replace v5 := v5.later b7
  replace v7 := v7.later b7
  replace v8 := v8.later b7
  replace v11 := v11.later b7
  have B13 := B12.trans (b7.mono B12.size)
  clear b7 B12 hS
  clear e0 e1 e2 e3 e4 e5
  have v13 : RowG.Var 25 (w7.alloc (.cells #[.int .i64 xa, .string xb, .int .i64 xc, .int .i64 xl, .bool xe, .bool xd] 25)) w7.heap.size [.int .i64 xa, .string xb, .int .i64 xc, .int .i64 xl, .bool xe, .bool xd] := RowG.Var.new _ _
  replace v3 := v3.alloc (.cells #[.int .i64 xa, .string xb, .int .i64 xc, .int .i64 xl, .bool xe, .bool xd] 25)
  replace v5 := v5.alloc (.cells #[.int .i64 xa, .string xb, .int .i64 xc, .int .i64 xl, .bool xe, .bool xd] 25)
  replace v7 := v7.alloc (.cells #[.int .i64 xa, .string xb, .int .i64 xc, .int .i64 xl, .bool xe, .bool xd] 25)
  replace v8 := v8.alloc (.cells #[.int .i64 xa, .string xb, .int .i64 xc, .int .i64 xl, .bool xe, .bool xd] 25)
  replace v11 := v11.alloc (.cells #[.int .i64 xa, .string xb, .int .i64 xc, .int .i64 xl, .bool xe, .bool xd] 25)
  have B14 : Below _ _ (w7.alloc (.cells #[.int .i64 xa, .string xb, .int .i64 xc, .int .i64 xl, .bool xe, .bool xd] 25)) := B13.alloc B13.size _
  clear B13
  go_upto_region 10 with (fail)
  generalize w7.alloc (.cells #[.int .i64 xa, .string xb, .int .i64 xc, .int .i64 xl, .bool xe, .bool xd] 25) = W at *
  generalize w7.heap.size = k13 at *
  have e0 := v3.cell (i := 0) rfl
  have e1 := v3.cell (i := 1) rfl
  have e2 := v3.cell (i := 2) rfl
  have e3 := v3.cell (i := 3) rfl
  have e4 := v3.cell (i := 4) rfl
  have e5 := v3.cell (i := 5) rfl
  have p0 := v5.cell (i := 0) rfl
  have p1 := v5.cell (i := 1) rfl
  have p2 := v5.cell (i := 2) rfl
  have p3 := v5.cell (i := 3) rfl
  have p4 := v5.cell (i := 4) rfl
  have p5 := v5.cell (i := 5) rfl
  have q0 := v13.cell (i := 0) rfl
  have q1 := v13.cell (i := 1) rfl
  have q2 := v13.cell (i := 2) rfl
  have q3 := v13.cell (i := 3) rfl
  have q4 := v13.cell (i := 4) rfl
  have q5 := v13.cell (i := 5) rfl
  have d0 := Draw.Later.cell e0
  have d1 := Draw.Later.cell e1
  have d2 := Draw.Later.cell e2
  have d3 := Draw.Later.cell e3
  have d4 := Draw.Later.cell e4
  have d5 := Draw.Later.cell e5
  have f0 := Draw.Later.cell p0
  have f1 := Draw.Later.cell p1
  have f2 := Draw.Later.cell p2
  have f3 := Draw.Later.cell p3
  have f4 := Draw.Later.cell p4
  have f5 := Draw.Later.cell p5
  have h0 := Draw.Later.cell q0
  have h1 := Draw.Later.cell q1
  have h2 := Draw.Later.cell q2
  have h3 := Draw.Later.cell q3
  have h4 := Draw.Later.cell q4
  have h5 := Draw.Later.cell q5
  clear e0 e1 e2 e3 e4 e5 p0 p1 p2 p3 p4 p5 q0 q1 q2 q3 q4 q5
  have HU : Hid _ := hU
  have HT : Hid _ := hT
  clear hU hT
  have hmix := Giv.mix
  go_wp2_with fail
  refine Draw.wp_region_later hmix (by kernel_rfl) ?_
  repeat (go_big_quiet_step (first | (go_at_call 17; exact Draw.later_of (HU.out _)) | (go_at_call 18; exact Draw.later_of (HT.out _))))
  refine wpQuiet_nil ?_
  intro wq hw'
  obtain ⟨q9, hq⟩ := hw'
  have hBq := q9.h
  rw [← hq] at hBq
  clear hq q9 v13 HU
  clear d0 d1 d2 d3 d4 d5 f0 f1 f2 f3 f4 f5 h0 h1 h2 h3 h4 h5
  replace v3 := v3.later hBq
  replace v5 := v5.later hBq
  replace v7 := v7.later hBq
  replace v8 := v8.later hBq
  replace v11 := v11.later hBq
  have B15 := B14.trans (hBq.mono B14.size)
  clear hBq B14
  have e0 := v7.cell (i := 0) rfl
  have e1 := v7.cell (i := 1) rfl
  have e2 := v7.cell (i := 2) rfl
  have e3 := v7.cell (i := 3) rfl
  have e4 := v7.cell (i := 4) rfl
  have e5 := v7.cell (i := 5) rfl
  go_wp2_with fail
  refine (hES _).mono ?_
  rintro x w8 ⟨rfl, b8⟩
  replace v3 := v3.later b8
  replace v5 := v5.later b8
  replace v7 := v7.later b8
  replace v8 := v8.later b8
  replace v11 := v11.later b8
  have B16 := B15.trans (b8.mono B15.size)
  clear b8 B15 hES
  clear e0 e1 e2 e3 e4 e5
  have v15 : RowG.Var 25 (w8.alloc (.cells #[.int .i64 za, .string zb, .int .i64 zc, .int .i64 zl, .bool ze, .bool zd] 25)) w8.heap.size [.int .i64 za, .string zb, .int .i64 zc, .int .i64 zl, .bool ze, .bool zd] := RowG.Var.new _ _
  replace v3 := v3.alloc (.cells #[.int .i64 za, .string zb, .int .i64 zc, .int .i64 zl, .bool ze, .bool zd] 25)
  replace v5 := v5.alloc (.cells #[.int .i64 za, .string zb, .int .i64 zc, .int .i64 zl, .bool ze, .bool zd] 25)
  replace v7 := v7.alloc (.cells #[.int .i64 za, .string zb, .int .i64 zc, .int .i64 zl, .bool ze, .bool zd] 25)
  replace v8 := v8.alloc (.cells #[.int .i64 za, .string zb, .int .i64 zc, .int .i64 zl, .bool ze, .bool zd] 25)
  replace v11 := v11.alloc (.cells #[.int .i64 za, .string zb, .int .i64 zc, .int .i64 zl, .bool ze, .bool zd] 25)
  have B17 : Below _ _ (w8.alloc (.cells #[.int .i64 za, .string zb, .int .i64 zc, .int .i64 zl, .bool ze, .bool zd] 25)) := B16.alloc B16.size _
  clear B16
  go_upto_region 13 with (fail)
  generalize w8.alloc (.cells #[.int .i64 za, .string zb, .int .i64 zc, .int .i64 zl, .bool ze, .bool zd] 25) = W at *
  generalize w8.heap.size = k15 at *
  have e0 := v7.cell (i := 0) rfl
  have e1 := v7.cell (i := 1) rfl
  have e2 := v7.cell (i := 2) rfl
  have e3 := v7.cell (i := 3) rfl
  have e4 := v7.cell (i := 4) rfl
  have e5 := v7.cell (i := 5) rfl
  have p0 := v8.cell (i := 0) rfl
  have p1 := v8.cell (i := 1) rfl
  have p2 := v8.cell (i := 2) rfl
  have p3 := v8.cell (i := 3) rfl
  have p4 := v8.cell (i := 4) rfl
  have p5 := v8.cell (i := 5) rfl
  have q0 := v15.cell (i := 0) rfl
  have q1 := v15.cell (i := 1) rfl
  have q2 := v15.cell (i := 2) rfl
  have q3 := v15.cell (i := 3) rfl
  have q4 := v15.cell (i := 4) rfl
  have q5 := v15.cell (i := 5) rfl
  cases is
  focus
    clear HE
    go_wp2_with fail
  rotate_left
  focus
    obtain ⟨y1, rfl, rfl, rfl⟩ := HE.out rfl
    have hZO := fun w' => Giv.implGiverOk ⟨za, zb, zc, zl, true, zd⟩ w' he2
    rw [y1] at hZO
    dsimp only [Giv.Gv.v] at hZO
    clear HE y1
    go_wp2_with fail
    refine (hZO _).mono ?_
    rintro x w9 ⟨rfl, b9⟩
    clear e0 e1 e2 e3 e4 e5 p0 p1 p2 p3 p4 p5 q0 q1 q2 q3 q4 q5
    replace v3 := v3.later b9
    replace v5 := v5.later b9
    replace v7 := v7.later b9
    replace v8 := v8.later b9
    replace v11 := v11.later b9
    replace B17 := B17.trans (b9.mono B17.size)
    clear b9 v15
    have e0 := v7.cell (i := 0) rfl
    have e1 := v7.cell (i := 1) rfl
    have e2 := v7.cell (i := 2) rfl
    have e3 := v7.cell (i := 3) rfl
    have e4 := v7.cell (i := 4) rfl
    have e5 := v7.cell (i := 5) rfl
    have p0 := v8.cell (i := 0) rfl
    have p1 := v8.cell (i := 1) rfl
    have p2 := v8.cell (i := 2) rfl
    have p3 := v8.cell (i := 3) rfl
    have p4 := v8.cell (i := 4) rfl
    have p5 := v8.cell (i := 5) rfl
    go_wp2_with fail
  all_goals
    refine (hNS _).mono ?_
    rintro x w10 ⟨rfl, b10⟩
    replace v3 := v3.later b10
    replace v5 := v5.later b10
    replace v11 := v11.later b10
    have B18 := B17.trans (b10.mono B17.size)
    clear b10 B17 hNS v7 v8
    (try clear v15)
    (try clear e0)
    (try clear e1)
    (try clear e2)
    (try clear e3)
    (try clear e4)
    (try clear e5)
    (try clear p0)
    (try clear p1)
    (try clear p2)
    (try clear p3)
    (try clear p4)
    (try clear p5)
    (try clear q0)
    (try clear q1)
    (try clear q2)
    (try clear q3)
    (try clear q4)
    (try clear q5)
    have v17 : RowG.Var 25 (w10.alloc (.cells #[.int .i64 fa, .string fb, .int .i64 fc, .int .i64 fl, .bool fe, .bool fd] 25)) w10.heap.size [.int .i64 fa, .string fb, .int .i64 fc, .int .i64 fl, .bool fe, .bool fd] := RowG.Var.new _ _
    replace v3 := v3.alloc (.cells #[.int .i64 fa, .string fb, .int .i64 fc, .int .i64 fl, .bool fe, .bool fd] 25)
    replace v5 := v5.alloc (.cells #[.int .i64 fa, .string fb, .int .i64 fc, .int .i64 fl, .bool fe, .bool fd] 25)
    replace v11 := v11.alloc (.cells #[.int .i64 fa, .string fb, .int .i64 fc, .int .i64 fl, .bool fe, .bool fd] 25)
    have B19 : Below _ _ (w10.alloc (.cells #[.int .i64 fa, .string fb, .int .i64 fc, .int .i64 fl, .bool fe, .bool fd] 25)) := B18.alloc B18.size _
    clear B18
    go_upto_region 16 with (fail)
    generalize w10.alloc (.cells #[.int .i64 fa, .string fb, .int .i64 fc, .int .i64 fl, .bool fe, .bool fd] 25) = W17 at *
    generalize w10.heap.size = k17 at *
    have e0 := v11.cell (i := 0) rfl
    have e1 := v11.cell (i := 1) rfl
    have e2 := v11.cell (i := 2) rfl
    have e3 := v11.cell (i := 3) rfl
    have e4 := v11.cell (i := 4) rfl
    have e5 := v11.cell (i := 5) rfl
    have p0 := v17.cell (i := 0) rfl
    have p1 := v17.cell (i := 1) rfl
    have p2 := v17.cell (i := 2) rfl
    have p3 := v17.cell (i := 3) rfl
    have p4 := v17.cell (i := 4) rfl
    have p5 := v17.cell (i := 5) rfl
    cases made
    focus
      clear HN
      have d0 := v3.cell (i := 0) rfl
      have d1 := v3.cell (i := 1) rfl
      have d2 := v3.cell (i := 2) rfl
      have d3 := v3.cell (i := 3) rfl
      have d4 := v3.cell (i := 4) rfl
      have d5 := v3.cell (i := 5) rfl
      go_wp2_with fail
    rotate_left
    focus
      obtain ⟨y1, y2⟩ := HN.out rfl
      have hFO := fun w' => Giv.implGiverOk ⟨fa, fb, fc, fl, fe, fd⟩ w' (by dsimp only; omega)
      rw [y1] at hFO
      dsimp only [Giv.Gv.v] at hFO
      clear HN y1 y2
      go_wp2_with fail
      refine (hFO _).mono ?_
      rintro x w11 ⟨rfl, b11⟩
      replace v3 := v3.later b11
      replace v5 := v5.later b11
      replace B19 := B19.trans (b11.mono B19.size)
      clear b11 hFO
      clear e0 e1 e2 e3 e4 e5 p0 p1 p2 p3 p4 p5
      have e0 := v3.cell (i := 0) rfl
      have e1 := v3.cell (i := 1) rfl
      have e2 := v3.cell (i := 2) rfl
      have e3 := v3.cell (i := 3) rfl
      have e4 := v3.cell (i := 4) rfl
      have e5 := v3.cell (i := 5) rfl
      go_wp2_with fail
    all_goals
      refine (HT.out _).mono ?_
      rintro x w12 ⟨rfl, b12⟩
      replace v3 := v3.later b12
      replace v5 := v5.later b12
      have B21 := B19.trans (b12.mono B19.size)
      clear b12 B19 HT v11 v17
      (try clear e0)
      (try clear e1)
      (try clear e2)
      (try clear e3)
      (try clear e4)
      (try clear e5)
      (try clear d0)
      (try clear d1)
      (try clear d2)
      (try clear d3)
      (try clear d4)
      (try clear d5)
      (try clear p0)
      (try clear p1)
      (try clear p2)
      (try clear p3)
      (try clear p4)
      (try clear p5)
      have e0 := v3.cell (i := 0) rfl
      have e1 := v3.cell (i := 1) rfl
      have e2 := v3.cell (i := 2) rfl
      have e3 := v3.cell (i := 3) rfl
      have e4 := v3.cell (i := 4) rfl
      have e5 := v3.cell (i := 5) rfl
      have p0 := v5.cell (i := 0) rfl
      have p1 := v5.cell (i := 1) rfl
      have p2 := v5.cell (i := 2) rfl
      have p3 := v5.cell (i := 3) rfl
      have p4 := v5.cell (i := 4) rfl
      have p5 := v5.cell (i := 5) rfl
      cases ok
      case false =>
        have hz := HR.out
        unfold Giv.writesG at hz
        rw [if_neg (by rw [HOK.out]; decide)] at hz
        cases hz
        clear HR HOK
        go_wp2_with fail
        go_ret
        exact ⟨rfl, B21⟩
      have hz := HR.out
      unfold Giv.writesG Giv.writeG at hz
      rw [if_pos HOK.out] at hz
      cases ge
      case true =>
        simp only [if_true] at hz
        cases hz
        clear HR HOK
        go_wp2_with fail
        go_ret
        exact ⟨rfl, B21⟩
      have hwo := Giv.write_ok HOK.out s
      have hfi := Giv.fit_in HOK.out s
      obtain ⟨t, ht⟩ : ∃ t, Giv.fitN ⟨ga, gb, gc, gl, false, gd⟩ s = t := ⟨_, rfl⟩
      have hft := ht
      unfold Giv.writeG at hwo
      simp only [Bool.false_eq_true, if_false] at hz hwo
      rw [ht] at hz hwo hfi
      unfold Giv.fitN at hft
      dsimp only at hfi hft
      have hxs : ((gb ++ s.extract 0 t.toNat).size : Int) = gb.size + t := by
        rw [ByteArray.size_append, Giv.ext_size _ _ _ (by omega)]; omega
      have hin := Giv.ok_iff.1 HOK.out
      dsimp only at hin
      simp only [Prod.mk.injEq, Giv.Gv.mk.injEq] at hz
      obtain ⟨⟨q1, q2, q3, q4, q5, q6⟩, q7⟩ := hz
      subst q1 q3 q4 q5 q6 q7
      rw [q2] at hwo hxs
      have hxo := fun w' => Giv.implGiverOk ⟨ga, xb, gc, gl, false, gd⟩ w' (by dsimp only; omega)
      rw [hwo] at hxo
      dsimp only [Giv.Gv.v] at hxo
      have HXO : Hid _ := hxo
      have hxb : xb.toList = (gb ++ s.extract 0 t.toNat).toList := by rw [q2]
      have t0 : 0 ≤ t := hfi.1
      have t1 : t ≤ (s.size : Int) := hfi.2.1
      have t2 : ¬ 9223372036854775807 < gb.size + t.toNat := by omega
      have t3 : -1000000000 ≤ ga ∧ ga ≤ 1000000000 := by omega
      have t4 : xb.size ≤ 400 := by omega
      have hws : (t = s.size) ∨ (¬ t = s.size ∧ (xb.size : Int) = gc) ∨ (¬ t = s.size ∧ ¬ (xb.size : Int) = gc ∧ ga + (xb.size : Int) = 1000000000) := by omega
      obtain ⟨t5, t6⟩ := t3
      have d0 := Draw.Later.cell e0
      have d1 := Draw.Later.cell e1
      have d2 := Draw.Later.cell e2
      have d3 := Draw.Later.cell e3
      have d4 := Draw.Later.cell e4
      have d5 := Draw.Later.cell e5
      have f0 := Draw.Later.cell p0
      have f1 := Draw.Later.cell p1
      have f2 := Draw.Later.cell p2
      have f3 := Draw.Later.cell p3
      have f4 := Draw.Later.cell p4
      have f5 := Draw.Later.cell p5
      clear HR HOK hwo hfi hft hin q2 ht hxo hxs
      rcases hws with hw1 | ⟨hw1, hw2⟩ | ⟨hw1, hw2, hw3⟩
      focus
        have a1 : decide (t = (s.size : Int)) = true := decide_eq_true hw1
        have a2 : (t == (s.size : Int)) = true := beq_iff_eq.2 hw1
        subst hw1
        go_wp2_with fail
        all_goals
          have d9 := 0
          clear d9
          refine Draw.wp_region_later hmix (by kernel_rfl) ?_
          repeat (go_big_quiet_step ((go_at_call 17; exact Draw.later_of (HXO.out _))))
          refine wpQuiet_nil ?_
          intro wq hw'
          obtain ⟨q9, hq⟩ := hw'
          have hBq := q9.h
          rw [← hq] at hBq
          clear hq q9
          go_wp2_with fail
          go_ret
          exact ⟨rfl, B21.trans (hBq.mono B21.size)⟩
      focus
        have a2 : (t == (s.size : Int)) = false := by simpa using hw1
        have b2 : ((xb.size : Int) == gc) = true := beq_iff_eq.2 hw2
        go_wp2_with fail
        all_goals
          have d9 := 0
          clear d9
          refine Draw.wp_region_later hmix (by kernel_rfl) ?_
          repeat (go_big_quiet_step ((go_at_call 17; exact Draw.later_of (HXO.out _))))
          refine wpQuiet_nil ?_
          intro wq hw'
          obtain ⟨q9, hq⟩ := hw'
          have hBq := q9.h
          rw [← hq] at hBq
          clear hq q9
          go_wp2_with fail
          go_ret
          exact ⟨rfl, B21.trans (hBq.mono B21.size)⟩
      focus
        have a2 : (t == (s.size : Int)) = false := by simpa using hw1
        have b2 : ((xb.size : Int) == gc) = false := by simpa using hw2
        have b3 : (ga + (xb.size : Int) == 1000000000) = true := beq_iff_eq.2 hw3
        go_wp2_with fail
        all_goals
          have d9 := 0
          clear d9
          refine Draw.wp_region_later hmix (by kernel_rfl) ?_
          repeat (go_big_quiet_step ((go_at_call 17; exact Draw.later_of (HXO.out _))))
          refine wpQuiet_nil ?_
          intro wq hw'
          obtain ⟨q9, hq⟩ := hw'
          have hBq := q9.h
          rw [← hq] at hBq
          clear hq q9
          go_wp2_with fail
          go_ret
          exact ⟨rfl, B21.trans (hBq.mono B21.size)⟩

/-! ### THE ROW's STEP: WRITTEN OUT: LEAVE IT -/
set_option maxRecDepth 100000 in
theorem lifted (os : Os) (started : os.Started) (H : Type) (enc : TypeId × Value → H) :
    ReturnsInHanded {} Try.checked os 3 .any (Rows.fnGiversSpec.pre6 enc Try.prog Try.f3 Rows.fnGiversRow.domain false) (Rows.fnGiversSpec.post enc Try.prog Try.f3 false true false false) := by
  refine returnsInHanded_of_change (C := Try.checked) own started (by kernel_rfl) Try.func3
    (ChangeSpec.witness6 (enc := enc) (C := Try.checked) false ⟨#[], #[.slice none 0 0], []⟩ 8 (by kernel_rfl) (by kernel_rfl) (by kernel_rfl) (by kernel_rfl)) ?_
  intro W base args ds gs before hval0 hW hcnd _
  have hval : ∀ (j : Nat) t v, Try.f3.params[j]? = some t → args[j]? = some v → Value.okWide Try.prog W .any base t v := hval0
  have hW' := hW
  obtain ⟨p, q, hA0, hV, rfl, hfz, hnd⟩ := hW
  have hA : DataW.TrodAll enc Try.prog W 0 (fun _ => true) true Try.f3.params.toList args.toList ds p := hA0
  rw [Try.params3] at hA hval
  obtain ⟨v0, vs0, d0, ds0, p0, q0, hargs, rfl, rfl, h0, r0⟩ := trodAll_cons hA
  obtain ⟨rfl, rfl, rfl⟩ := trodAll_nil r0
  obtain rfl : args = #[v0] := by cases args; simp_all
  obtain ⟨rfl, rfl⟩ := trodVars_none hV
  obtain ⟨a0, len0, cap0, rfl⟩ := okWide_slice Try.underlying22 (hval 0 22 v0 rfl rfl)
  have k0 := h0
  have lt0 : ∀ x ∈ p0, x.block < W.heap.size := by obtain ⟨m, hm⟩ := k0; exact DataW.trod_lt m _ _ _ hm
  obtain ⟨z0, w0⟩ : ∃ zs, IsRow .u8 W a0 len0 cap0 zs := by
    obtain ⟨fuel, hf⟩ := h0
    rcases open_ints Try.underlying22 Try.underlying5 (by kernel_rfl) hf with ⟨hcs, _⟩ | ⟨x, l, c, zs, hcs, _, hl, hm, hz, _, hcell, hwz⟩
    · simp [Value.cells] at hcs
      obtain ⟨rfl, rfl, rfl⟩ := hcs
      exact ⟨[], .inl ⟨rfl, rfl, rfl, rfl⟩⟩
    · simp [Value.cells] at hcs
      obtain ⟨rfl, rfl, rfl⟩ := hcs
      exact ⟨zs, .inr ⟨_, rfl, hl, hm, by simpa using hz, hcell, hwz⟩⟩
  clear hA0 hval0
  refine (walk a0 len0 cap0 z0 W w0).mono fun e W' ⟨he, bel⟩ => ?_
  subst he
  exact ⟨_, rfl, _, _, _, [], _, [], hW', trodAll_mk1 (shut_bool Try.underlying4 _), (trodAll_cons_mk (Below.trod laidOut (by kernel_rfl) (of_decide_eq_true (by kernel_rfl)) k0 bel lt0) trodAll_mk0), rfl, bel.frame _, fun h => by cases h⟩

theorem over : Rows.fnGiversRow.holds Try.pinned (OpenSpec.ofChange Rows.fnGiversSpec) :=
  OpenClaim.holds_of_wide 3 Try.f3 rfl rfl rfl rfl rfl rfl rfl ⟨rfl, rfl, rfl, rfl, rfl⟩ rfl rfl rfl rfl rfl (by kernel_rfl) Try.func3 (by kernel_rfl)
    (of_decide_eq_true (by kernel_rfl)) (by unfold Func.isWrapper; first | (rw [if_pos (by decide +kernel)]; kernel_rfl) | (rw [if_neg (by decide +kernel)]; exact ⟨rfl, rfl⟩))
    (fun os started H enc _ => lifted os started H enc)

/-- THE STATEMENT. -/
theorem proved : Rows.FnGiversSaid := over
end Go.Proofs.Ytagpgjojfglkjaa.fnGivers
namespace Go.Proofs.Ytagpgjojfglkjaa
theorem fnGivers_holds : Rows.FnGiversSaid := fnGivers.proved
#print axioms fnGivers_holds
end Go.Proofs.Ytagpgjojfglkjaa
