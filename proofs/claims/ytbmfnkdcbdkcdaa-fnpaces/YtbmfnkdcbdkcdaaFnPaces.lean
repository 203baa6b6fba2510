/- For every code of bytes FnPaces returns true: the program's Measured, Longer, PaceOk and NewPace answer as the specification's, a pace stays right, Longer waits at least as long and at most twice as long, and what is no pace gives the zero pace; no condition. (Its frame is the guide's shell; the walk is mine.) -/
import Derived.Test.YtbmfnkdcbdkcdaaRows
import Derived.Test.YtbmfnkdcbdkcdaaPacS
import Derived.Test.YtbmfnkdcbdkcdaaPacR
import Derived.Test.YtbmfnkdcbdkcdaaPacQ
import Derived.Test.YtbmfnkdcbdkcdaaDrawPc
import Derived.WalkKit
import Derived.ProofKit
import Derived.OpenShut
import Derived.ShutString
import Derived.ChangeOld
import Derived.Below
namespace Go.Proofs.Ytbmfnkdcbdkcdaa.fnPaces
open Go.ChangeShapes Go.WideShapes Go.ChangeAt Go.RowKit
open Go.ChangeMaps (open_string shut_string)
set_option linter.unusedVariables false

theorem own : ownKnob Try.prog.godebug = none := by kernel_rfl
theorem laidOut : laidOutB Try.prog = true := by kernel_rfl

/-- WHAT THE WALK IS TOLD OF A SLICE OF INTEGERS THAT CAME IN: it is nil; or it leads to a row of 'cap' cells, the numbers 'zs' (the first 'len' are its elements, the rest its spare room), each fitting its kind. -/
def IsRow (k : IntKind) (w : World) (a : Option Addr) (len cap : Nat) (zs : List Int) : Prop :=
  (a = none ∧ len = 0 ∧ cap = 0 ∧ zs = []) ∨
  ∃ x, a = some x ∧ len ≤ cap ∧ cap ≤ maxLen ∧ zs.length = cap ∧ (∀ i, i < zs.length → w.cell? (x.add i) = some (.int k (zs.getD i 0))) ∧ ∀ n ∈ zs, (Lit.int k n).wf = true

/-! ### STEP 1: THE WALK: the Go text returns true, AND WRITES NOTHING THAT WAS THERE: 'Below w.heap.size w w'' (Derived/Below.lean: '.refl', '.alloc', '.drew', '.setCell' at a new block, '.trans'). Open each 'IsRow' by 'rcases' AHEAD of 'go_enter'; part every test ahead of the walk. -/
set_option linter.unusedSimpArgs false in
set_option maxRecDepth 20000 in
set_option maxHeartbeats 4000000 in
theorem walk (a0 : Option Addr) (len0 cap0 : Nat) (z0 : List Int) (w : World) (w0 : IsRow .u8 w a0 len0 cap0 z0) :
    Calls Try.prog 3 #[.slice a0 len0 cap0] w fun e w' => e = .returned (.bool true) ∧ Below w.heap.size w w' := by
  obtain ⟨hb, hm⟩ := Draw.bytes_of_row w0
  clear w0
  by_cases hl : len0 ≤ 4096
  case neg =>
    have hd : decide (4096 < (len0 : Int)) = true := by simp; omega
    go_enter Try.func3, Try.ntmps3
    go_wp2_with fail
    refine (Draw.big _ _ _ _ hm).mono ?_
    rintro e w1 ⟨rfl, rfl⟩
    go_wp2_with fail
    go_ret
    exact ⟨rfl, Below.refl _ _⟩
  have hd : decide (4096 < (len0 : Int)) = false := by simp; omega
  have hmix := Tak.mix
  go_enter Try.func3, Try.ntmps3
  go_wp2_with fail
  refine (Draw.big _ _ _ _ hm).mono ?_
  rintro e w1 ⟨rfl, rfl⟩
  clear hd
  go_wp2_with fail
  refine (Pac.drawMeasured _ _ _ _ hb hl).mono ?_
  rintro x w1 ⟨p, t, rfl, B1⟩
  have v3 : RowG.Var 25 (w1.alloc (.cells #[.int .i64 p.mn, .int .i64 p.sp, .int .i64 p.wt, .int .i64 p.tm] 25)) w1.heap.size [.int .i64 p.mn, .int .i64 p.sp, .int .i64 p.wt, .int .i64 p.tm] := RowG.Var.new w1 _
  have HK3 := B1.size
  replace B1 := B1.alloc B1.size (.cells #[.int .i64 p.mn, .int .i64 p.sp, .int .i64 p.wt, .int .i64 p.tm] 25)
  go_upto_region 4 with (fail)
  generalize w1.alloc (.cells #[.int .i64 p.mn, .int .i64 p.sp, .int .i64 p.wt, .int .i64 p.tm] 25) = W1 at *
  have hk3 : w.heap.size ≤ w1.heap.size := HK3
  generalize w1.heap.size = k3 at *
  have e0 := v3.cell (i := 0) rfl
  have e1 := v3.cell (i := 1) rfl
  have e2 := v3.cell (i := 2) rfl
  have e3 := v3.cell (i := 3) rfl
  go_wp2_with fail
  refine (Pac.implMeasured p t _).mono ?_
  rintro x w2 ⟨rfl, b2⟩
  have X0 : Hid (Pac.paceB p = false → Pac.measP p t = Pac.zeroP) := fun h => Pac.meas_bad h t
  have X1 : Hid (Pac.paceB p = true → ¬ (0 ≤ t ∧ t ≤ 60000) → Pac.measP p t = p) := fun h ht => Pac.meas_out h ht
  have X2 : Hid (Pac.paceB p = true → 0 ≤ t ∧ t ≤ 60000 → Pac.paceB (Pac.measP p t) = true ∧ (Pac.measP p t).tm = 0) := fun h ht => ⟨Pac.meas_ok h t, Pac.meas_tm h ht⟩
  have hSM := fun w' => Pac.specMeasured p t w'
  generalize Pac.measP p t = x at *
  replace v3 := (v3.later b2).alloc (.cells #[.int .i64 x.mn, .int .i64 x.sp, .int .i64 x.wt, .int .i64 x.tm] 25)
  have v5 : RowG.Var 25 (w2.alloc (.cells #[.int .i64 x.mn, .int .i64 x.sp, .int .i64 x.wt, .int .i64 x.tm] 25)) w2.heap.size [.int .i64 x.mn, .int .i64 x.sp, .int .i64 x.wt, .int .i64 x.tm] := RowG.Var.new w2 _
  replace B1 := (B1.trans (b2.mono B1.size)).alloc (B1.trans (b2.mono B1.size)).size (.cells #[.int .i64 x.mn, .int .i64 x.sp, .int .i64 x.wt, .int .i64 x.tm] 25)
  clear b2 e0 e1 e2 e3
  go_upto_region 5 with (fail)
  generalize w2.alloc (.cells #[.int .i64 x.mn, .int .i64 x.sp, .int .i64 x.wt, .int .i64 x.tm] 25) = W2 at *
  generalize w2.heap.size = k5 at *
  have hb2 := Draw.Bytes.below hb B1 (Nat.le_refl _)
  go_wp2_with fail
  refine (Pac.drawLonger _ _ _ _ hb2 hl).mono ?_
  rintro x0 w3 ⟨q, rfl, b3⟩
  replace v3 := (v3.later b3).alloc (.cells #[.int .i64 q.mn, .int .i64 q.sp, .int .i64 q.wt, .int .i64 q.tm] 25)
  replace v5 := (v5.later b3).alloc (.cells #[.int .i64 q.mn, .int .i64 q.sp, .int .i64 q.wt, .int .i64 q.tm] 25)
  have v6 : RowG.Var 25 (w3.alloc (.cells #[.int .i64 q.mn, .int .i64 q.sp, .int .i64 q.wt, .int .i64 q.tm] 25)) w3.heap.size [.int .i64 q.mn, .int .i64 q.sp, .int .i64 q.wt, .int .i64 q.tm] := RowG.Var.new w3 _
  replace B1 := (B1.trans (b3.mono B1.size)).alloc (B1.trans (b3.mono B1.size)).size (.cells #[.int .i64 q.mn, .int .i64 q.sp, .int .i64 q.wt, .int .i64 q.tm] 25)
  clear b3 hb2
  go_upto_region 6 with (fail)
  generalize w3.alloc (.cells #[.int .i64 q.mn, .int .i64 q.sp, .int .i64 q.wt, .int .i64 q.tm] 25) = W3 at *
  generalize w3.heap.size = k6 at *
  have e0 := v6.cell (i := 0) rfl
  have e1 := v6.cell (i := 1) rfl
  have e2 := v6.cell (i := 2) rfl
  have e3 := v6.cell (i := 3) rfl
  go_wp2_with fail
  refine (Pac.implLonger q _).mono ?_
  rintro x0 w4 ⟨rfl, b4⟩
  have Y0 : Hid (Pac.paceB q = false → Pac.longP q = Pac.zeroP) := fun h => Pac.long_bad h
  have Y1 : Hid (Pac.paceB q = true → Pac.paceB (Pac.longP q) = true ∧ q.wt ≤ (Pac.longP q).wt ∧ (Pac.longP q).wt ≤ 2 * q.wt ∧ (Pac.longP q).mn = q.mn ∧ (Pac.longP q).sp = q.sp ∧ 200 ≤ q.wt ∧ q.wt ≤ 60000) := fun h => ⟨Pac.long_ok h, Pac.long_facts h⟩
  have hSL := fun w' => Pac.specLonger q w'
  generalize Pac.longP q = y at *
  replace v3 := (v3.later b4).alloc (.cells #[.int .i64 y.mn, .int .i64 y.sp, .int .i64 y.wt, .int .i64 y.tm] 25)
  replace v5 := (v5.later b4).alloc (.cells #[.int .i64 y.mn, .int .i64 y.sp, .int .i64 y.wt, .int .i64 y.tm] 25)
  replace v6 := (v6.later b4).alloc (.cells #[.int .i64 y.mn, .int .i64 y.sp, .int .i64 y.wt, .int .i64 y.tm] 25)
  have v7 : RowG.Var 25 (w4.alloc (.cells #[.int .i64 y.mn, .int .i64 y.sp, .int .i64 y.wt, .int .i64 y.tm] 25)) w4.heap.size [.int .i64 y.mn, .int .i64 y.sp, .int .i64 y.wt, .int .i64 y.tm] := RowG.Var.new w4 _
  replace B1 := (B1.trans (b4.mono B1.size)).alloc (B1.trans (b4.mono B1.size)).size (.cells #[.int .i64 y.mn, .int .i64 y.sp, .int .i64 y.wt, .int .i64 y.tm] 25)
  clear b4 e0 e1 e2 e3
  go_upto_region 7 with (fail)
  generalize w4.alloc (.cells #[.int .i64 y.mn, .int .i64 y.sp, .int .i64 y.wt, .int .i64 y.tm] 25) = W4 at *
  generalize w4.heap.size = k7 at *
  have hIP := fun w' => Pac.implPaceOk p w'
  have hSP := fun w' => Pac.specPaceOk p w'
  have hIQ := fun w' => Pac.implPaceOk y w'
  have hSQ := fun w' => Pac.specPaceOk q w'
  have hIX := fun w' => Pac.implPaceOk x w'
  have hIN := fun w' => Pac.implPaceOk ⟨0, 0, 1000, 0⟩ w'
  have hN : Pac.paceB ⟨0, 0, 1000, 0⟩ = true := by decide
  rw [hN] at hIN
  clear hN
  obtain ⟨pm, ps, pw, pt⟩ := p
  obtain ⟨xm, xs, xw, xt⟩ := x
  obtain ⟨qm, qs, qw, qt⟩ := q
  obtain ⟨ym, ys, yw, yt⟩ := y
  dsimp only [Pac.Pc.v] at *
  generalize hbp : Pac.paceB ⟨pm, ps, pw, pt⟩ = bp at *
  generalize hbq : Pac.paceB ⟨qm, qs, qw, qt⟩ = bq at *
  generalize hbx : Pac.paceB ⟨xm, xs, xw, xt⟩ = bx at *
  generalize hby : Pac.paceB ⟨ym, ys, yw, yt⟩ = bY at *
  clear hbp hbq hbx hby
  have g0 := Draw.Later.cell (v3.cell (i := 0) rfl)
  have g1 := Draw.Later.cell (v3.cell (i := 1) rfl)
  have g2 := Draw.Later.cell (v3.cell (i := 2) rfl)
  have g3 := Draw.Later.cell (v3.cell (i := 3) rfl)
  have h0 := Draw.Later.cell (v5.cell (i := 0) rfl)
  have h1 := Draw.Later.cell (v5.cell (i := 1) rfl)
  have h2 := Draw.Later.cell (v5.cell (i := 2) rfl)
  have h3 := Draw.Later.cell (v5.cell (i := 3) rfl)
  have i0 := Draw.Later.cell (v6.cell (i := 0) rfl)
  have i1 := Draw.Later.cell (v6.cell (i := 1) rfl)
  have i2 := Draw.Later.cell (v6.cell (i := 2) rfl)
  have i3 := Draw.Later.cell (v6.cell (i := 3) rfl)
  have j0 := Draw.Later.cell (v7.cell (i := 0) rfl)
  have j1 := Draw.Later.cell (v7.cell (i := 1) rfl)
  have j2 := Draw.Later.cell (v7.cell (i := 2) rfl)
  have j3 := Draw.Later.cell (v7.cell (i := 3) rfl)
  refine Draw.wp_region_later hmix (by kernel_rfl) ?_
  repeat (go_big_quiet_step ((first | (go_at_call 14; exact Draw.later_of (hSM _)) | (go_at_call 15; exact Draw.later_of (hSL _)) | (go_at_call 16; first | with_reducible exact Draw.later_of (hIP _) | with_reducible exact Draw.later_of (hIN _)) | (go_at_call 17; exact Draw.later_of (hSP _)) | (go_at_call 18; exact Draw.later_of (Pac.implNewPace _)) | (go_at_call 19; exact Draw.later_of (Pac.specNewPace _)))))
  refine wpQuiet_nil ?_
  intro wq hw'
  have hBq : Below W4.heap.size W4 wq := by obtain ⟨p, rfl⟩ := hw'; exact p.h
  clear hw'
  clear g0 g1 g2 g3
  clear h0 h1 h2 h3
  clear i0 i1 i2 i3
  clear j0 j1 j2 j3
  replace v3 := v3.later hBq
  replace v5 := v5.later hBq
  replace v6 := v6.later hBq
  replace v7 := v7.later hBq
  replace B1 := B1.trans (hBq.mono B1.size)
  clear hBq hSM hSL hIN hIP
  have i0 := v6.cell (i := 0) rfl
  have i1 := v6.cell (i := 1) rfl
  have i2 := v6.cell (i := 2) rfl
  have i3 := v6.cell (i := 3) rfl
  have j0 := v7.cell (i := 0) rfl
  have j1 := v7.cell (i := 1) rfl
  have j2 := v7.cell (i := 2) rfl
  have j3 := v7.cell (i := 3) rfl
  go_upto_region 9 with (fail)
  go_cut [95] from 50 (fun v wr => v = .bool false ∧ Below wq.heap.size wq wr)
  case first =>
    cases bq
    case false =>
      obtain ⟨rfl, rfl, rfl, rfl⟩ : ym = 0 ∧ ys = 0 ∧ yw = 0 ∧ yt = 0 := by have := Y0.out rfl; unfold Pac.zeroP at this; injection this with a b c d; exact ⟨a, b, c, d⟩
      go_wp2_with fail
      refine (hSQ _).mono ?_
      rintro e wa ⟨rfl, ba⟩
      have ca := (Below.refl _ wq).trans ba
      replace v6 := v6.later ba
      replace v7 := v7.later ba
      clear i0 i1 i2 i3 j0 j1 j2 j3
      have i0 := v6.cell (i := 0) rfl
      have i1 := v6.cell (i := 1) rfl
      have i2 := v6.cell (i := 2) rfl
      have i3 := v6.cell (i := 3) rfl
      have j0 := v7.cell (i := 0) rfl
      have j1 := v7.cell (i := 1) rfl
      have j2 := v7.cell (i := 2) rfl
      have j3 := v7.cell (i := 3) rfl
      go_wp2_with fail
      refine (hSQ _).mono ?_
      rintro e wb ⟨rfl, bb⟩
      replace v6 := v6.later bb
      replace v7 := v7.later bb
      replace ca := ca.trans (bb.mono ca.size)
      clear i0 i1 i2 i3 j0 j1 j2 j3
      have i0 := v6.cell (i := 0) rfl
      have i1 := v6.cell (i := 1) rfl
      have i2 := v6.cell (i := 2) rfl
      have i3 := v6.cell (i := 3) rfl
      have j0 := v7.cell (i := 0) rfl
      have j1 := v7.cell (i := 1) rfl
      have j2 := v7.cell (i := 2) rfl
      have j3 := v7.cell (i := 3) rfl
      go_wp2_with fail
      go_meet
      exact ⟨rfl, ca⟩
    case true =>
      obtain ⟨hy, y1, y2, y3, y4, y5, y6⟩ := Y1.out rfl
      subst hy
      subst y3
      subst y4
      have n1 : ¬ yw < qw := by omega
      have n2 : ¬ 2 * qw < yw := by omega
      go_wp2_with fail
      refine (hSQ _).mono ?_
      rintro e wa ⟨rfl, ba⟩
      have ca := (Below.refl _ wq).trans ba
      replace v6 := v6.later ba
      replace v7 := v7.later ba
      clear i0 i1 i2 i3 j0 j1 j2 j3
      have i0 := v6.cell (i := 0) rfl
      have i1 := v6.cell (i := 1) rfl
      have i2 := v6.cell (i := 2) rfl
      have i3 := v6.cell (i := 3) rfl
      have j0 := v7.cell (i := 0) rfl
      have j1 := v7.cell (i := 1) rfl
      have j2 := v7.cell (i := 2) rfl
      have j3 := v7.cell (i := 3) rfl
      go_wp2_with fail
      refine (hIQ _).mono ?_
      rintro e wb ⟨rfl, bb⟩
      replace v6 := v6.later bb
      replace v7 := v7.later bb
      replace ca := ca.trans (bb.mono ca.size)
      clear i0 i1 i2 i3 j0 j1 j2 j3
      have i0 := v6.cell (i := 0) rfl
      have i1 := v6.cell (i := 1) rfl
      have i2 := v6.cell (i := 2) rfl
      have i3 := v6.cell (i := 3) rfl
      have j0 := v7.cell (i := 0) rfl
      have j1 := v7.cell (i := 1) rfl
      have j2 := v7.cell (i := 2) rfl
      have j3 := v7.cell (i := 3) rfl
      go_wp2_with fail
      refine (hSQ _).mono ?_
      rintro e wd ⟨rfl, bd⟩
      replace ca := ca.trans (bd.mono ca.size)
      go_wp2_with fail
      go_meet
      exact ⟨by simp [n1, n2], ca⟩
  case rest =>
    obtain ⟨rfl, ba⟩ := hcut
    replace v3 := v3.later ba
    replace v5 := v5.later ba
    replace B1 := B1.trans (ba.mono B1.size)
    clear ba v6 v7 i0 i1 i2 i3 j0 j1 j2 j3 Y0 Y1 hIQ hSQ
    have g0 := v3.cell (i := 0) rfl
    have g1 := v3.cell (i := 1) rfl
    have g2 := v3.cell (i := 2) rfl
    have g3 := v3.cell (i := 3) rfl
    go_wp2_with fail
    refine (hSP _).mono ?_
    rintro e wb ⟨rfl, bb⟩
    replace v3 := v3.later bb
    replace v5 := v5.later bb
    replace B1 := B1.trans (bb.mono B1.size)
    clear bb hSP g0 g1 g2 g3
    have g0 := v3.cell (i := 0) rfl
    have g1 := v3.cell (i := 1) rfl
    have g2 := v3.cell (i := 2) rfl
    have g3 := v3.cell (i := 3) rfl
    have h0 := v5.cell (i := 0) rfl
    have h1 := v5.cell (i := 1) rfl
    have h2 := v5.cell (i := 2) rfl
    have h3 := v5.cell (i := 3) rfl
    cases bp
    case false =>
      obtain ⟨rfl, rfl, rfl, rfl⟩ : xm = 0 ∧ xs = 0 ∧ xw = 0 ∧ xt = 0 := by have := X0.out rfl; unfold Pac.zeroP at this; injection this with a b c d; exact ⟨a, b, c, d⟩
      go_wp2_with fail
      go_ret
      exact ⟨rfl, B1⟩
    by_cases t0 : t < 0
    case pos =>
      obtain ⟨rfl, rfl, rfl, rfl⟩ : xm = pm ∧ xs = ps ∧ xw = pw ∧ xt = pt := by have := X1.out rfl (by omega); injection this with a b c d; exact ⟨a, b, c, d⟩
      go_wp2_with fail
      go_ret
      exact ⟨by simp, B1⟩
    by_cases t1 : 60000 < t
    case pos =>
      obtain ⟨rfl, rfl, rfl, rfl⟩ : xm = pm ∧ xs = ps ∧ xw = pw ∧ xt = pt := by have := X1.out rfl (by omega); injection this with a b c d; exact ⟨a, b, c, d⟩
      go_wp2_with fail
      go_ret
      exact ⟨by simp, B1⟩
    obtain ⟨hx, x4⟩ := X2.out rfl (by omega)
    subst hx
    subst x4
    go_wp2_with fail
    refine (hIX _).mono ?_
    rintro e wd ⟨rfl, bd⟩
    replace v5 := v5.later bd
    replace B1 := B1.trans (bd.mono B1.size)
    clear h0 h1 h2 h3 g0 g1 g2 g3
    have h0 := v5.cell (i := 0) rfl
    have h1 := v5.cell (i := 1) rfl
    have h2 := v5.cell (i := 2) rfl
    have h3 := v5.cell (i := 3) rfl
    go_wp2_with fail
    go_ret
    exact ⟨rfl, B1⟩

/-! ### THE ROW's STEP: WRITTEN OUT: LEAVE IT -/
set_option maxRecDepth 100000 in
theorem lifted (os : Os) (started : os.Started) (H : Type) (enc : TypeId × Value → H) :
    ReturnsInHanded {} Try.checked os 3 .any (Rows.fnPacesSpec.pre6 enc Try.prog Try.f3 Rows.fnPacesRow.domain false) (Rows.fnPacesSpec.post enc Try.prog Try.f3 false true false false) := by
  refine returnsInHanded_of_change (C := Try.checked) own started (by kernel_rfl) Try.func3
    (ChangeSpec.witness6 (enc := enc) (C := Try.checked) false ⟨#[], #[.slice none 0 0], []⟩ 8 (by kernel_rfl) (by kernel_rfl) (by kernel_rfl) (by kernel_rfl)) ?_
  intro W base args ds gs before hval0 hW hcnd _
  have hval : ∀ (j : Nat) t v, Try.f3.params[j]? = some t → args[j]? = some v → Value.okWide Try.prog W .any base t v := hval0
  have hW' := hW
  obtain ⟨p, q, hA0, hV, rfl, hfz, hnd⟩ := hW
  have hA : DataW.TrodAll enc Try.prog W 0 (fun _ => true) true Try.f3.params.toList args.toList ds p := hA0
  rw [Try.params3] at hA hval
  obtain ⟨v0, vs0, d0, ds0, p0, q0, hargs, rfl, rfl, h0, r0⟩ := trodAll_cons hA
  obtain ⟨rfl, rfl, rfl⟩ := trodAll_nil r0
  obtain rfl : args = #[v0] := by cases args; simp_all
  obtain ⟨rfl, rfl⟩ := trodVars_none hV
  obtain ⟨a0, len0, cap0, rfl⟩ := okWide_slice Try.underlying22 (hval 0 22 v0 rfl rfl)
  have k0 := h0
  have lt0 : ∀ x ∈ p0, x.block < W.heap.size := by obtain ⟨m, hm⟩ := k0; exact DataW.trod_lt m _ _ _ hm
  obtain ⟨z0, w0⟩ : ∃ zs, IsRow .u8 W a0 len0 cap0 zs := by
    obtain ⟨fuel, hf⟩ := h0
    rcases open_ints Try.underlying22 Try.underlying5 (by kernel_rfl) hf with ⟨hcs, _⟩ | ⟨x, l, c, zs, hcs, _, hl, hm, hz, _, hcell, hwz⟩
    · simp [Value.cells] at hcs
      obtain ⟨rfl, rfl, rfl⟩ := hcs
      exact ⟨[], .inl ⟨rfl, rfl, rfl, rfl⟩⟩
    · simp [Value.cells] at hcs
      obtain ⟨rfl, rfl, rfl⟩ := hcs
      exact ⟨zs, .inr ⟨_, rfl, hl, hm, by simpa using hz, hcell, hwz⟩⟩
  clear hA0 hval0
  refine (walk a0 len0 cap0 z0 W w0).mono fun e W' ⟨he, bel⟩ => ?_
  subst he
  exact ⟨_, rfl, _, _, _, [], _, [], hW', trodAll_mk1 (shut_bool Try.underlying4 _), (trodAll_cons_mk (Below.trod laidOut (by kernel_rfl) (of_decide_eq_true (by kernel_rfl)) k0 bel lt0) trodAll_mk0), rfl, bel.frame _, fun h => by cases h⟩

theorem over : Rows.fnPacesRow.holds Try.pinned (OpenSpec.ofChange Rows.fnPacesSpec) :=
  OpenClaim.holds_of_wide 3 Try.f3 rfl rfl rfl rfl rfl rfl rfl ⟨rfl, rfl, rfl, rfl, rfl⟩ rfl rfl rfl rfl rfl (by kernel_rfl) Try.func3 (by kernel_rfl)
    (of_decide_eq_true (by kernel_rfl)) (by unfold Func.isWrapper; first | (rw [if_pos (by decide +kernel)]; kernel_rfl) | (rw [if_neg (by decide +kernel)]; exact ⟨rfl, rfl⟩))
    (fun os started H enc _ => lifted os started H enc)

/-- THE STATEMENT. -/
theorem proved : Rows.FnPacesSaid := over
end Go.Proofs.Ytbmfnkdcbdkcdaa.fnPaces
namespace Go.Proofs.Ytbmfnkdcbdkcdaa
theorem fnPaces_holds : Rows.FnPacesSaid := fnPaces.proved
#print axioms fnPaces_holds
end Go.Proofs.Ytbmfnkdcbdkcdaa
