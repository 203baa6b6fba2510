/- For every code of bytes FnSteady returns true: of one measure three hundred times the pace's mean is that measure, its spread at most three, its wait the two within their bounds; no condition. (Its frame is the guide's shell; the walk is mine.) -/
import Derived.Test.YtbmfnkdcbdkcdaaRows
import Derived.Test.YtbmfnkdcbdkcdaaPacS
import Derived.Test.YtbmfnkdcbdkcdaaPacR
import Derived.Test.YtbmfnkdcbdkcdaaDrawPc
import Derived.WalkKit
import Derived.ProofKit
import Derived.OpenShut
import Derived.ShutString
import Derived.ChangeOld
import Derived.Below
namespace Go.Proofs.Ytbmfnkdcbdkcdaa.fnSteady
open Go.ChangeShapes Go.WideShapes Go.ChangeAt Go.RowKit
open Go.ChangeMaps (open_string shut_string)
set_option linter.unusedVariables false

theorem own : ownKnob Try.prog.godebug = none := by kernel_rfl
theorem laidOut : laidOutB Try.prog = true := by kernel_rfl

/-- WHAT THE WALK IS TOLD OF A SLICE OF INTEGERS THAT CAME IN: it is nil; or it leads to a row of 'cap' cells, the numbers 'zs' (the first 'len' are its elements, the rest its spare room), each fitting its kind. -/
def IsRow (k : IntKind) (w : World) (a : Option Addr) (len cap : Nat) (zs : List Int) : Prop :=
  (a = none ∧ len = 0 ∧ cap = 0 ∧ zs = []) ∨
  ∃ x, a = some x ∧ len ≤ cap ∧ cap ≤ maxLen ∧ zs.length = cap ∧ (∀ i, i < zs.length → w.cell? (x.add i) = some (.int k (zs.getD i 0))) ∧ ∀ n ∈ zs, (Lit.int k n).wf = true

/-! ### STEP 1: THE WALK: the Go text returns true, AND WRITES NOTHING THAT WAS THERE: 'Below w.heap.size w w'' (Derived/Below.lean: '.refl', '.alloc', '.drew', '.setCell' at a new block, '.trans'). Open each 'IsRow' by 'rcases' AHEAD of 'go_enter'; part every test ahead of the walk. -/
set_option linter.unusedSimpArgs false in
set_option maxRecDepth 20000 in
set_option maxHeartbeats 4000000 in
theorem walk (a0 : Option Addr) (len0 cap0 : Nat) (z0 : List Int) (w : World) (w0 : IsRow .u8 w a0 len0 cap0 z0) :
    Calls Try.prog 4 #[.slice a0 len0 cap0] w fun e w' => e = .returned (.bool true) ∧ Below w.heap.size w w' := by
  obtain ⟨hb, hm⟩ := Draw.bytes_of_row w0
  clear w0
  by_cases hl : len0 ≤ 4096
  case neg =>
    have hd : decide (4096 < (len0 : Int)) = true := by simp; omega
    go_enter Try.func4, Try.ntmps4
    go_wp2_with fail
    refine (Draw.big _ _ _ _ hm).mono ?_
    rintro e w1 ⟨rfl, rfl⟩
    go_wp2_with fail
    go_ret
    exact ⟨rfl, Below.refl _ _⟩
  have hd : decide (4096 < (len0 : Int)) = false := by simp; omega
  have hmix := Tak.mix
  go_enter Try.func4, Try.ntmps4
  go_wp2_with fail
  refine (Draw.big _ _ _ _ hm).mono ?_
  rintro e w1 ⟨rfl, rfl⟩
  clear hd
  go_wp2_with fail
  refine (Pac.drawMeasured _ _ _ _ hb hl).mono ?_
  rintro x w1 ⟨p, t, rfl, B1⟩
  have v3 : RowG.Var 25 (w1.alloc (.cells #[.int .i64 p.mn, .int .i64 p.sp, .int .i64 p.wt, .int .i64 p.tm] 25)) w1.heap.size [.int .i64 p.mn, .int .i64 p.sp, .int .i64 p.wt, .int .i64 p.tm] := RowG.Var.new w1 _
  have HK3 := B1.size
  replace B1 := B1.alloc B1.size (.cells #[.int .i64 p.mn, .int .i64 p.sp, .int .i64 p.wt, .int .i64 p.tm] 25)
  go_upto_region 4 with (fail)
  generalize w1.alloc (.cells #[.int .i64 p.mn, .int .i64 p.sp, .int .i64 p.wt, .int .i64 p.tm] 25) = W1 at *
  have hk3 : w.heap.size ≤ w1.heap.size := HK3
  generalize w1.heap.size = k3 at *
  have e0 := v3.cell (i := 0) rfl
  have e1 := v3.cell (i := 1) rfl
  have e2 := v3.cell (i := 2) rfl
  have e3 := v3.cell (i := 3) rfl
  go_wp2_with fail
  refine (Pac.specPaceOk p _).mono ?_
  rintro x w2 ⟨rfl, b2⟩
  replace v3 := v3.later b2
  replace B1 := B1.trans (b2.mono B1.size)
  clear b2 e0 e1 e2 e3
  cases hp : Pac.paceB p
  case false =>
    go_wp2_with fail
    go_ret
    exact ⟨rfl, B1⟩
  have hb2 := Draw.Bytes.below hb B1 (Nat.le_refl _)
  go_wp2_with fail
  refine (Draw.pick _ _ _ 1 60001 _ hb2 hl (by decide) (by decide) (by decide)).mono ?_
  rintro x w3 ⟨⟨u, u0, u1, rfl⟩, rfl⟩
  have hu : 0 ≤ u ∧ u ≤ 60000 := by omega
  have HP : Hid (Pac.paceB p = true) := hp
  clear hp hb2
  go_wp2_with fail
  go_loopw [6] (fun iv wr => ∃ n : Nat, n ≤ 300 ∧ iv = .int .i64 (n : Int) ∧ RowG.Var 25 wr k3 [.int .i64 (Pac.measN u p n).mn, .int .i64 (Pac.measN u p n).sp, .int .i64 (Pac.measN u p n).wt, .int .i64 (Pac.measN u p n).tm] ∧ Below w.heap.size w wr) (fun iv _ => 300 - (intOf iv).toNat)
  case atStart => exact ⟨0, by omega, rfl, v3, B1⟩
  case round =>
    clear v3 B1
    obtain ⟨n, hn, rfl, v3, B1⟩ := hrel
    by_cases hlt : n < 300
    case pos =>
      have HS : Hid (Pac.measN u p (n + 1) = Pac.measP (Pac.measN u p n) u) := Pac.measN_step u p n
      generalize Pac.measN u p n = q at *
      have e0 := v3.cell (i := 0) rfl
      have e1 := v3.cell (i := 1) rfl
      have e2 := v3.cell (i := 2) rfl
      have e3 := v3.cell (i := 3) rfl
      go_wp2_with fail
      refine (Pac.implMeasured q u _).mono ?_
      rintro x w4 ⟨rfl, b4⟩
      replace v3 := v3.later b4
      replace B1 := B1.trans (b4.mono B1.size)
      clear b4 e0 e1 e2 e3
      rw [← HS.out]
      obtain ⟨r, hr⟩ : ∃ r, r = Pac.measN u p (n + 1) := ⟨_, rfl⟩
      have HRR : Hid (r = Pac.measN u p (n + 1)) := hr
      rw [← hr]
      clear hr
      have e0 := v3.cell (i := 0) rfl
      have e1 := v3.cell (i := 1) rfl
      have e2 := v3.cell (i := 2) rfl
      have e3 := v3.cell (i := 3) rfl
      have f0 := v3.free 0
      have f1 := v3.free 1
      have f2 := v3.free 2
      have f3 := v3.free 3
      go_wp2_with fail
      have r3 : RowG.Var 25 ((((w4.setCell ⟨k3, 0, none⟩ (.int .i64 r.mn)).setCell ⟨k3, 1, none⟩ (.int .i64 r.sp)).setCell ⟨k3, 2, none⟩ (.int .i64 r.wt)).setCell ⟨k3, 3, none⟩ (.int .i64 r.tm)) k3 [.int .i64 r.mn, .int .i64 r.sp, .int .i64 r.wt, .int .i64 r.tm] := (((v3.set 0 _).set 1 _).set 2 _).set 3 _
      have B3 : Below w.heap.size w ((((w4.setCell ⟨k3, 0, none⟩ (.int .i64 r.mn)).setCell ⟨k3, 1, none⟩ (.int .i64 r.sp)).setCell ⟨k3, 2, none⟩ (.int .i64 r.wt)).setCell ⟨k3, 3, none⟩ (.int .i64 r.tm)) := (((B1.setCell (p := ⟨k3, 0, none⟩) (by exact hk3) _).setCell (p := ⟨k3, 1, none⟩) (by exact hk3) _).setCell (p := ⟨k3, 2, none⟩) (by exact hk3) _).setCell (p := ⟨k3, 3, none⟩) (by exact hk3) _
      go_roundw
      case rel => exact ⟨n + 1, by omega, by go_num, (by rw [← HRR.out]; exact r3), B3⟩
      case measure => simp [intOf]; omega
    case neg =>
      obtain ⟨hq1, hq2, hq3, hq4⟩ := Pac.steadyP (by omega : n = 300) HP.out hu
      generalize Pac.measN u p n = q at *
      obtain ⟨mn, sp, wt, tm⟩ := q
      dsimp only at *
      have e0 := v3.cell (i := 0) rfl
      have e1 := v3.cell (i := 1) rfl
      have e2 := v3.cell (i := 2) rfl
      have e3 := v3.cell (i := 3) rfl
      have hE : (mn / 8 == u) = true := by simpa using hq1
      by_cases h1 : u + sp < 200
      case pos =>
        have hW : wt = 200 := by rw [hq4]; unfold Pac.waitI; rw [hq1, if_pos h1]
        subst hW
        clear hq4
        go_wp2_with fail
        go_ret
        exact ⟨rfl, B1⟩
      by_cases h2 : 60000 < u + sp
      case pos =>
        have hW : wt = 60000 := by rw [hq4]; unfold Pac.waitI; rw [hq1, if_neg h1, if_pos h2]
        subst hW
        clear hq4
        go_wp2_with fail
        go_ret
        exact ⟨rfl, B1⟩
      have hW : wt = u + sp := by rw [hq4]; unfold Pac.waitI; rw [hq1, if_neg h1, if_neg h2]
      subst hW
      clear hq4
      go_wp2_with fail
      go_ret
      exact ⟨rfl, B1⟩

/-! ### THE ROW's STEP: WRITTEN OUT: LEAVE IT -/
set_option maxRecDepth 100000 in
theorem lifted (os : Os) (started : os.Started) (H : Type) (enc : TypeId × Value → H) :
    ReturnsInHanded {} Try.checked os 4 .any (Rows.fnSteadySpec.pre6 enc Try.prog Try.f4 Rows.fnSteadyRow.domain false) (Rows.fnSteadySpec.post enc Try.prog Try.f4 false true false false) := by
  refine returnsInHanded_of_change (C := Try.checked) own started (by kernel_rfl) Try.func4
    (ChangeSpec.witness6 (enc := enc) (C := Try.checked) false ⟨#[], #[.slice none 0 0], []⟩ 8 (by kernel_rfl) (by kernel_rfl) (by kernel_rfl) (by kernel_rfl)) ?_
  intro W base args ds gs before hval0 hW hcnd _
  have hval : ∀ (j : Nat) t v, Try.f4.params[j]? = some t → args[j]? = some v → Value.okWide Try.prog W .any base t v := hval0
  have hW' := hW
  obtain ⟨p, q, hA0, hV, rfl, hfz, hnd⟩ := hW
  have hA : DataW.TrodAll enc Try.prog W 0 (fun _ => true) true Try.f4.params.toList args.toList ds p := hA0
  rw [Try.params4] at hA hval
  obtain ⟨v0, vs0, d0, ds0, p0, q0, hargs, rfl, rfl, h0, r0⟩ := trodAll_cons hA
  obtain ⟨rfl, rfl, rfl⟩ := trodAll_nil r0
  obtain rfl : args = #[v0] := by cases args; simp_all
  obtain ⟨rfl, rfl⟩ := trodVars_none hV
  obtain ⟨a0, len0, cap0, rfl⟩ := okWide_slice Try.underlying22 (hval 0 22 v0 rfl rfl)
  have k0 := h0
  have lt0 : ∀ x ∈ p0, x.block < W.heap.size := by obtain ⟨m, hm⟩ := k0; exact DataW.trod_lt m _ _ _ hm
  obtain ⟨z0, w0⟩ : ∃ zs, IsRow .u8 W a0 len0 cap0 zs := by
    obtain ⟨fuel, hf⟩ := h0
    rcases open_ints Try.underlying22 Try.underlying5 (by kernel_rfl) hf with ⟨hcs, _⟩ | ⟨x, l, c, zs, hcs, _, hl, hm, hz, _, hcell, hwz⟩
    · simp [Value.cells] at hcs
      obtain ⟨rfl, rfl, rfl⟩ := hcs
      exact ⟨[], .inl ⟨rfl, rfl, rfl, rfl⟩⟩
    · simp [Value.cells] at hcs
      obtain ⟨rfl, rfl, rfl⟩ := hcs
      exact ⟨zs, .inr ⟨_, rfl, hl, hm, by simpa using hz, hcell, hwz⟩⟩
  clear hA0 hval0
  refine (walk a0 len0 cap0 z0 W w0).mono fun e W' ⟨he, bel⟩ => ?_
  subst he
  exact ⟨_, rfl, _, _, _, [], _, [], hW', trodAll_mk1 (shut_bool Try.underlying4 _), (trodAll_cons_mk (Below.trod laidOut (by kernel_rfl) (of_decide_eq_true (by kernel_rfl)) k0 bel lt0) trodAll_mk0), rfl, bel.frame _, fun h => by cases h⟩

theorem over : Rows.fnSteadyRow.holds Try.pinned (OpenSpec.ofChange Rows.fnSteadySpec) :=
  OpenClaim.holds_of_wide 4 Try.f4 rfl rfl rfl rfl rfl rfl rfl ⟨rfl, rfl, rfl, rfl, rfl⟩ rfl rfl rfl rfl rfl (by kernel_rfl) Try.func4 (by kernel_rfl)
    (of_decide_eq_true (by kernel_rfl)) (by unfold Func.isWrapper; first | (rw [if_pos (by decide +kernel)]; kernel_rfl) | (rw [if_neg (by decide +kernel)]; exact ⟨rfl, rfl⟩))
    (fun os started H enc _ => lifted os started H enc)

/-- THE STATEMENT. -/
theorem proved : Rows.FnSteadySaid := over
end Go.Proofs.Ytbmfnkdcbdkcdaa.fnSteady
namespace Go.Proofs.Ytbmfnkdcbdkcdaa
theorem fnSteady_holds : Rows.FnSteadySaid := fnSteady.proved
#print axioms fnSteady_holds
end Go.Proofs.Ytbmfnkdcbdkcdaa
