/- For every code of bytes FnHears returns true: the program's Hears answers as the specification's on every drawn giver, base, limit and flag, what was heard of goes, all else stays, and one that is done has nothing left; no condition. (Its frame is the guide's shell; the walk is mine.) -/
import Derived.Test.YtagpgjojfglkjaaRows
import Derived.Test.YtagpgjojfglkjaaGivT
import Derived.Test.YtagpgjojfglkjaaGivV
import Derived.Test.YtagpgjojfglkjaaDrawJ
import Derived.WalkKit
import Derived.ProofKit
import Derived.OpenShut
import Derived.ShutString
import Derived.ChangeOld
import Derived.Below
namespace Go.Proofs.Ytagpgjojfglkjaa.fnHears
open Go.ChangeShapes Go.WideShapes Go.ChangeAt Go.RowKit
open Go.ChangeMaps (open_string shut_string)
set_option linter.unusedVariables false

theorem own : ownKnob Try.prog.godebug = none := by kernel_rfl
theorem laidOut : laidOutB Try.prog = true := by kernel_rfl

/-- WHAT THE WALK IS TOLD OF A SLICE OF INTEGERS THAT CAME IN: it is nil; or it leads to a row of 'cap' cells, the numbers 'zs' (the first 'len' are its elements, the rest its spare room), each fitting its kind. -/
def IsRow (k : IntKind) (w : World) (a : Option Addr) (len cap : Nat) (zs : List Int) : Prop :=
  (a = none ∧ len = 0 ∧ cap = 0 ∧ zs = []) ∨
  ∃ x, a = some x ∧ len ≤ cap ∧ cap ≤ maxLen ∧ zs.length = cap ∧ (∀ i, i < zs.length → w.cell? (x.add i) = some (.int k (zs.getD i 0))) ∧ ∀ n ∈ zs, (Lit.int k n).wf = true

/-! ### STEP 1: THE WALK: the Go text returns true, AND WRITES NOTHING THAT WAS THERE: 'Below w.heap.size w w'' (Derived/Below.lean: '.refl', '.alloc', '.drew', '.setCell' at a new block, '.trans'). Open each 'IsRow' by 'rcases' AHEAD of 'go_enter'; part every test ahead of the walk. -/
set_option linter.unusedSimpArgs false in
set_option maxRecDepth 20000 in
set_option maxHeartbeats 4000000 in
theorem walk (a0 : Option Addr) (len0 cap0 : Nat) (z0 : List Int) (w : World) (w0 : IsRow .u8 w a0 len0 cap0 z0) :
    Calls Try.prog 5 #[.slice a0 len0 cap0] w fun e w' => e = .returned (.bool true) ∧ Below w.heap.size w w' := by
  obtain ⟨hb, hm⟩ := Draw.bytes_of_row w0
  clear w0
  by_cases hl : len0 ≤ 4096
  case neg =>
    have hd : decide (4096 < (len0 : Int)) = true := by simp; omega
    go_enter Try.func5, Try.ntmps5
    go_wp2_with fail
    refine (Draw.big _ _ _ _ hm).mono ?_
    rintro e w1 ⟨rfl, rfl⟩
    go_wp2_with fail
    go_ret
    exact ⟨rfl, Below.refl _ _⟩
  have hd : decide (4096 < (len0 : Int)) = false := by simp; omega
  go_enter Try.func5, Try.ntmps5
  go_wp2_with fail
  refine (Draw.big _ _ _ _ hm).mono ?_
  rintro e w1 ⟨rfl, rfl⟩
  clear hd
  have HB : Hid (Draw.Bytes w a0 len0) := hb
  go_wp2_with fail
  refine (Giv.drawHears _ _ _ _ hb hl).mono ?_
  rintro x w1 ⟨⟨ga, gb, gc, gl, ge, gd⟩, p, q, d, hg4, rfl, b1⟩
  dsimp only at hg4
  have hg2 : gb.size ≤ 2097152 := by omega
  have hI := fun w' => Giv.implHears ⟨ga, gb, gc, gl, ge, gd⟩ p q d w' hg2
  have hS := fun w' => Giv.specHears ⟨ga, gb, gc, gl, ge, gd⟩ p q d w' hg2
  have hT := fun w' => Giv.specGiverOk ⟨ga, gb, gc, gl, ge, gd⟩ w' hg2
  obtain ⟨ok, hok⟩ : ∃ ok, Giv.Gv.ok ⟨ga, gb, gc, gl, ge, gd⟩ = ok := ⟨_, rfl⟩
  rw [hok] at hT
  obtain ⟨R, hR⟩ : ∃ R, Giv.hearsG ⟨ga, gb, gc, gl, ge, gd⟩ p q d = R := ⟨_, rfl⟩
  rw [hR] at hI hS
  obtain ⟨⟨xa, xb, xc, xl, xe, xd⟩, is⟩ := R
  have HOK : Hid _ := hok
  have HR : Hid _ := hR
  dsimp only [Giv.Gv.v] at hI hS hT ⊢
  clear hok hR hb hm
  have v3 : RowG.Var 25 (w1.alloc (.cells #[.int .i64 ga, .string gb, .int .i64 gc, .int .i64 gl, .bool ge, .bool gd] 25)) w1.heap.size [.int .i64 ga, .string gb, .int .i64 gc, .int .i64 gl, .bool ge, .bool gd] := RowG.Var.new _ _
  have B3 : Below _ _ (w1.alloc (.cells #[.int .i64 ga, .string gb, .int .i64 gc, .int .i64 gl, .bool ge, .bool gd] 25)) := b1.alloc b1.size _
  clear b1
  go_upto_region 4 with (fail)
  generalize w1.alloc (.cells #[.int .i64 ga, .string gb, .int .i64 gc, .int .i64 gl, .bool ge, .bool gd] 25) = W at *
  generalize w1.heap.size = k3 at *
  have e0 := v3.cell (i := 0) rfl
  have e1 := v3.cell (i := 1) rfl
  have e2 := v3.cell (i := 2) rfl
  have e3 := v3.cell (i := 3) rfl
  have e4 := v3.cell (i := 4) rfl
  have e5 := v3.cell (i := 5) rfl
  go_wp2_with fail
  refine (hI _).mono ?_
  rintro x w2 ⟨rfl, b2⟩
  replace v3 := v3.later b2
  have B4 := B3.trans (b2.mono B3.size)
  clear b2 B3 hI
  clear e0 e1 e2 e3 e4 e5
  have v7 : RowG.Var 25 (w2.alloc (.cells #[.int .i64 xa, .string xb, .int .i64 xc, .int .i64 xl, .bool xe, .bool xd] 25)) w2.heap.size [.int .i64 xa, .string xb, .int .i64 xc, .int .i64 xl, .bool xe, .bool xd] := RowG.Var.new _ _
  replace v3 := v3.alloc (.cells #[.int .i64 xa, .string xb, .int .i64 xc, .int .i64 xl, .bool xe, .bool xd] 25)
  have B5 : Below _ _ (w2.alloc (.cells #[.int .i64 xa, .string xb, .int .i64 xc, .int .i64 xl, .bool xe, .bool xd] 25)) := B4.alloc B4.size _
  clear B4
  go_upto_region 5 with (fail)
  generalize w2.alloc (.cells #[.int .i64 xa, .string xb, .int .i64 xc, .int .i64 xl, .bool xe, .bool xd] 25) = W at *
  generalize w2.heap.size = k7 at *
  have e0 := v3.cell (i := 0) rfl
  have e1 := v3.cell (i := 1) rfl
  have e2 := v3.cell (i := 2) rfl
  have e3 := v3.cell (i := 3) rfl
  have e4 := v3.cell (i := 4) rfl
  have e5 := v3.cell (i := 5) rfl
  go_wp2_with fail
  refine (hS _).mono ?_
  rintro x w3 ⟨rfl, b3⟩
  replace v3 := v3.later b3
  replace v7 := v7.later b3
  have B6 := B5.trans (b3.mono B5.size)
  clear b3 B5 hS
  clear e0 e1 e2 e3 e4 e5
  have v9 : RowG.Var 25 (w3.alloc (.cells #[.int .i64 xa, .string xb, .int .i64 xc, .int .i64 xl, .bool xe, .bool xd] 25)) w3.heap.size [.int .i64 xa, .string xb, .int .i64 xc, .int .i64 xl, .bool xe, .bool xd] := RowG.Var.new _ _
  replace v3 := v3.alloc (.cells #[.int .i64 xa, .string xb, .int .i64 xc, .int .i64 xl, .bool xe, .bool xd] 25)
  replace v7 := v7.alloc (.cells #[.int .i64 xa, .string xb, .int .i64 xc, .int .i64 xl, .bool xe, .bool xd] 25)
  have B7 : Below _ _ (w3.alloc (.cells #[.int .i64 xa, .string xb, .int .i64 xc, .int .i64 xl, .bool xe, .bool xd] 25)) := B6.alloc B6.size _
  clear B6
  go_upto_region 6 with (fail)
  generalize w3.alloc (.cells #[.int .i64 xa, .string xb, .int .i64 xc, .int .i64 xl, .bool xe, .bool xd] 25) = W at *
  generalize w3.heap.size = k9 at *
  have e0 := v3.cell (i := 0) rfl
  have e1 := v3.cell (i := 1) rfl
  have e2 := v3.cell (i := 2) rfl
  have e3 := v3.cell (i := 3) rfl
  have e4 := v3.cell (i := 4) rfl
  have e5 := v3.cell (i := 5) rfl
  have f0 := v7.cell (i := 0) rfl
  have f1 := v7.cell (i := 1) rfl
  have f2 := v7.cell (i := 2) rfl
  have f3 := v7.cell (i := 3) rfl
  have f4 := v7.cell (i := 4) rfl
  have f5 := v7.cell (i := 5) rfl
  have h0 := v9.cell (i := 0) rfl
  have h1 := v9.cell (i := 1) rfl
  have h2 := v9.cell (i := 2) rfl
  have h3 := v9.cell (i := 3) rfl
  have h4 := v9.cell (i := 4) rfl
  have h5 := v9.cell (i := 5) rfl
  go_wp2_with fail
  refine (hT _).mono ?_
  rintro x w4 ⟨rfl, b4⟩
  replace v3 := v3.later b4
  replace v7 := v7.later b4
  have B8 := B7.trans (b4.mono B7.size)
  clear b4 B7 hT v9
  clear e0 e1 e2 e3 e4 e5 f0 f1 f2 f3 f4 f5 h0 h1 h2 h3 h4 h5
  have e0 := v3.cell (i := 0) rfl
  have e1 := v3.cell (i := 1) rfl
  have e2 := v3.cell (i := 2) rfl
  have e3 := v3.cell (i := 3) rfl
  have e4 := v3.cell (i := 4) rfl
  have e5 := v3.cell (i := 5) rfl
  have f0 := v7.cell (i := 0) rfl
  have f1 := v7.cell (i := 1) rfl
  have f2 := v7.cell (i := 2) rfl
  have f3 := v7.cell (i := 3) rfl
  have f4 := v7.cell (i := 4) rfl
  have f5 := v7.cell (i := 5) rfl
  cases ok
  case false =>
    have hz := Giv.hears_no HOK.out p q d
    rw [HR.out] at hz
    cases hz
    clear HR HOK
    go_wp2_with fail
    go_ret
    exact ⟨rfl, B8⟩
  cases is
  case false =>
    have hz := Giv.hears_same HOK.out HR.out
    cases hz
    clear HR HOK
    go_wp2_with fail
    go_ret
    exact ⟨rfl, B8⟩
  obtain ⟨m1, m2, m3, m4, m5, m6, m7, m8, m9⟩ := Giv.hears_more HOK.out HR.out
  have hin := Giv.ok_iff.1 HOK.out
  dsimp only at m2 m3 m4 m5 m6 m7 m8 m9 hin
  subst m4 m6 m8
  have hxz : xb.size ≤ 2097152 := by rw [m5, Giv.ext_size _ _ _ (Nat.le_refl _)]; omega
  have hxo := fun w' => Giv.implGiverOk ⟨xa, xb, xc, xl, xe, xd⟩ w' hxz
  rw [m1] at hxo
  dsimp only [Giv.Gv.v] at hxo
  have HXO : Hid _ := hxo
  have hxb : xb.toList = (gb.extract (xa - ga).toNat gb.size).toList := by rw [m5]
  have HSE : Hid _ := Giv.isEmpty_eq xb
  have t1 : 0 ≤ xa - ga := by omega
  have t2 : xa - ga ≤ (gb.size : Int) := by omega
  have ew : IntKind.i64.wrap (xa - ga) = xa - ga := by rw [IntKind.wrap_i64]; omega
  have t3 : decide (gl ≤ xl) = true := decide_eq_true m7
  have hmix := Giv.mix
  have r0 := Draw.Later.cell e0
  have r1 := Draw.Later.cell e1
  have r2 := Draw.Later.cell e2
  have r3 := Draw.Later.cell e3
  have r4 := Draw.Later.cell e4
  have r5 := Draw.Later.cell e5
  have y0 := Draw.Later.cell f0
  have y1 := Draw.Later.cell f1
  have y2 := Draw.Later.cell f2
  have y3 := Draw.Later.cell f3
  have y4 := Draw.Later.cell f4
  have y5 := Draw.Later.cell f5
  clear HR HOK m1 hin m5 hxo m2 m3
  clear e0 e1 e2 e3 e4 e5 f0 f1 f2 f3 f4 f5
  rcases m9 with ⟨rfl, rfl⟩ | ⟨rfl, rfl⟩ | ⟨rfl, rfl, rfl, rfl, m9⟩
  focus
    go_wp2_with fail
    refine Draw.wp_region_later hmix (by kernel_rfl) ?_
    repeat (go_big_quiet_step ((go_at_call 17; exact Draw.later_of (HXO.out _))))
    refine wpQuiet_nil ?_
    intro wq hw'
    obtain ⟨q9, hq⟩ := hw'
    have hBq := q9.h
    rw [← hq] at hBq
    clear hq q9
    go_wp2_with fail
    go_ret
    exact ⟨rfl, B8.trans (hBq.mono B8.size)⟩
  focus
    go_wp2_with fail
    refine Draw.wp_region_later hmix (by kernel_rfl) ?_
    repeat (go_big_quiet_step ((go_at_call 17; exact Draw.later_of (HXO.out _))))
    refine wpQuiet_nil ?_
    intro wq hw'
    obtain ⟨q9, hq⟩ := hw'
    have hBq := q9.h
    rw [← hq] at hBq
    clear hq q9
    go_wp2_with fail
    go_ret
    exact ⟨rfl, B8.trans (hBq.mono B8.size)⟩
  focus
    have hse : xb.toList.isEmpty = true := by rw [HSE.out, decide_eq_true m9]
    have hnl : xb.toList = [] := (Giv.nil_iff xb).2 m9
    have hxb2 : (gb.extract (xa - ga).toNat gb.size).toList = [] := by rw [← hxb, hnl]
    go_wp2_with fail
    refine Draw.wp_region_later hmix (by kernel_rfl) ?_
    repeat (go_big_quiet_step ((go_at_call 17; exact Draw.later_of (HXO.out _))))
    refine wpQuiet_nil ?_
    intro wq hw'
    obtain ⟨q9, hq⟩ := hw'
    have hBq := q9.h
    rw [← hq] at hBq
    clear hq q9
    go_wp2_with fail
    go_ret
    exact ⟨rfl, B8.trans (hBq.mono B8.size)⟩

/-! ### THE ROW's STEP: WRITTEN OUT: LEAVE IT -/
set_option maxRecDepth 100000 in
theorem lifted (os : Os) (started : os.Started) (H : Type) (enc : TypeId × Value → H) :
    ReturnsInHanded {} Try.checked os 5 .any (Rows.fnHearsSpec.pre6 enc Try.prog Try.f5 Rows.fnHearsRow.domain false) (Rows.fnHearsSpec.post enc Try.prog Try.f5 false true false false) := by
  refine returnsInHanded_of_change (C := Try.checked) own started (by kernel_rfl) Try.func5
    (ChangeSpec.witness6 (enc := enc) (C := Try.checked) false ⟨#[], #[.slice none 0 0], []⟩ 8 (by kernel_rfl) (by kernel_rfl) (by kernel_rfl) (by kernel_rfl)) ?_
  intro W base args ds gs before hval0 hW hcnd _
  have hval : ∀ (j : Nat) t v, Try.f5.params[j]? = some t → args[j]? = some v → Value.okWide Try.prog W .any base t v := hval0
  have hW' := hW
  obtain ⟨p, q, hA0, hV, rfl, hfz, hnd⟩ := hW
  have hA : DataW.TrodAll enc Try.prog W 0 (fun _ => true) true Try.f5.params.toList args.toList ds p := hA0
  rw [Try.params5] at hA hval
  obtain ⟨v0, vs0, d0, ds0, p0, q0, hargs, rfl, rfl, h0, r0⟩ := trodAll_cons hA
  obtain ⟨rfl, rfl, rfl⟩ := trodAll_nil r0
  obtain rfl : args = #[v0] := by cases args; simp_all
  obtain ⟨rfl, rfl⟩ := trodVars_none hV
  obtain ⟨a0, len0, cap0, rfl⟩ := okWide_slice Try.underlying22 (hval 0 22 v0 rfl rfl)
  have k0 := h0
  have lt0 : ∀ x ∈ p0, x.block < W.heap.size := by obtain ⟨m, hm⟩ := k0; exact DataW.trod_lt m _ _ _ hm
  obtain ⟨z0, w0⟩ : ∃ zs, IsRow .u8 W a0 len0 cap0 zs := by
    obtain ⟨fuel, hf⟩ := h0
    rcases open_ints Try.underlying22 Try.underlying5 (by kernel_rfl) hf with ⟨hcs, _⟩ | ⟨x, l, c, zs, hcs, _, hl, hm, hz, _, hcell, hwz⟩
    · simp [Value.cells] at hcs
      obtain ⟨rfl, rfl, rfl⟩ := hcs
      exact ⟨[], .inl ⟨rfl, rfl, rfl, rfl⟩⟩
    · simp [Value.cells] at hcs
      obtain ⟨rfl, rfl, rfl⟩ := hcs
      exact ⟨zs, .inr ⟨_, rfl, hl, hm, by simpa using hz, hcell, hwz⟩⟩
  clear hA0 hval0
  refine (walk a0 len0 cap0 z0 W w0).mono fun e W' ⟨he, bel⟩ => ?_
  subst he
  exact ⟨_, rfl, _, _, _, [], _, [], hW', trodAll_mk1 (shut_bool Try.underlying4 _), (trodAll_cons_mk (Below.trod laidOut (by kernel_rfl) (of_decide_eq_true (by kernel_rfl)) k0 bel lt0) trodAll_mk0), rfl, bel.frame _, fun h => by cases h⟩

theorem over : Rows.fnHearsRow.holds Try.pinned (OpenSpec.ofChange Rows.fnHearsSpec) :=
  OpenClaim.holds_of_wide 5 Try.f5 rfl rfl rfl rfl rfl rfl rfl ⟨rfl, rfl, rfl, rfl, rfl⟩ rfl rfl rfl rfl rfl (by kernel_rfl) Try.func5 (by kernel_rfl)
    (of_decide_eq_true (by kernel_rfl)) (by unfold Func.isWrapper; first | (rw [if_pos (by decide +kernel)]; kernel_rfl) | (rw [if_neg (by decide +kernel)]; exact ⟨rfl, rfl⟩))
    (fun os started H enc _ => lifted os started H enc)

/-- THE STATEMENT. -/
theorem proved : Rows.FnHearsSaid := over
end Go.Proofs.Ytagpgjojfglkjaa.fnHears
namespace Go.Proofs.Ytagpgjojfglkjaa
theorem fnHears_holds : Rows.FnHearsSaid := fnHears.proved
#print axioms fnHears_holds
end Go.Proofs.Ytagpgjojfglkjaa
