/- For every code of bytes FnOffers returns true: the program's Offers answers as the specification's on every drawn giver, place and number, what is offered is what was written there, not beyond the limit, and the end is told with the last of it alone; no condition. (Its frame is the guide's shell; the walk is mine.) -/
import Derived.Test.YtanbdccnlelmoaaRows
import Derived.Test.YtanbdccnlelmoaaGivU
import Derived.Test.YtanbdccnlelmoaaGivW
import Derived.Test.YtanbdccnlelmoaaDrawO
import Derived.WalkKit
import Derived.ProofKit
import Derived.OpenShut
import Derived.ShutString
import Derived.ChangeOld
import Derived.Below
namespace Go.Proofs.Ytanbdccnlelmoaa.fnOffers
open Go.ChangeShapes Go.WideShapes Go.ChangeAt Go.RowKit
open Go.ChangeMaps (open_string shut_string)
set_option linter.unusedVariables false

theorem own : ownKnob Try.prog.godebug = none := by kernel_rfl
theorem laidOut : laidOutB Try.prog = true := by kernel_rfl

/-- WHAT THE WALK IS TOLD OF A SLICE OF INTEGERS THAT CAME IN: it is nil; or it leads to a row of 'cap' cells, the numbers 'zs' (the first 'len' are its elements, the rest its spare room), each fitting its kind. -/
def IsRow (k : IntKind) (w : World) (a : Option Addr) (len cap : Nat) (zs : List Int) : Prop :=
  (a = none ∧ len = 0 ∧ cap = 0 ∧ zs = []) ∨
  ∃ x, a = some x ∧ len ≤ cap ∧ cap ≤ maxLen ∧ zs.length = cap ∧ (∀ i, i < zs.length → w.cell? (x.add i) = some (.int k (zs.getD i 0))) ∧ ∀ n ∈ zs, (Lit.int k n).wf = true

/-! ### STEP 1: THE WALK: the Go text returns true, AND WRITES NOTHING THAT WAS THERE: 'Below w.heap.size w w'' (Derived/Below.lean: '.refl', '.alloc', '.drew', '.setCell' at a new block, '.trans'). Open each 'IsRow' by 'rcases' AHEAD of 'go_enter'; part every test ahead of the walk. -/
set_option linter.unusedSimpArgs false in
set_option maxRecDepth 20000 in
set_option maxHeartbeats 4000000 in
theorem walk (a0 : Option Addr) (len0 cap0 : Nat) (z0 : List Int) (w : World) (w0 : IsRow .u8 w a0 len0 cap0 z0) :
    Calls Try.prog 3 #[.slice a0 len0 cap0] w fun e w' => e = .returned (.bool true) ∧ Below w.heap.size w w' := by
  obtain ⟨hb, hm⟩ := Draw.bytes_of_row w0
  clear w0
  by_cases hl : len0 ≤ 4096
  case neg =>
    have hd : decide (4096 < (len0 : Int)) = true := by simp; omega
    go_enter Try.func3, Try.ntmps3
    go_wp2_with fail
    refine (Draw.big _ _ _ _ hm).mono ?_
    rintro e w1 ⟨rfl, rfl⟩
    go_wp2_with fail
    go_ret
    exact ⟨rfl, Below.refl _ _⟩
  have hd : decide (4096 < (len0 : Int)) = false := by simp; omega
  go_enter Try.func3, Try.ntmps3
  go_wp2_with fail
  refine (Draw.big _ _ _ _ hm).mono ?_
  rintro e w1 ⟨rfl, rfl⟩
  clear hd
  have HB : Hid (Draw.Bytes w a0 len0) := hb
  go_wp2_with fail
  refine (Giv.drawOffers _ _ _ _ hb hl).mono ?_
  rintro x w1 ⟨⟨ga, gb, gc, gl, ge, gd⟩, p, n, hg4, rfl, b1⟩
  dsimp only at hg4
  have hg2 : gb.size ≤ 2097152 := by omega
  have hI := fun w' => Giv.implOffers ⟨ga, gb, gc, gl, ge, gd⟩ p n w' hg2
  have hS := fun w' => Giv.specOffers ⟨ga, gb, gc, gl, ge, gd⟩ p n w' hg2
  have hT := fun w' => Giv.specGiverOk ⟨ga, gb, gc, gl, ge, gd⟩ w' hg2
  obtain ⟨ok, hok⟩ : ∃ ok, Giv.Gv.ok ⟨ga, gb, gc, gl, ge, gd⟩ = ok := ⟨_, rfl⟩
  rw [hok] at hT
  obtain ⟨R, hR⟩ : ∃ R, Giv.offersG ⟨ga, gb, gc, gl, ge, gd⟩ p n = R := ⟨_, rfl⟩
  rw [hR] at hI hS
  obtain ⟨⟨xa, xb⟩, xe, is⟩ := R
  have HOK : Hid _ := hok
  have HR : Hid _ := hR
  dsimp only [Giv.Gv.v, Giv.offV] at hI hS hT ⊢
  clear hok hR hb hm
  have v3 : RowG.Var 25 (w1.alloc (.cells #[.int .i64 ga, .string gb, .int .i64 gc, .int .i64 gl, .bool ge, .bool gd] 25)) w1.heap.size [.int .i64 ga, .string gb, .int .i64 gc, .int .i64 gl, .bool ge, .bool gd] := RowG.Var.new _ _
  have B3 : Below _ _ (w1.alloc (.cells #[.int .i64 ga, .string gb, .int .i64 gc, .int .i64 gl, .bool ge, .bool gd] 25)) := b1.alloc b1.size _
  clear b1
  go_upto_region 4 with (fail)
  generalize w1.alloc (.cells #[.int .i64 ga, .string gb, .int .i64 gc, .int .i64 gl, .bool ge, .bool gd] 25) = W at *
  generalize w1.heap.size = k3 at *
  have e0 := v3.cell (i := 0) rfl
  have e1 := v3.cell (i := 1) rfl
  have e2 := v3.cell (i := 2) rfl
  have e3 := v3.cell (i := 3) rfl
  have e4 := v3.cell (i := 4) rfl
  have e5 := v3.cell (i := 5) rfl
  go_wp2_with fail
  refine (hI _).mono ?_
  rintro x w2 ⟨rfl, b2⟩
  replace v3 := v3.later b2
  have B4 := B3.trans (b2.mono B3.size)
  clear b2 B3 hI
  clear e0 e1 e2 e3 e4 e5
  have v7 : RowG.Var 29 (w2.alloc (.cells #[.int .i64 xa, .string xb] 29)) w2.heap.size [.int .i64 xa, .string xb] := RowG.Var.new _ _
  replace v3 := v3.alloc (.cells #[.int .i64 xa, .string xb] 29)
  have B5 : Below _ _ (w2.alloc (.cells #[.int .i64 xa, .string xb] 29)) := B4.alloc B4.size _
  clear B4
  go_upto_region 5 with (fail)
  generalize w2.alloc (.cells #[.int .i64 xa, .string xb] 29) = W at *
  generalize w2.heap.size = k7 at *
  have e0 := v3.cell (i := 0) rfl
  have e1 := v3.cell (i := 1) rfl
  have e2 := v3.cell (i := 2) rfl
  have e3 := v3.cell (i := 3) rfl
  have e4 := v3.cell (i := 4) rfl
  have e5 := v3.cell (i := 5) rfl
  go_wp2_with fail
  refine (hS _).mono ?_
  rintro x w3 ⟨rfl, b3⟩
  replace v3 := v3.later b3
  replace v7 := v7.later b3
  have B6 := B5.trans (b3.mono B5.size)
  clear b3 B5 hS
  clear e0 e1 e2 e3 e4 e5
  have v9 : RowG.Var 29 (w3.alloc (.cells #[.int .i64 xa, .string xb] 29)) w3.heap.size [.int .i64 xa, .string xb] := RowG.Var.new _ _
  replace v3 := v3.alloc (.cells #[.int .i64 xa, .string xb] 29)
  replace v7 := v7.alloc (.cells #[.int .i64 xa, .string xb] 29)
  have B7 : Below _ _ (w3.alloc (.cells #[.int .i64 xa, .string xb] 29)) := B6.alloc B6.size _
  clear B6
  go_upto_region 6 with (fail)
  generalize w3.alloc (.cells #[.int .i64 xa, .string xb] 29) = W at *
  generalize w3.heap.size = k9 at *
  have e0 := v3.cell (i := 0) rfl
  have e1 := v3.cell (i := 1) rfl
  have e2 := v3.cell (i := 2) rfl
  have e3 := v3.cell (i := 3) rfl
  have e4 := v3.cell (i := 4) rfl
  have e5 := v3.cell (i := 5) rfl
  have f0 := v7.cell (i := 0) rfl
  have f1 := v7.cell (i := 1) rfl
  have h0 := v9.cell (i := 0) rfl
  have h1 := v9.cell (i := 1) rfl
  cases is
  case false =>
    obtain ⟨rfl, rfl, rfl⟩ := Giv.offers_none HR.out
    clear HR HOK hT
    go_wp2_with fail
    go_ret
    exact ⟨rfl, B7⟩
  obtain ⟨m1, m2, st, m3, m4, m5, m6, m7, m8, m9, m10, m11, m12, m13⟩ := Giv.offers_some HR.out
  rw [m1] at HOK
  have hin := Giv.ok_iff.1 m1
  dsimp only at hin m3 m5 m9 m10 m12
  obtain ⟨-, ⟨i1, i2⟩, -, i4, -, -, -⟩ := hin
  have hok2 : true = ok := HOK.out
  subst hok2
  subst m2
  have ew : IntKind.i64.wrap (xa + (xb.size : Int)) = st := by rw [IntKind.wrap_i64]; omega
  have ew1 : IntKind.i64.wrap (xa - ga) = xa - ga := by rw [IntKind.wrap_i64]; omega
  have ew2 : IntKind.i64.wrap (st - ga) = st - ga := by rw [IntKind.wrap_i64]; omega
  have ew3 : IntKind.i64.wrap (ga + (gb.size : Int)) = ga + gb.size := by rw [IntKind.wrap_i64]; omega
  have t1 : 0 ≤ xa - ga := by omega
  have t2 : xa - ga ≤ st - ga := by omega
  have t3 : st - ga ≤ (gb.size : Int) := by omega
  have t4 : decide ((xb.size : Int) ≤ n) = true := decide_eq_true (by omega)
  have hxb : xb.toList = (gb.extract (xa - ga).toNat (st - ga).toNat).toList := by rw [m10]
  have HSE : Hid _ := Giv.isEmpty_eq xb
  have HM : Hid _ := m12
  have HM2 : Hid _ := m13
  clear HR m1 m10 m12 m13
  obtain ⟨eb, heb⟩ : ∃ eb : Bool, decide (st = ga + gb.size) = eb := ⟨_, rfl⟩
  obtain ⟨lb, hlb⟩ : ∃ lb : Bool, decide (st ≤ gl) = lb := ⟨_, rfl⟩
  obtain ⟨nb, hnb⟩ : ∃ nb : Bool, xb.toList.isEmpty = nb := ⟨_, rfl⟩
  have heq : (st == ga + (gb.size : Int)) = eb := by rw [← heb]; rfl
  have hxe : xe = (ge && eb) := by rw [← heb]; exact HM.out
  have hne : nb = true → xe = true := by
    intro h
    have hz := HSE.out
    rw [hnb, h] at hz
    have hz2 : xb.size = 0 := of_decide_eq_true hz.symm
    exact HM2.out (by omega)
  have hnl : nb = false → lb = true := by
    intro h
    have hz := HSE.out
    rw [hnb, h] at hz
    have hz2 : ¬ xb.size = 0 := of_decide_eq_false hz.symm
    rw [← hlb]
    exact decide_eq_true (by omega)
  have hnil : nb = true → xb.toList = [] := fun h => (Giv.nil_iff xb).2 (by have hz := HSE.out; rw [hnb, h] at hz; exact of_decide_eq_true hz.symm)
  have hnnl : nb = false → ¬ xb.toList = [] := fun h q => (by have hz := HSE.out; rw [hnb, h] at hz; exact of_decide_eq_false hz.symm ((Giv.nil_iff xb).1 q))
  have hnb2 : (gb.extract (xa - ga).toNat (st - ga).toNat).toList.isEmpty = nb := by rw [← hxb]; exact hnb
  have HEB : Hid _ := heb
  have HLB : Hid _ := hlb
  have HXB : Hid _ := hxb
  clear HSE HM HM2 m9 m3 m4 m6 m11 heb HOK i1 i2 i4 m5 m7 m8
  have hmix := Giv.mix
  have r0 := Draw.Later.cell e0
  have r1 := Draw.Later.cell e1
  have r2 := Draw.Later.cell e2
  have r3 := Draw.Later.cell e3
  have r4 := Draw.Later.cell e4
  have r5 := Draw.Later.cell e5
  have y0 := Draw.Later.cell f0
  have y1 := Draw.Later.cell f1
  have HXO : Hid _ := hT
  clear hT
  go_upto_region 10 with (fail)
  cases nb
  focus
    have hx0 := (rfl : true = true)
    have hl1 := hnl rfl
    have hx1 := hnnl rfl
    have hx2 : ¬ (gb.extract (xa - ga).toNat (st - ga).toNat).toList = [] := by rw [← hxb]; exact hx1
    subst hl1
    clear hne hnil hnl hnnl
    cases ge
    all_goals
      cases eb
      all_goals
        simp only [Bool.true_and, Bool.false_and, Bool.and_true, Bool.and_false] at hxe
        subst hxe
        first
          | exact absurd hx0 (by decide)
          | (clear hx0
             go_wp2_with fail
             simp only [List.append_eq, List.cons_append, List.nil_append]
             refine Draw.wp_region_later hmix (by kernel_rfl) ?_
             repeat (go_big_quiet_step ((go_at_call 8; exact Draw.later_of (HXO.out _))))
             refine wpQuiet_nil ?_
             intro wq hw'
             obtain ⟨q9, hq⟩ := hw'
             have hBq := q9.h
             rw [← hq] at hBq
             clear hq q9
             go_wp2_with fail
             go_ret
             exact ⟨rfl, B7.trans (hBq.mono B7.size)⟩)
  focus
    have hx0 := hne rfl
    have hx1 := hnil rfl
    have hx2 : (gb.extract (xa - ga).toNat (st - ga).toNat).toList = [] := by rw [← hxb]; exact hx1
    clear hne hnil hnl hnnl
    cases ge
    all_goals
      cases eb
      all_goals
        simp only [Bool.true_and, Bool.false_and, Bool.and_true, Bool.and_false] at hxe
        subst hxe
        first
          | exact absurd hx0 (by decide)
          | (clear hx0
             go_wp2_with fail
             simp only [List.append_eq, List.cons_append, List.nil_append]
             refine Draw.wp_region_later hmix (by kernel_rfl) ?_
             repeat (go_big_quiet_step ((go_at_call 8; exact Draw.later_of (HXO.out _))))
             refine wpQuiet_nil ?_
             intro wq hw'
             obtain ⟨q9, hq⟩ := hw'
             have hBq := q9.h
             rw [← hq] at hBq
             clear hq q9
             go_wp2_with fail
             go_ret
             exact ⟨rfl, B7.trans (hBq.mono B7.size)⟩)

/-! ### THE ROW's STEP: WRITTEN OUT: LEAVE IT -/
set_option maxRecDepth 100000 in
theorem lifted (os : Os) (started : os.Started) (H : Type) (enc : TypeId × Value → H) :
    ReturnsInHanded {} Try.checked os 3 .any (Rows.fnOffersSpec.pre6 enc Try.prog Try.f3 Rows.fnOffersRow.domain false) (Rows.fnOffersSpec.post enc Try.prog Try.f3 false true false false) := by
  refine returnsInHanded_of_change (C := Try.checked) own started (by kernel_rfl) Try.func3
    (ChangeSpec.witness6 (enc := enc) (C := Try.checked) false ⟨#[], #[.slice none 0 0], []⟩ 8 (by kernel_rfl) (by kernel_rfl) (by kernel_rfl) (by kernel_rfl)) ?_
  intro W base args ds gs before hval0 hW hcnd _
  have hval : ∀ (j : Nat) t v, Try.f3.params[j]? = some t → args[j]? = some v → Value.okWide Try.prog W .any base t v := hval0
  have hW' := hW
  obtain ⟨p, q, hA0, hV, rfl, hfz, hnd⟩ := hW
  have hA : DataW.TrodAll enc Try.prog W 0 (fun _ => true) true Try.f3.params.toList args.toList ds p := hA0
  rw [Try.params3] at hA hval
  obtain ⟨v0, vs0, d0, ds0, p0, q0, hargs, rfl, rfl, h0, r0⟩ := trodAll_cons hA
  obtain ⟨rfl, rfl, rfl⟩ := trodAll_nil r0
  obtain rfl : args = #[v0] := by cases args; simp_all
  obtain ⟨rfl, rfl⟩ := trodVars_none hV
  obtain ⟨a0, len0, cap0, rfl⟩ := okWide_slice Try.underlying22 (hval 0 22 v0 rfl rfl)
  have k0 := h0
  have lt0 : ∀ x ∈ p0, x.block < W.heap.size := by obtain ⟨m, hm⟩ := k0; exact DataW.trod_lt m _ _ _ hm
  obtain ⟨z0, w0⟩ : ∃ zs, IsRow .u8 W a0 len0 cap0 zs := by
    obtain ⟨fuel, hf⟩ := h0
    rcases open_ints Try.underlying22 Try.underlying5 (by kernel_rfl) hf with ⟨hcs, _⟩ | ⟨x, l, c, zs, hcs, _, hl, hm, hz, _, hcell, hwz⟩
    · simp [Value.cells] at hcs
      obtain ⟨rfl, rfl, rfl⟩ := hcs
      exact ⟨[], .inl ⟨rfl, rfl, rfl, rfl⟩⟩
    · simp [Value.cells] at hcs
      obtain ⟨rfl, rfl, rfl⟩ := hcs
      exact ⟨zs, .inr ⟨_, rfl, hl, hm, by simpa using hz, hcell, hwz⟩⟩
  clear hA0 hval0
  refine (walk a0 len0 cap0 z0 W w0).mono fun e W' ⟨he, bel⟩ => ?_
  subst he
  exact ⟨_, rfl, _, _, _, [], _, [], hW', trodAll_mk1 (shut_bool Try.underlying4 _), (trodAll_cons_mk (Below.trod laidOut (by kernel_rfl) (of_decide_eq_true (by kernel_rfl)) k0 bel lt0) trodAll_mk0), rfl, bel.frame _, fun h => by cases h⟩

theorem over : Rows.fnOffersRow.holds Try.pinned (OpenSpec.ofChange Rows.fnOffersSpec) :=
  OpenClaim.holds_of_wide 3 Try.f3 rfl rfl rfl rfl rfl rfl rfl ⟨rfl, rfl, rfl, rfl, rfl⟩ rfl rfl rfl rfl rfl (by kernel_rfl) Try.func3 (by kernel_rfl)
    (of_decide_eq_true (by kernel_rfl)) (by unfold Func.isWrapper; first | (rw [if_pos (by decide +kernel)]; kernel_rfl) | (rw [if_neg (by decide +kernel)]; exact ⟨rfl, rfl⟩))
    (fun os started H enc _ => lifted os started H enc)

/-- THE STATEMENT. -/
theorem proved : Rows.FnOffersSaid := over
end Go.Proofs.Ytanbdccnlelmoaa.fnOffers
namespace Go.Proofs.Ytanbdccnlelmoaa
theorem fnOffers_holds : Rows.FnOffersSaid := fnOffers.proved
#print axioms fnOffers_holds
end Go.Proofs.Ytanbdccnlelmoaa
