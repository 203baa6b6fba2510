/- For every code of bytes FnAhead returns true: what Ahead answers is as the specification has it, it is the shorter way, and it goes back the other way; no condition. (Its frame is the shell that the guide's program writes; the walk is mine.) -/
import Derived.Test.YtdjllllgfcfbiaaRows
import Derived.Test.YtdjllllgfcfbiaaNumC
import Derived.Test.YtdjllllgfcfbiaaDrawC
import Derived.WalkKit
import Derived.ProofKit
import Derived.OpenShut
import Derived.ShutString
import Derived.ChangeOld
import Derived.Below
namespace Go.Proofs.Ytdjllllgfcfbiaa.fnAhead
open Go.ChangeShapes Go.WideShapes Go.ChangeAt Go.RowKit
open Go.ChangeMaps (open_string shut_string)
set_option linter.unusedVariables false

theorem own : ownKnob Try.prog.godebug = none := by kernel_rfl
theorem laidOut : laidOutB Try.prog = true := by kernel_rfl

/-- WHAT THE WALK IS TOLD OF A SLICE OF INTEGERS THAT CAME IN: it is nil; or it leads to a row of 'cap' cells, the numbers 'zs' (the first 'len' are its elements, the rest its spare room), each fitting its kind. -/
def IsRow (k : IntKind) (w : World) (a : Option Addr) (len cap : Nat) (zs : List Int) : Prop :=
  (a = none ∧ len = 0 ∧ cap = 0 ∧ zs = []) ∨
  ∃ x, a = some x ∧ len ≤ cap ∧ cap ≤ maxLen ∧ zs.length = cap ∧ (∀ i, i < zs.length → w.cell? (x.add i) = some (.int k (zs.getD i 0))) ∧ ∀ n ∈ zs, (Lit.int k n).wf = true

/-! ### STEP 1: THE WALK: the Go text returns true, AND WRITES NOTHING THAT WAS THERE: 'Below w.heap.size w w'' (Derived/Below.lean: '.refl', '.alloc', '.drew', '.setCell' at a new block, '.trans'). Open each 'IsRow' by 'rcases' AHEAD of 'go_enter'; part every test ahead of the walk. -/
set_option maxHeartbeats 4000000 in
theorem walk (a0 : Option Addr) (len0 cap0 : Nat) (z0 : List Int) (w : World) (w0 : IsRow .u8 w a0 len0 cap0 z0) :
    Calls Try.prog 4 #[.slice a0 len0 cap0] w fun e w' => e = .returned (.bool true) ∧ Below w.heap.size w w' := by
  obtain ⟨hb, hm⟩ := Draw.bytes_of_row w0
  clear w0
  by_cases hl : len0 ≤ 4096
  · have hd : decide (4096 < (len0 : Int)) = false := by simp; omega
    go_enter Try.func4, Try.ntmps4
    go_wp2_with fail
    refine (Draw.big _ _ _ _ hm).mono ?_
    rintro e w1 ⟨rfl, rfl⟩
    go_wp2_with fail
    refine (Draw.drawAhead _ _ _ _ hb hl).mono ?_
    rintro e w2 ⟨a, b, rfl, hB⟩
    clear hb hm hd hl
    go_wp2_with fail
    refine (Num.implAhead _ _ _).mono ?_
    rintro e w3 ⟨rfl, rfl⟩
    go_wp2_with fail
    refine (Num.specAhead _ _ _).mono ?_
    rintro e w3 ⟨rfl, rfl⟩
    by_cases h1 : Num.mkB a = true ∧ Num.mkB b = true
    · obtain ⟨h1, h2⟩ := h1
      have k1 := Num.mk_t h1
      have k2 := Num.mk_t h2
      have e1 := Num.aheadOf_yes h1 h2
      have e2 := Num.aheadOf_yes h2 h1
      have bd := Num.wayOf_bd a b
      have hs := Num.ahead_sum h1 h2
      have hg := Num.ahead_back (a := a) (b := b)
      rw [← e1] at bd hs hg
      rw [← e2] at hg
      clear e1 e2 h1 h2
      have H2 : Hid (Num.aheadOf a b = -2147483648 ∧ Num.aheadOf b a = -2147483648 ∨ Num.aheadOf a b ≠ -2147483648 ∧ Num.aheadOf b a = -Num.aheadOf a b) := hg
      clear hg
      have bt : (b == (a + Num.aheadOf a b + 4294967296) % 4294967296) = true := by rw [hs]; simp
      have hs1 : (a + Num.aheadOf a b) % 4294967296 = b := by omega
      have HS : Hid _ := hs
      clear hs bt
      generalize hd : Num.aheadOf a b = d at *
      have HD : Hid _ := hd
      clear hd
      rcases H2.out with ⟨g1, g2⟩ | ⟨g1, g2⟩
      · clear H2 HD HS
        subst g1
        go_wp2_with fail
        refine (Num.implAhead _ _ _).mono ?_
        rintro e w3 ⟨rfl, rfl⟩
        rw [g2]
        go_wp2_with fail
        go_ret
        exact ⟨rfl, hB⟩
      · clear H2 HD HS
        have G2 : Hid _ := g2
        clear g2
        have g3 : (d == -2147483648) = false := by simpa using g1
        clear g1
        go_wp2_with fail
        refine (Num.implAhead _ _ _).mono ?_
        rintro e w3 ⟨rfl, rfl⟩
        rw [G2.out]
        go_wp2_with fail
        go_ret
        exact ⟨rfl, hB⟩
    · have hn : Num.aheadOf a b = -2147483649 := by simp [Num.aheadOf, h1]
      have hr : a < 0 ∨ 4294967295 < a ∨ b < 0 ∨ 4294967295 < b := by
        by_cases c1 : Num.mkB a = true
        · have c2 : Num.mkB b = false := by cases c3 : Num.mkB b <;> simp_all
          have := Num.mk_f c2
          omega
        · have c2 : Num.mkB a = false := by cases c3 : Num.mkB a <;> simp_all
          have := Num.mk_f c2
          omega
      clear h1
      rw [hn]
      clear hn
      by_cases r1 : a < 0
      · go_wp2_with fail
        go_ret
        exact ⟨rfl, hB⟩
      · by_cases r2 : 4294967295 < a
        · go_wp2_with fail
          go_ret
          exact ⟨rfl, hB⟩
        · by_cases r3 : b < 0
          · go_wp2_with fail
            go_ret
            exact ⟨rfl, hB⟩
          · have r4 : 4294967295 < b := by omega
            go_wp2_with fail
            go_ret
            exact ⟨rfl, hB⟩
  · have hd : decide (4096 < (len0 : Int)) = true := by simp; omega
    go_enter Try.func4, Try.ntmps4
    go_wp2_with fail
    refine (Draw.big _ _ _ _ hm).mono ?_
    rintro e w1 ⟨rfl, rfl⟩
    go_wp2_with fail
    go_ret
    exact ⟨rfl, Below.refl _ _⟩

/-! ### THE ROW's STEP: WRITTEN OUT: LEAVE IT -/
set_option maxRecDepth 100000 in
theorem lifted (os : Os) (started : os.Started) (H : Type) (enc : TypeId × Value → H) :
    ReturnsInHanded {} Try.checked os 4 .any (Rows.fnAheadSpec.pre6 enc Try.prog Try.f4 Rows.fnAheadRow.domain false) (Rows.fnAheadSpec.post enc Try.prog Try.f4 false true false false) := by
  refine returnsInHanded_of_change (C := Try.checked) own started (by kernel_rfl) Try.func4
    (ChangeSpec.witness6 (enc := enc) (C := Try.checked) false ⟨#[], #[.slice none 0 0], []⟩ 8 (by kernel_rfl) (by kernel_rfl) (by kernel_rfl) (by kernel_rfl)) ?_
  intro W base args ds gs before hval0 hW hcnd _
  have hval : ∀ (j : Nat) t v, Try.f4.params[j]? = some t → args[j]? = some v → Value.okWide Try.prog W .any base t v := hval0
  have hW' := hW
  obtain ⟨p, q, hA0, hV, rfl, hfz, hnd⟩ := hW
  have hA : DataW.TrodAll enc Try.prog W 0 (fun _ => true) true Try.f4.params.toList args.toList ds p := hA0
  rw [Try.params4] at hA hval
  obtain ⟨v0, vs0, d0, ds0, p0, q0, hargs, rfl, rfl, h0, r0⟩ := trodAll_cons hA
  obtain ⟨rfl, rfl, rfl⟩ := trodAll_nil r0
  obtain rfl : args = #[v0] := by cases args; simp_all
  obtain ⟨rfl, rfl⟩ := trodVars_none hV
  obtain ⟨a0, len0, cap0, rfl⟩ := okWide_slice Try.underlying22 (hval 0 22 v0 rfl rfl)
  have k0 := h0
  have lt0 : ∀ x ∈ p0, x.block < W.heap.size := by obtain ⟨m, hm⟩ := k0; exact DataW.trod_lt m _ _ _ hm
  obtain ⟨z0, w0⟩ : ∃ zs, IsRow .u8 W a0 len0 cap0 zs := by
    obtain ⟨fuel, hf⟩ := h0
    rcases open_ints Try.underlying22 Try.underlying5 (by kernel_rfl) hf with ⟨hcs, _⟩ | ⟨x, l, c, zs, hcs, _, hl, hm, hz, _, hcell, hwz⟩
    · simp [Value.cells] at hcs
      obtain ⟨rfl, rfl, rfl⟩ := hcs
      exact ⟨[], .inl ⟨rfl, rfl, rfl, rfl⟩⟩
    · simp [Value.cells] at hcs
      obtain ⟨rfl, rfl, rfl⟩ := hcs
      exact ⟨zs, .inr ⟨_, rfl, hl, hm, by simpa using hz, hcell, hwz⟩⟩
  clear hA0 hval0
  refine (walk a0 len0 cap0 z0 W w0).mono fun e W' ⟨he, bel⟩ => ?_
  subst he
  exact ⟨_, rfl, _, _, _, [], _, [], hW', trodAll_mk1 (shut_bool Try.underlying4 _), (trodAll_cons_mk (Below.trod laidOut (by kernel_rfl) (of_decide_eq_true (by kernel_rfl)) k0 bel lt0) trodAll_mk0), rfl, bel.frame _, fun h => by cases h⟩

theorem over : Rows.fnAheadRow.holds Try.pinned (OpenSpec.ofChange Rows.fnAheadSpec) :=
  OpenClaim.holds_of_wide 4 Try.f4 rfl rfl rfl rfl rfl rfl rfl ⟨rfl, rfl, rfl, rfl, rfl⟩ rfl rfl rfl rfl rfl (by kernel_rfl) Try.func4 (by kernel_rfl)
    (of_decide_eq_true (by kernel_rfl)) (by unfold Func.isWrapper; first | (rw [if_pos (by decide +kernel)]; kernel_rfl) | (rw [if_neg (by decide +kernel)]; exact ⟨rfl, rfl⟩))
    (fun os started H enc _ => lifted os started H enc)

/-- THE STATEMENT. -/
theorem proved : Rows.FnAheadSaid := over
end Go.Proofs.Ytdjllllgfcfbiaa.fnAhead
namespace Go.Proofs.Ytdjllllgfcfbiaa
theorem fnAhead_holds : Rows.FnAheadSaid := fnAhead.proved
#print axioms fnAhead_holds
end Go.Proofs.Ytdjllllgfcfbiaa
