/- For every code of bytes FnMarks returns true: a place is told of its mark from any place near, and of no other mark, and both answer as the specification; no condition. (Its frame is the shell that the guide's program writes; the walk is mine.) -/
import Derived.Test.YtdjllllgfcfbiaaRows
import Derived.Test.YtdjllllgfcfbiaaNumC
import Derived.Test.YtdjllllgfcfbiaaDrawC
import Derived.WalkKit
import Derived.ProofKit
import Derived.OpenShut
import Derived.ShutString
import Derived.ChangeOld
import Derived.Below
namespace Go.Proofs.Ytdjllllgfcfbiaa.fnMarks
open Go.ChangeShapes Go.WideShapes Go.ChangeAt Go.RowKit
open Go.ChangeMaps (open_string shut_string)
set_option linter.unusedVariables false

theorem own : ownKnob Try.prog.godebug = none := by kernel_rfl
theorem laidOut : laidOutB Try.prog = true := by kernel_rfl

/-- WHAT THE WALK IS TOLD OF A SLICE OF INTEGERS THAT CAME IN: it is nil; or it leads to a row of 'cap' cells, the numbers 'zs' (the first 'len' are its elements, the rest its spare room), each fitting its kind. -/
def IsRow (k : IntKind) (w : World) (a : Option Addr) (len cap : Nat) (zs : List Int) : Prop :=
  (a = none ∧ len = 0 ∧ cap = 0 ∧ zs = []) ∨
  ∃ x, a = some x ∧ len ≤ cap ∧ cap ≤ maxLen ∧ zs.length = cap ∧ (∀ i, i < zs.length → w.cell? (x.add i) = some (.int k (zs.getD i 0))) ∧ ∀ n ∈ zs, (Lit.int k n).wf = true

/-! ### STEP 1: THE WALK: the Go text returns true, AND WRITES NOTHING THAT WAS THERE: 'Below w.heap.size w w'' (Derived/Below.lean: '.refl', '.alloc', '.drew', '.setCell' at a new block, '.trans'). Open each 'IsRow' by 'rcases' AHEAD of 'go_enter'; part every test ahead of the walk. -/
set_option maxHeartbeats 4000000 in
theorem walk (a0 : Option Addr) (len0 cap0 : Nat) (z0 : List Int) (w : World) (w0 : IsRow .u8 w a0 len0 cap0 z0) :
    Calls Try.prog 3 #[.slice a0 len0 cap0] w fun e w' => e = .returned (.bool true) ∧ Below w.heap.size w w' := by
  obtain ⟨hb, hm⟩ := Draw.bytes_of_row w0
  clear w0
  by_cases hl : len0 ≤ 4096
  · have hd : decide (4096 < (len0 : Int)) = false := by simp; omega
    go_enter Try.func3, Try.ntmps3
    go_wp2_with fail
    refine (Draw.big _ _ _ _ hm).mono ?_
    rintro e w1 ⟨rfl, rfl⟩
    clear hd
    go_wp2_with fail
    refine (Draw.drawMarkOf _ _ _ _ hb hl).mono ?_
    rintro e w2 ⟨s, p, rfl, hB⟩
    have hb2 := hb.below hB (Nat.le_refl _)
    go_wp2_with fail
    refine (Num.implMarkOf _ _ _).mono ?_
    rintro e w3 ⟨rfl, rfl⟩
    go_wp2_with fail
    refine (Draw.drawPlaceOf _ _ _ _ hb2 hl).mono ?_
    rintro e w3 ⟨s2, n, m2, rfl, hB3⟩
    have hb3 := hb2.below hB3 (Nat.le_refl _)
    have hB4 : Below w.heap.size w w3 := hB.trans (hB3.mono hB.size)
    clear hb2 hb hB hB3 hm
    go_wp2_with fail
    refine (Num.implPlaceOf _ _ _ _).mono ?_
    rintro e w4 ⟨rfl, rfl⟩
    go_wp2_with fail
    refine (Num.specMarkOf _ _ _).mono ?_
    rintro e w4 ⟨rfl, rfl⟩
    go_wp2_with fail
    refine (Num.specPlaceOf _ _ _ _).mono ?_
    rintro e w4 ⟨rfl, rfl⟩
    have hsp := Num.markOf_split s p
    have hback : Hid (∀ x, Num.mkB s = true → Num.plB p = true → 0 ≤ x → x ≤ 1000000000 → Num.placeOf s x (Num.markOf s p) = p) := fun x h1 h2 h3 h4 => Num.place_back h1 (Num.pl_yes ⟨h3, h4⟩) h2
    generalize hmm : Num.markOf s p = m at *
    have HM : Hid _ := hmm
    clear hmm
    rcases Num.placeOf_cases s2 n m2 with hp | ⟨p0, p1, n0, n1, hq⟩
    · rw [hp]
      clear hp
      rcases hsp with ⟨hm1, hr⟩ | ⟨h1, h2, m0, m1⟩
      · subst hm1
        clear HM hback hb3
        by_cases r1 : s < 0
        · go_wp2_with fail
          go_ret
          exact ⟨rfl, hB4⟩
        · by_cases r2 : 4294967295 < s
          · go_wp2_with fail
            go_ret
            exact ⟨rfl, hB4⟩
          · by_cases r3 : p < 0
            · go_wp2_with fail
              go_ret
              exact ⟨rfl, hB4⟩
            · have r4 : 1000000000 < p := by omega
              go_wp2_with fail
              go_ret
              exact ⟨rfl, hB4⟩
      · have hz := Num.markOf_zero h1
        have HZ : Hid _ := hz
        clear hz
        go_wp2_with fail
        refine (Draw.pick _ _ _ _ _ _ hb3 hl (by decide) (by decide) (by decide)).mono ?_
        rintro e w5 ⟨⟨x, x0, x1, rfl⟩, rfl⟩
        go_wp2_with fail
        refine (Num.implPlaceOf _ _ _ _).mono ?_
        rintro e w5 ⟨rfl, rfl⟩
        rw [hback.out _ h1 h2 (by omega) (by omega)]
        go_wp2_with fail
        refine (Num.implMarkOf _ _ _).mono ?_
        rintro e w5 ⟨rfl, rfl⟩
        rw [HZ.out]
        go_wp2_with fail
        go_ret
        exact ⟨rfl, hB4⟩
    · generalize Num.placeOf s2 n m2 = q at *
      have HQ : Hid _ := hq
      clear hq
      go_wp2_with fail
      refine (Num.implMarkOf _ _ _).mono ?_
      rintro e w5 ⟨rfl, rfl⟩
      rw [HQ.out]
      clear HQ
      rcases hsp with ⟨hm1, hr⟩ | ⟨h1, h2, m0, m1⟩
      · subst hm1
        clear HM hback hb3
        by_cases r1 : s < 0
        · go_wp2_with fail
          go_ret
          exact ⟨rfl, hB4⟩
        · by_cases r2 : 4294967295 < s
          · go_wp2_with fail
            go_ret
            exact ⟨rfl, hB4⟩
          · by_cases r3 : p < 0
            · go_wp2_with fail
              go_ret
              exact ⟨rfl, hB4⟩
            · have r4 : 1000000000 < p := by omega
              go_wp2_with fail
              go_ret
              exact ⟨rfl, hB4⟩
      · have hz := Num.markOf_zero h1
        have HZ : Hid _ := hz
        clear hz
        go_wp2_with fail
        refine (Draw.pick _ _ _ _ _ _ hb3 hl (by decide) (by decide) (by decide)).mono ?_
        rintro e w5 ⟨⟨x, x0, x1, rfl⟩, rfl⟩
        go_wp2_with fail
        refine (Num.implPlaceOf _ _ _ _).mono ?_
        rintro e w5 ⟨rfl, rfl⟩
        rw [hback.out _ h1 h2 (by omega) (by omega)]
        go_wp2_with fail
        refine (Num.implMarkOf _ _ _).mono ?_
        rintro e w5 ⟨rfl, rfl⟩
        rw [HZ.out]
        go_wp2_with fail
        go_ret
        exact ⟨rfl, hB4⟩
  · have hd : decide (4096 < (len0 : Int)) = true := by simp; omega
    go_enter Try.func3, Try.ntmps3
    go_wp2_with fail
    refine (Draw.big _ _ _ _ hm).mono ?_
    rintro e w1 ⟨rfl, rfl⟩
    go_wp2_with fail
    go_ret
    exact ⟨rfl, Below.refl _ _⟩

/-! ### THE ROW's STEP: WRITTEN OUT: LEAVE IT -/
set_option maxRecDepth 100000 in
theorem lifted (os : Os) (started : os.Started) (H : Type) (enc : TypeId × Value → H) :
    ReturnsInHanded {} Try.checked os 3 .any (Rows.fnMarksSpec.pre6 enc Try.prog Try.f3 Rows.fnMarksRow.domain false) (Rows.fnMarksSpec.post enc Try.prog Try.f3 false true false false) := by
  refine returnsInHanded_of_change (C := Try.checked) own started (by kernel_rfl) Try.func3
    (ChangeSpec.witness6 (enc := enc) (C := Try.checked) false ⟨#[], #[.slice none 0 0], []⟩ 8 (by kernel_rfl) (by kernel_rfl) (by kernel_rfl) (by kernel_rfl)) ?_
  intro W base args ds gs before hval0 hW hcnd _
  have hval : ∀ (j : Nat) t v, Try.f3.params[j]? = some t → args[j]? = some v → Value.okWide Try.prog W .any base t v := hval0
  have hW' := hW
  obtain ⟨p, q, hA0, hV, rfl, hfz, hnd⟩ := hW
  have hA : DataW.TrodAll enc Try.prog W 0 (fun _ => true) true Try.f3.params.toList args.toList ds p := hA0
  rw [Try.params3] at hA hval
  obtain ⟨v0, vs0, d0, ds0, p0, q0, hargs, rfl, rfl, h0, r0⟩ := trodAll_cons hA
  obtain ⟨rfl, rfl, rfl⟩ := trodAll_nil r0
  obtain rfl : args = #[v0] := by cases args; simp_all
  obtain ⟨rfl, rfl⟩ := trodVars_none hV
  obtain ⟨a0, len0, cap0, rfl⟩ := okWide_slice Try.underlying22 (hval 0 22 v0 rfl rfl)
  have k0 := h0
  have lt0 : ∀ x ∈ p0, x.block < W.heap.size := by obtain ⟨m, hm⟩ := k0; exact DataW.trod_lt m _ _ _ hm
  obtain ⟨z0, w0⟩ : ∃ zs, IsRow .u8 W a0 len0 cap0 zs := by
    obtain ⟨fuel, hf⟩ := h0
    rcases open_ints Try.underlying22 Try.underlying5 (by kernel_rfl) hf with ⟨hcs, _⟩ | ⟨x, l, c, zs, hcs, _, hl, hm, hz, _, hcell, hwz⟩
    · simp [Value.cells] at hcs
      obtain ⟨rfl, rfl, rfl⟩ := hcs
      exact ⟨[], .inl ⟨rfl, rfl, rfl, rfl⟩⟩
    · simp [Value.cells] at hcs
      obtain ⟨rfl, rfl, rfl⟩ := hcs
      exact ⟨zs, .inr ⟨_, rfl, hl, hm, by simpa using hz, hcell, hwz⟩⟩
  clear hA0 hval0
  refine (walk a0 len0 cap0 z0 W w0).mono fun e W' ⟨he, bel⟩ => ?_
  subst he
  exact ⟨_, rfl, _, _, _, [], _, [], hW', trodAll_mk1 (shut_bool Try.underlying4 _), (trodAll_cons_mk (Below.trod laidOut (by kernel_rfl) (of_decide_eq_true (by kernel_rfl)) k0 bel lt0) trodAll_mk0), rfl, bel.frame _, fun h => by cases h⟩

theorem over : Rows.fnMarksRow.holds Try.pinned (OpenSpec.ofChange Rows.fnMarksSpec) :=
  OpenClaim.holds_of_wide 3 Try.f3 rfl rfl rfl rfl rfl rfl rfl ⟨rfl, rfl, rfl, rfl, rfl⟩ rfl rfl rfl rfl rfl (by kernel_rfl) Try.func3 (by kernel_rfl)
    (of_decide_eq_true (by kernel_rfl)) (by unfold Func.isWrapper; first | (rw [if_pos (by decide +kernel)]; kernel_rfl) | (rw [if_neg (by decide +kernel)]; exact ⟨rfl, rfl⟩))
    (fun os started H enc _ => lifted os started H enc)

/-- THE STATEMENT. -/
theorem proved : Rows.FnMarksSaid := over
end Go.Proofs.Ytdjllllgfcfbiaa.fnMarks
namespace Go.Proofs.Ytdjllllgfcfbiaa
theorem fnMarks_holds : Rows.FnMarksSaid := fnMarks.proved
#print axioms fnMarks_holds
end Go.Proofs.Ytdjllllgfcfbiaa
