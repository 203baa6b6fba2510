/- Contracts of the specification's functions of chapter 4 (holes); lists of at most 2^21 spans. -/
import Derived.Test.YtjlebhohhhkmfaaHoleA
import Derived.BigQuiet
namespace Go.Proofs.Ytjlebhohhhkmfaa.Hole
open Go.RowKit
set_option linter.unusedVariables false

theorem mix : Try.prog.follows .mixedOrders = true := by kernel_rfl

set_option maxHeartbeats 1000000 in
theorem specSpansOk (a : Option Addr) (n cap : Nat) (l : List Sp) (w : World) (hn : n = l.length) (h : Spans w a l) (hl : l.length ≤ 2097152) :
    Calls Try.prog 16 #[.slice a n cap] w fun x w' => x = .returned (.bool (spansB l)) ∧ Below w.heap.size w w' := by
  subst hn
  have hmix := mix
  go_enter Try.func16, Try.ntmps16
  go_wp2_with fail
  go_loopw [3] (fun iv wr => ∃ k : Nat, k ≤ l.length ∧ iv = .int .i64 k ∧ Hid (∀ j, j < k → good l j) ∧ Below w.heap.size w wr) (fun iv _ => l.length - (intOf iv).toNat)
  case atStart => exact ⟨0, Nat.zero_le _, rfl, fun j hj => by omega, Below.refl _ _⟩
  case round =>
    obtain ⟨k, hk, rfl, hgood, hB⟩ := hrel
    by_cases hlt : k < l.length
    · rcases h with h | ⟨b, off, rfl, h⟩
      · simp [h] at hlt
      · have hbw : b < w.heap.size := Draw.lt_of_cell (h k hlt).1
        have c0 := (hB.cell (p := ⟨b, off + k * 2, none⟩) hbw).trans (h k hlt).1
        have c1 := (hB.cell (p := ⟨b, off + k * 2 + 1, none⟩) hbw).trans (h k hlt).2
        have i0 : (0 : Int) ≤ (k : Int) := by omega
        have i1 : (k : Int) < (l.length : Int) := by omega
        have HG : Hid (good l k ↔ (spB (l.getD k (0, 0)) = true ∧ (k = 0 ∨ (l.getD (k - 1) (0, 0)).2 < (l.getD k (0, 0)).1))) := Iff.rfl
        have hprev : 0 < k → wr.cell? ⟨b, off + (k - 1) * 2 + 1, none⟩ = some (.int .i64 (l.getD (k - 1) (0, 0)).2) := fun hk0 => (hB.cell (p := ⟨b, off + (k - 1) * 2 + 1, none⟩) hbw).trans (h (k - 1) (by omega)).2
        generalize l.getD k (0, 0) = s at *
        generalize l.getD (k - 1) (0, 0) = p at *
        obtain ⟨f, t⟩ := s
        obtain ⟨pf, pt⟩ := p
        simp only at c0 c1 hprev
        have d0 := Draw.Later.cell c0
        have d1 := Draw.Later.cell c1
        cases hsp : spB (f, t)
        · have HF : Hid (spansB l = false) := bad_at hlt fun hg => by have := (HG.out.1 hg).1; rw [hsp] at this; cases this
          clear HG hprev
          go_wp2_with fail
          refine Draw.wp_region_later hmix (by kernel_rfl) ?_
          repeat (go_big_quiet_step ((go_at_call 41; exact Draw.later_of (l4SpanEq hsp _))))
          refine wpQuiet_nil ?_
          intro _ hw'
          obtain ⟨⟨wq, hBq⟩, hw''⟩ := hw'
          subst hw''
          go_wp2_with fail
          go_ret
          exact ⟨by rw [HF.out]; rfl, hB.trans (hBq.mono hB.size)⟩
        · by_cases hk0 : k = 0
          · subst hk0
            have HF : Hid (good l 0) := HG.out.2 ⟨hsp, .inl rfl⟩
            clear HG hprev d0 d1
            rw [Nat.zero_mul, Nat.add_zero] at c0 c1
            have d0 := Draw.Later.cell c0
            have d1 := Draw.Later.cell c1
            go_wp2_with fail
            refine Draw.wp_region_later hmix (by kernel_rfl) ?_
            repeat (go_big_quiet_step ((go_at_call 41; exact Draw.later_of (l4SpanEq hsp _))))
            refine wpQuiet_nil ?_
            intro _ hw'
            obtain ⟨⟨wq, hBq⟩, hw''⟩ := hw'
            subst hw''
            go_wp2_with fail
            go_roundw
            case rel => exact ⟨1, by omega, by go_num, fun j hj => by
              by_cases e : j = 0
              · rw [e]; exact HF.out
              · exact hgood.out j (by omega), hB.trans (hBq.mono hB.size)⟩
            case measure => simp [intOf]; omega
          · obtain ⟨m, rfl⟩ : ∃ m, k = m + 1 := ⟨k - 1, by omega⟩
            have d2 := Draw.Later.cell (hprev (by omega))
            rw [Nat.add_sub_cancel] at d2
            clear hprev
            have i2 : (0 : Int) < (m : Int) + 1 := by omega
            have i3 : (0 : Int) ≤ (m : Int) := by omega
            have i4 : (m : Int) < (l.length : Int) := by omega
            have i5 : (m : Int) + 1 < (l.length : Int) := by omega
            by_cases hcmp : pt < f
            · have HF : Hid (good l (m + 1)) := HG.out.2 ⟨hsp, .inr hcmp⟩
              clear HG
              go_wp2_with fail
              refine Draw.wp_region_later hmix (by kernel_rfl) ?_
              repeat (go_big_quiet_step ((go_at_call 41; exact Draw.later_of (l4SpanEq hsp _))))
              refine wpQuiet_nil ?_
              intro _ hw'
              obtain ⟨⟨wq, hBq⟩, hw''⟩ := hw'
              subst hw''
              go_wp2_with fail
              go_roundw
              case rel => exact ⟨m + 1 + 1, by omega, by go_num, fun j hj => by
                by_cases e : j = m + 1
                · rw [e]; exact HF.out
                · exact hgood.out j (by omega), hB.trans (hBq.mono hB.size)⟩
              case measure => simp [intOf]; omega
            · have HF : Hid (spansB l = false) := bad_at hlt fun hg => by have := (HG.out.1 hg).2; simp only at this; omega
              clear HG
              go_wp2_with fail
              refine Draw.wp_region_later hmix (by kernel_rfl) ?_
              repeat (go_big_quiet_step ((go_at_call 41; exact Draw.later_of (l4SpanEq hsp _))))
              refine wpQuiet_nil ?_
              intro _ hw'
              obtain ⟨⟨wq, hBq⟩, hw''⟩ := hw'
              subst hw''
              go_wp2_with fail
              go_ret
              exact ⟨by rw [HF.out]; rfl, hB.trans (hBq.mono hB.size)⟩
    · have hkl : k = l.length := by omega
      have HF : Hid (spansB l = decide (l.length ≤ 30)) := good_all (hkl ▸ hgood.out)
      have i1 : ¬ (k : Int) < (l.length : Int) := by omega
      clear hgood
      go_wp2_with fail
      go_ret
      exact ⟨Num.ret_bool (by rw [HF.out, Bool.eq_iff_iff]; simp; omega), hB⟩

end Go.Proofs.Ytjlebhohhhkmfaa.Hole
