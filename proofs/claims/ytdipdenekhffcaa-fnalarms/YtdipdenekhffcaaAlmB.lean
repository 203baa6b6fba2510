/- Contracts of the specification's AlarmsOk and StopAlarms (chapter 8); lists of at most 2^21 alarms. -/
import Derived.Test.YtdipdenekhffcaaAlmM
import Derived.Test.YtdipdenekhffcaaRowS
namespace Go.Proofs.Ytdipdenekhffcaa.Alm
open Go.RowKit RowG
set_option linter.unusedVariables false
set_option linter.unusedSimpArgs false

theorem getD_at (l : List Al) (i : Nat) : l.getD i (0, 0) = at' l i := rfl

set_option maxHeartbeats 1000000 in
theorem specAlarmsOk (a : Option Addr) (n cap : Nat) (l : List Al) (w : World) (hn : n = l.length) (h : Alarms w a l) (hl : l.length ≤ 2097152) :
    Calls Try.prog 18 #[.slice a n cap] w fun x w' => x = .returned (.bool (alarmsB l)) ∧ Below w.heap.size w w' := by
  subst hn
  have hmix := mix
  go_enter Try.func18, Try.ntmps18
  go_wp2_with fail
  go_loopw [3] (fun iv wr => ∃ k : Nat, k ≤ l.length ∧ iv = .int .i64 k ∧ Hid (∀ j, j < k → good l j) ∧ Below w.heap.size w wr) (fun iv _ => l.length - (intOf iv).toNat)
  case atStart => exact ⟨0, Nat.zero_le _, rfl, fun j hj => by omega, Below.refl _ _⟩
  case round =>
    obtain ⟨k, hk, rfl, hgood, hB⟩ := hrel
    by_cases hlt : k < l.length
    · rcases h with h | ⟨b, off, rfl, h⟩
      · simp [h] at hlt
      · have hbw : b < w.heap.size := Draw.lt_of_cell (h k hlt).1
        have c0 := (hB.cell (p := ⟨b, off + k * 2, none⟩) hbw).trans (h k hlt).1
        have c1 := (hB.cell (p := ⟨b, off + k * 2 + 1, none⟩) hbw).trans (h k hlt).2
        have i0 : (0 : Int) ≤ (k : Int) := by omega
        have i1 : (k : Int) < (l.length : Int) := by omega
        have HG : Hid (good l k ↔ (alB (l.getD k (0, 0)) = true ∧ (k = 0 ∨ ltB (l.getD (k - 1) (0, 0)) (l.getD k (0, 0)) = true))) := Iff.rfl
        have hprev : 0 < k → wr.cell? ⟨b, off + (k - 1) * 2, none⟩ = some (.int .i64 (l.getD (k - 1) (0, 0)).1) ∧ wr.cell? ⟨b, off + (k - 1) * 2 + 1, none⟩ = some (.int .i64 (l.getD (k - 1) (0, 0)).2) := fun hk0 => ⟨(hB.cell (p := ⟨b, off + (k - 1) * 2, none⟩) hbw).trans (h (k - 1) (by omega)).1, (hB.cell (p := ⟨b, off + (k - 1) * 2 + 1, none⟩) hbw).trans (h (k - 1) (by omega)).2⟩
        generalize l.getD k (0, 0) = s at *
        generalize l.getD (k - 1) (0, 0) = p at *
        obtain ⟨f, t⟩ := s
        obtain ⟨pf, pt⟩ := p
        simp only at c0 c1 hprev
        have d0 := Draw.Later.cell c0
        have d1 := Draw.Later.cell c1
        cases hsp : alB (f, t)
        · have HF : Hid (alarmsB l = false) := bad_at hlt fun hg => by have := (HG.out.1 hg).1; rw [hsp] at this; cases this
          clear HG hprev
          go_wp2_with fail
          refine Draw.wp_region_later hmix (by kernel_rfl) ?_
          repeat (go_big_quiet_step ((go_at_call 49; exact Draw.later_of (l8AlarmEq hsp _))))
          refine wpQuiet_nil ?_
          intro _ hw'
          obtain ⟨⟨wq, hBq⟩, hw''⟩ := hw'
          subst hw''
          go_wp2_with fail
          go_ret
          exact ⟨by rw [HF.out]; rfl, hB.trans (hBq.mono hB.size)⟩
        · by_cases hk0 : k = 0
          · subst hk0
            have HF : Hid (good l 0) := HG.out.2 ⟨hsp, .inl rfl⟩
            clear HG hprev d0 d1
            rw [Nat.zero_mul, Nat.add_zero] at c0 c1
            have d0 := Draw.Later.cell c0
            have d1 := Draw.Later.cell c1
            go_wp2_with fail
            refine Draw.wp_region_later hmix (by kernel_rfl) ?_
            repeat (go_big_quiet_step ((go_at_call 49; exact Draw.later_of (l8AlarmEq hsp _))))
            refine wpQuiet_nil ?_
            intro _ hw'
            obtain ⟨⟨wq, hBq⟩, hw''⟩ := hw'
            subst hw''
            go_wp2_with fail
            go_roundw
            case rel => exact ⟨1, by omega, by go_num, fun j hj => by
              by_cases e : j = 0
              · rw [e]; exact HF.out
              · exact hgood.out j (by omega), hB.trans (hBq.mono hB.size)⟩
            case measure => simp [intOf]; omega
          · obtain ⟨m, rfl⟩ : ∃ m, k = m + 1 := ⟨k - 1, by omega⟩
            have d2 := Draw.Later.cell (hprev (by omega)).1
            have d3 := Draw.Later.cell (hprev (by omega)).2
            rw [Nat.add_sub_cancel] at d2 d3
            clear hprev
            have i2 : (0 : Int) < (m : Int) + 1 := by omega
            have i3 : (0 : Int) ≤ (m : Int) := by omega
            have i4 : (m : Int) < (l.length : Int) := by omega
            have i5 : (m : Int) + 1 < (l.length : Int) := by omega
            cases hcmp : ltB (pf, pt) (f, t)
            · have HF : Hid (alarmsB l = false) := bad_at hlt fun hg => by have := (HG.out.1 hg).2; rw [hcmp] at this; simp at this
              clear HG
              go_wp2_with fail
              refine Draw.wp_region_later hmix (by kernel_rfl) ?_
              repeat (go_big_quiet_step (first | (go_at_call 49; exact Draw.later_of (l8AlarmEq hsp _)) | (go_at_call 48; exact Draw.later_of (l8LessEq hcmp _))))
              refine wpQuiet_nil ?_
              intro _ hw'
              obtain ⟨⟨wq, hBq⟩, hw''⟩ := hw'
              subst hw''
              go_wp2_with fail
              go_ret
              exact ⟨by rw [HF.out]; rfl, hB.trans (hBq.mono hB.size)⟩
            · have HF : Hid (good l (m + 1)) := HG.out.2 ⟨hsp, .inr hcmp⟩
              clear HG
              go_wp2_with fail
              refine Draw.wp_region_later hmix (by kernel_rfl) ?_
              repeat (go_big_quiet_step (first | (go_at_call 49; exact Draw.later_of (l8AlarmEq hsp _)) | (go_at_call 48; exact Draw.later_of (l8LessEq hcmp _))))
              refine wpQuiet_nil ?_
              intro _ hw'
              obtain ⟨⟨wq, hBq⟩, hw''⟩ := hw'
              subst hw''
              go_wp2_with fail
              go_roundw
              case rel => exact ⟨m + 1 + 1, by omega, by go_num, fun j hj => by
                by_cases e : j = m + 1
                · rw [e]; exact HF.out
                · exact hgood.out j (by omega), hB.trans (hBq.mono hB.size)⟩
              case measure => simp [intOf]; omega
    · have hkl : k = l.length := by omega
      have HF : Hid (alarmsB l = decide (l.length ≤ 20)) := good_all (hkl ▸ hgood.out)
      have i1 : ¬ (k : Int) < (l.length : Int) := by omega
      clear hgood
      go_wp2_with fail
      go_ret
      exact ⟨Num.ret_bool (by rw [HF.out, Bool.eq_iff_iff]; simp; omega), hB⟩

/-- Without all of who. -/
def stopL (l : List Al) (who : Int) : List Al := if alarmsB l = true then l.filter (fun a => decide (a.2 ≠ who)) else []
theorem filter_step {l : List Al} {k : Nat} (h : k < l.length) (p : Al → Bool) : (l.take (k + 1)).filter p = (l.take k).filter p ++ (if p (at' l k) = true then [at' l k] else []) := by
  rw [List.take_succ_eq_append_getElem h, List.filter_append, at_lt h]
  cases q : p l[k] <;> simp [List.filter, q]
theorem alarms_nil : alarmsB [] = true := by decide
theorem own_empty (w : World) : E.Own 26 (w.alloc (.cells #[] 26)) w.heap.size (some ⟨w.heap.size, 0, none⟩) 0 [] := own_nil w

set_option maxHeartbeats 2000000 in
theorem specStopAlarms (a : Option Addr) (n cap : Nat) (l : List Al) (who : Int) (w : World) (hn : n = l.length) (h : Alarms w a l) (hl : l.length ≤ 2097152) :
    Calls Try.prog 19 #[.slice a n cap, .int .i64 who] w fun x w' => ∃ g c, x = .returned (.slice (some ⟨g, 0, none⟩) (stopL l who).length c) ∧ Own w' w.heap.size g c (stopL l who) ∧ Below w.heap.size w w' := by
  subst hn
  have b0 : Below w.heap.size w (w.alloc (.cells #[] 26)) := (Below.refl _ _).alloc (Nat.le_refl _) _
  have o0 := own_empty w
  have hfl : ∀ k, ((l.take k).filter (fun a => decide (a.2 ≠ who))).length ≤ k := fun k => by
    have h1 := List.length_filter_le (fun a : Al => decide (a.2 ≠ who)) (l.take k)
    rw [List.length_take] at h1
    omega
  have HFL : Hid _ := hfl
  clear hfl
  go_enter Try.func19, Try.ntmps19
  go_wp2_with fail
  go_loopw [5, 6] (fun v iv wr => ∃ (k g c : Nat) (out : List Al), k ≤ l.length ∧ iv = .int .i64 k ∧ v = .slice (some ⟨g, 0, none⟩) out.length c ∧ Hid (out = (l.take k).filter (fun a => decide (a.2 ≠ who))) ∧ Hid (k = 0 ∨ alarmsB l = true) ∧ E.Own 26 wr w.heap.size (some ⟨g, 0, none⟩) c out ∧ Below w.heap.size w wr) (fun _ iv _ => l.length - (intOf iv).toNat)
  case atStart => exact ⟨0, _, 0, [], Nat.zero_le _, rfl, rfl, by show _ = _; simp, .inl rfl, o0, b0⟩
  case round =>
    clear o0 b0
    obtain ⟨k, g, c, out, hk, rfl, rfl, hout, hkk, hown, hB⟩ := hrel
    by_cases hlt : k < l.length
    · have i0 : (0 : Int) ≤ (k : Int) := by omega
      have i1 : (k : Int) < (l.length : Int) := by omega
      have hol : out.length ≤ k := by rw [hout.out]; exact HFL.out k
      go_wp2_with fail
      refine (specAlarmsOk _ _ _ l _ rfl (h.same hB) hl).mono ?_
      rintro x w1 ⟨rfl, hB1⟩
      have o1 := hown.later hB1
      have b1 := hB.trans (hB1.mono hB.size)
      clear hown hB hB1
      cases hok : alarmsB l
      · have HF : Hid (stopL l who = out) := by
          show _ = _
          have : k = 0 := hkk.out.elim id (fun q => by rw [hok] at q; cases q)
          rw [hout.out, this]; simp [stopL, hok]
        clear hout hkk
        go_wp2_with fail
        go_ret
        exact ⟨g, c, by rw [HF.out]; rfl, by rw [HF.out]; exact o1, b1⟩
      · have hs := h.same b1
        rcases hs with hs | ⟨b, off, rfl, hs⟩
        · simp [hs] at hlt
        have d0 := (hs k hlt).1
        have d1 := (hs k hlt).2
        have HK : Hid (k + 1 = 0 ∨ alarmsB l = true) := .inr hok
        have HT : Hid _ := filter_step hlt (fun a => decide (a.2 ≠ who))
        rw [getD_at] at d0 d1
        generalize at' l k = s at *
        obtain ⟨f, t⟩ := s
        simp only at d0 d1
        clear hs hok
        by_cases hw : t = who
        · have hw' : (t == who) = true := by simpa using hw
          have HF : Hid (out = (l.take (k + 1)).filter (fun a => decide (a.2 ≠ who))) := by show _ = _; rw [HT.out, hout.out]; simp [hw]
          clear HT hout
          go_wp2_with fail
          go_roundw
          case rel => exact ⟨k + 1, g, c, out, by omega, by go_num, rfl, HF, HK, o1, b1⟩
          case measure => simp [intOf]; omega
        · have hw' : (t == who) = false := by simpa using hw
          have HF : Hid (out ++ [(f, t)] = (l.take (k + 1)).filter (fun a => decide (a.2 ≠ who))) := by show _ = _; rw [HT.out, hout.out]; simp [hw]
          clear HT hout
          have n2 : w.heap.size ≤ (w1.alloc (.cells #[.int .i64 f, .int .i64 t] 26)).heap.size := by have := b1.size; simp; omega
          have o2 := o1.alloc (.cells #[.int .i64 f, .int .i64 t] 26)
          have L2 : E.Lies (w1.alloc (.cells #[.int .i64 f, .int .i64 t] 26)) (some ⟨w1.heap.size, 0, none⟩) [(f, t)] := El.lies_new rfl
          go_wp2_with (at_builtin; refine wpList_appS ty (by decide) (by rfl) _ _ (by rfl) w.heap.size g c _ out [(f, t)] rfl (by rfl) o2 n2 (some ⟨w1.heap.size, 0, none⟩) 1 1 rfl (by rfl) L2 (fun e => by cases e) (by simp only [List.length_cons, List.length_nil]; omega) ?_; intro g1 c1 w3 o3 gr3)
          have b3 : Below w.heap.size w w3 := grown_below (b1.alloc b1.size _) (Nat.le_refl _) (fun j hj => by cases hj; exact (o1.lt _ rfl).1) gr3
          have hlen : (out ++ [(f, t)]).length = out.length + 1 := by simp
          go_roundw
          case rel => exact ⟨k + 1, g1, c1, out ++ [(f, t)], by omega, by go_num, by rw [hlen], HF, HK, o3, b3⟩
          case measure => simp [intOf]; omega
    · have hkl : l.take k = l := List.take_of_length_le (by omega)
      have i1 : ¬ (k : Int) < (l.length : Int) := by omega
      have HF : Hid (stopL l who = out) := by
        show _ = _
        rw [hout.out, hkl]
        rcases hkk.out with q | q
        · have : l = [] := List.eq_nil_of_length_eq_zero (by omega)
          rw [this]; simp [stopL]
        · simp [stopL, q]
      clear hout hkk
      go_wp2_with fail
      go_ret
      exact ⟨g, c, by rw [HF.out]; rfl, by rw [HF.out]; exact hown, hB⟩

end Go.Proofs.Ytdipdenekhffcaa.Alm
