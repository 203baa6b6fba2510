/- Contracts of slices.Index and slices.Contains over alarms, of the program's SetAlarm and RingBy (chapter 8); lists of at most 2^20 alarms. -/
import Derived.Test.YtdipdenekhffcaaAlmW
namespace Go.Proofs.Ytdipdenekhffcaa.Alm
open Go.RowKit RowG
set_option linter.unusedVariables false
set_option linter.unusedSimpArgs false

set_option maxRecDepth 10000 in
set_option maxHeartbeats 4000000 in
theorem index (a : Option Addr) (n cap : Nat) (l : List Al) (f t : Int) (w : World) (hn : n = l.length) (h : Alarms w a l) (hl : l.length ≤ 2097152) :
    Calls Try.prog 53 #[.slice a n cap, .agg #[.int .i64 f, .int .i64 t]] w fun x w' => ∃ r : Int, x = .returned (.int .i64 r) ∧ Below w.heap.size w w' ∧ (0 ≤ r ↔ (f, t) ∈ l) := by
  subst hn
  have hmix := mix
  have v0 : Var 26 (w.alloc (.cells #[.int .i64 f, .int .i64 t] 26)) w.heap.size [.int .i64 f, .int .i64 t] := Var.new w _
  have b0 : Below w.heap.size w (w.alloc (.cells #[.int .i64 f, .int .i64 t] 26)) := (Below.refl _ _).alloc (Nat.le_refl _) _
  go_enter Try.func53, Try.ntmps53
  go_wp2_with fail
  go_loopw [5, 8] (fun _ iv wr => ∃ k : Nat, k ≤ l.length ∧ iv = .int .i64 k ∧ Hid (∀ i, i < k → at' l i ≠ (f, t)) ∧ Var 26 wr w.heap.size [.int .i64 f, .int .i64 t] ∧ Below w.heap.size w wr) (fun _ iv _ => l.length - (intOf iv).toNat)
  case atStart => exact ⟨0, Nat.zero_le _, rfl, fun i hi => absurd hi (by omega), v0, b0⟩
  case round =>
    clear v0 b0
    obtain ⟨k, hk0, rfl, hlo, v1, b1⟩ := hrel
    by_cases hlt : k < l.length
    · have i0 : (0 : Int) ≤ (k : Int) := by omega
      have i1 : (k : Int) < (l.length : Int) := by omega
      have q0 := Draw.Later.cell (v1.cell (i := 0) rfl)
      have q1 := Draw.Later.cell (v1.cell (i := 1) rfl)
      rcases h.same b1 with hs | ⟨b, off, rfl, hs⟩
      · simp [hs] at hlt
      have d0 := Draw.Later.cell (hs k hlt).1
      have d1 := Draw.Later.cell (hs k hlt).2
      rw [getD_at] at d0 d1
      have HM : Hid (at' l k ∈ l) := at_mem hlt
      have HS : Hid (∀ y, at' l k = y → y ≠ (f, t) → ∀ i, i < k + 1 → at' l i ≠ (f, t)) := fun y e hy i hi => by
        by_cases q : i = k
        · rw [q, e]; exact hy
        · exact hlo.out i (by omega)
      generalize at' l k = s at *
      obtain ⟨sf, st⟩ := s
      simp only at d0 d1
      clear hs hlo
      have e' : (f = sf ∧ t = st) ∨ f ≠ sf ∨ f = sf ∧ t ≠ st := by
        by_cases q1 : f = sf
        · by_cases q2 : t = st
          · exact .inl ⟨q1, q2⟩
          · exact .inr (.inr ⟨q1, q2⟩)
        · exact .inr (.inl q1)
      rcases e' with ⟨rfl, rfl⟩ | e1 | ⟨rfl, e1⟩
      · clear HS
        go_wp2_with fail
        refine Draw.wp_region_later hmix (by kernel_rfl) ?_
        repeat (go_big_quiet_step (fail))
        refine wpQuiet_nil ?_
        intro _ hw'
        obtain ⟨⟨wq, hBq⟩, hw''⟩ := hw'
        subst hw''
        go_wp2_with fail
        go_ret
        exact ⟨k, rfl, b1.trans (hBq.mono b1.size), fun _ => HM.out, fun _ => i0⟩
      · have HN : Hid (∀ i, i < k + 1 → at' l i ≠ (f, t)) := HS.out _ rfl (fun q => e1 (by cases q; rfl))
        have e2 := beq_eq_false_iff_ne.2 e1
        clear HS HM
        go_wp2_with fail
        refine Draw.wp_region_later hmix (by kernel_rfl) ?_
        repeat (go_big_quiet_step (fail))
        refine wpQuiet_nil ?_
        intro _ hw'
        obtain ⟨⟨wq, hBq⟩, hw''⟩ := hw'
        subst hw''
        go_wp2_with fail
        go_roundw
        case rel => exact ⟨k + 1, by omega, by go_num, HN, v1.later hBq, b1.trans (hBq.mono b1.size)⟩
        case measure => simp [intOf]; omega
      · have HN : Hid (∀ i, i < k + 1 → at' l i ≠ (f, t)) := HS.out _ rfl (fun q => e1 (by cases q; rfl))
        have e2 := beq_eq_false_iff_ne.2 e1
        clear HS HM
        go_wp2_with fail
        refine Draw.wp_region_later hmix (by kernel_rfl) ?_
        repeat (go_big_quiet_step (fail))
        refine wpQuiet_nil ?_
        intro _ hw'
        obtain ⟨⟨wq, hBq⟩, hw''⟩ := hw'
        subst hw''
        go_wp2_with fail
        go_roundw
        case rel => exact ⟨k + 1, by omega, by go_num, HN, v1.later hBq, b1.trans (hBq.mono b1.size)⟩
        case measure => simp [intOf]; omega
    · have i1 : ¬ (k : Int) < (l.length : Int) := by omega
      have HF : Hid ((f, t) ∉ l) := fun q => by
        obtain ⟨i, hi, e⟩ := List.getElem_of_mem q
        exact hlo.out i (by omega) (by rw [at_lt hi, e])
      clear hlo
      go_wp2_with fail
      go_ret
      exact ⟨-1, rfl, b1, fun q => absurd q (by omega), fun q => absurd q HF.out⟩

set_option maxHeartbeats 2000000 in
theorem contains (a : Option Addr) (n cap : Nat) (l : List Al) (f t : Int) (w : World) (hn : n = l.length) (h : Alarms w a l) (hl : l.length ≤ 2097152) :
    Calls Try.prog 35 #[.slice a n cap, .agg #[.int .i64 f, .int .i64 t]] w fun x w' => x = .returned (.bool (decide ((f, t) ∈ l))) ∧ Below w.heap.size w w' := by
  subst hn
  have b0 : Below w.heap.size w (w.alloc (.cells #[.int .i64 f, .int .i64 t] 26)) := (Below.refl _ _).alloc (Nat.le_refl _) _
  go_enter Try.func35, Try.ntmps35
  go_wp2_with fail
  refine (index _ _ _ l f t _ rfl (h.same b0) hl).mono ?_
  rintro x w1 ⟨r, rfl, b1, hr⟩
  have HR : Hid _ := hr
  clear hr
  by_cases h0 : 0 ≤ r
  all_goals
    go_wp2_with fail
    go_ret
    exact ⟨Num.ret_bool (by have := HR.out; simp [← this, h0]), b0.trans (b1.mono b0.size)⟩
theorem containsEq {a : Option Addr} {n cap : Nat} {l : List Al} {f t : Int} {w : World} {q : Bool} (hq : decide ((f, t) ∈ l) = q) (hn : n = l.length) (h : Alarms w a l) (hl : l.length ≤ 2097152) :
    Calls Try.prog 35 #[.slice a n cap, .agg #[.int .i64 f, .int .i64 t]] w fun x w' => x = .returned (.bool q) ∧ Below w.heap.size w w' := by
  subst hq
  exact contains a n cap l f t w hn h hl

set_option maxRecDepth 10000 in
set_option maxHeartbeats 4000000 in
theorem implSetAlarm (a : Option Addr) (n cap : Nat) (l : List Al) (f t : Int) (w : World) (hn : n = l.length) (h : Alarms w a l) (hl : l.length ≤ 2097152) (ha : a = none → cap = 0) :
    Calls Try.prog 10 #[.slice a n cap, .agg #[.int .i64 f, .int .i64 t]] w fun x w' => ∃ g c, x = .returned (.tuple #[.slice (some ⟨g, 0, none⟩) (setL l (f, t)).length c, .bool (setB l (f, t))]) ∧ Own w' w.heap.size g c (setL l (f, t)) ∧ Below w.heap.size w w' := by
  subst hn
  have v0 : Var 26 (w.alloc (.cells #[.int .i64 f, .int .i64 t] 26)) w.heap.size [.int .i64 f, .int .i64 t] := Var.new w _
  have b0 : Below w.heap.size w (w.alloc (.cells #[.int .i64 f, .int .i64 t] 26)) := (Below.refl _ _).alloc (Nat.le_refl _) _
  go_enter Try.func10, Try.ntmps10
  go_wp2_with fail
  refine (implAlarmsOk _ _ _ l _ rfl (h.same b0) hl).mono ?_
  rintro x w1 ⟨rfl, hB1⟩
  have v1 := v0.later hB1
  have b1 := b0.trans (hB1.mono b0.size)
  clear v0 b0 hB1
  cases hok : alarmsB l
  · have e1 : setL l (f, t) = [] := by simp [setL, hok]
    have e2 : setB l (f, t) = false := by simp [setB, hok]
    have o1 := (own_empty w1).mono b1.size
    go_wp2_with fail
    go_ret2
    exact ⟨w1.heap.size, 0, by rw [e1, e2]; rfl, by rw [e1]; exact o1, b1.alloc b1.size _⟩
  · have HOK : Hid (alarmsB l = true) := hok
    have h20 := ok_len hok
    have HNO : Hid (setB l (f, t) = false → setL l (f, t) = l) := fun q => by unfold setL; rw [if_pos HOK.out, q]; rfl
    clear hok
    have s0 := v1.cell (i := 0) rfl
    have s1 := v1.cell (i := 1) rfl
    go_wp2_with fail
    refine (isAlarm f t _).mono ?_
    rintro x w2 ⟨rfl, hB2⟩
    have v2 := v1.later hB2
    have b2 := b1.trans (hB2.mono b1.size)
    clear v1 b1 hB2 s0 s1
    cases hal : alB (f, t)
    · have e2 : Hid (setB l (f, t) = false) := by show _ = _; simp [setB, hal]
      go_wp2_with fail
      refine (ownAlarms _ _ _ l _ rfl (h.same b2) hl ha).mono ?_
      rintro x w3 ⟨g, c, rfl, o3, b3⟩
      go_wp2_with fail
      go_ret2
      exact ⟨g, c, by rw [HNO.out e2.out, e2.out]; rfl, by rw [HNO.out e2.out]; exact o3.el.mono b2.size, b2.trans (b3.mono b2.size)⟩
    · have HAL : Hid (alB (f, t) = true) := hal
      clear hal
      have s0 := v2.cell (i := 0) rfl
      have s1 := v2.cell (i := 1) rfl
      cases hc : decide ((f, t) ∈ l)
      · have HC : Hid _ := hc
        go_wp2_with fail
        refine (containsEq HC.out rfl (h.same b2) hl).mono ?_
        rintro x w3 ⟨rfl, hB3⟩
        have v3 := v2.later hB3
        have b3 := b2.trans (hB3.mono b2.size)
        clear v2 b2 hB3 s0 s1 hc
        by_cases h20' : l.length = 20
        · have i20 : ((l.length : Int) == 20) = true := by rw [beq_iff_eq]; omega
          have e2 : Hid (setB l (f, t) = false) := by show _ = _; simp [setB, h20']
          clear h20'
          go_wp2_with fail
          refine (ownAlarms _ _ _ l _ rfl (h.same b3) hl ha).mono ?_
          rintro x w4 ⟨g, c, rfl, o4, b4⟩
          go_wp2_with fail
          go_ret2
          exact ⟨g, c, by rw [HNO.out e2.out, e2.out]; rfl, by rw [HNO.out e2.out]; exact o4.el.mono b3.size, b3.trans (b4.mono b3.size)⟩
        · have i20 : ((l.length : Int) == 20) = false := by rw [beq_eq_false_iff_ne]; omega
          have e2 : Hid (setB l (f, t) = true) := by show _ = _; have := HC.out; simp only [setB, HOK.out, HAL.out, Bool.true_and]; simp [h20']; simpa using this
          have e1 : Hid (setL l (f, t) = insA (f, t) l) := by show _ = _; unfold setL; rw [if_pos HOK.out, if_pos e2.out]
          have HR : Hid (Rise (insA (f, t) l)) := ins_rise (ok_rise HOK.out) (by have := HC.out; simpa using this)
          have HH : Hid (Heap l l.length) := rise_heap (ok_rise HOK.out)
          go_wp2_with fail
          refine (waitingOf _ _ _ l _ rfl (h.same b3) hl ha).mono ?_
          rintro x w4 ⟨v, g, c, rfl, h4, hv, b4⟩
          have u4 := v3.later b4
          have B4 := b3.trans (b4.mono b3.size)
          have s0 := u4.cell (i := 0) rfl
          have s1 := u4.cell (i := 1) rfl
          clear v3
          go_wp2_with fail
          refine (heapPush _ v g c l f t _ h4 b4.size hv (by omega) HH.out).mono ?_
          rintro x w5 ⟨g5, c5, l5, rfl, h5, hh5, hp5, b5⟩
          have B5 := B4.trans (b5.mono b3.size)
          have HP : Hid (l5.Perm (insA (f, t) l)) := hp5.trans (ins_perm _ _).symm
          have hl5 : l5.length ≤ 2097152 := by rw [hp5.length_eq]; simp; omega
          clear h4 b4 B4 u4 s0 s1 b5
          go_wp2_with fail
          refine (soonestFirst _ v g5 c5 l5 _ _ h5 hl5 hh5 HP.out HR.out).mono ?_
          rintro x w6 ⟨g6, c6, rfl, o6, t6⟩
          have hg5 : w3.heap.size ≤ g5 := (h5.own.lt _ rfl).1
          have B6 := B5.trans (t6.below (B := w.heap.size) (by have := b3.size; omega) (by have := b3.size; omega) B5.size)
          go_wp2_with fail
          go_ret2
          exact ⟨g6, c6, by rw [e1.out, e2.out]; rfl, by rw [e1.out]; exact o6.el.mono B5.size, B6⟩
      · have HC : Hid _ := hc
        have e2 : Hid (setB l (f, t) = false) := by show _ = _; have := HC.out; simp at this; simp [setB, this]
        go_wp2_with fail
        refine (containsEq HC.out rfl (h.same b2) hl).mono ?_
        rintro x w3 ⟨rfl, hB3⟩
        have b3 := b2.trans (hB3.mono b2.size)
        clear v2 b2 hB3 s0 s1 hc
        go_wp2_with fail
        refine (ownAlarms _ _ _ l _ rfl (h.same b3) hl ha).mono ?_
        rintro x w4 ⟨g, c, rfl, o4, b4⟩
        go_wp2_with fail
        go_ret2
        exact ⟨g, c, by rw [HNO.out e2.out, e2.out]; rfl, by rw [HNO.out e2.out]; exact o4.el.mono b3.size, b3.trans (b4.mono b3.size)⟩

end Go.Proofs.Ytdipdenekhffcaa.Alm
