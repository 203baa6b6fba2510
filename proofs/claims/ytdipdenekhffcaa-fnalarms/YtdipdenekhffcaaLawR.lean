/- Draws of chapter 8: DrawSetAlarm, DrawRingBy, DrawStopAlarms; the laws' likeAlarms and likeInts; at most 4096 bytes. -/
import Derived.Test.YtdipdenekhffcaaDrawD
import Derived.Test.YtdipdenekhffcaaLawI
namespace Go.Proofs.Ytdipdenekhffcaa.Alm
open Go.RowKit RowG
set_option linter.unusedVariables false
set_option linter.unusedSimpArgs false

theorem res_tmp_cell {fn : Func} {p u : Tmp} {ty : TypeId} (h : fn.results = #[.tmp u, .cell p ty]) (tmps : Array Value) (P : Program) (w : World) :
    (results fn tmps).run P w = ((asAddr (tmps.getD p undef)).run P w).andThen fun a w₁ => ((loadVar ty a).run P w₁).andThen fun v w₂ => .ok (.tuple #[tmps.getD u undef, v]) w₂ := by
  simp only [results, h]
  simp [Sem.run_bind, Result.andThen]

set_option maxHeartbeats 2000000 in
theorem drawStopAlarms (a : Option Addr) (len cap : Nat) (w : World) (hb : Draw.Bytes w a len) (hl : len ≤ 4096) :
    Calls Try.prog 13 #[.slice a len cap] w fun x w' => ∃ (l : List Al) (g c : Nat) (p : Int), x = .returned (.tuple #[.slice (some ⟨g, 0, none⟩) l.length c, .int .i64 p]) ∧ l.length ≤ 40 ∧ Own w' w.heap.size g c l ∧ Below w.heap.size w w' := by
  go_enter Try.func13, Try.ntmps13
  go_wp2_with fail
  refine (Draw.l1New a len cap _ hb hl).mono ?_
  rintro x w1 ⟨rfl, h, hw1⟩
  have c1 : Draw.Cur w1 w.heap.size := by rw [hw1]; exact Draw.cur_new hb hl h _
  have b1 : Below w.heap.size w w1 := by rw [hw1]; exact (Below.refl _ _).alloc (Nat.le_refl _) _
  have h1 : w.heap.size < w1.heap.size := by rw [hw1]; simp
  clear hw1
  go_wp2_with fail
  refine (l8Draw _ _ c1).mono ?_
  rintro x w2 ⟨l, g, cp, rfl, hl4, o2, c2, k2⟩
  have b2 : Below w.heap.size w w2 := b1.trans (k2.below (Nat.le_refl _) (by omega))
  clear k2 b1 c1
  go_wp2_with fail
  refine (Draw.l1Below _ _ _ c2).mono ?_
  rintro x w3 ⟨p, p0, p1, rfl, c3, k3⟩
  have o3 : Own w3 w.heap.size g cp l := (own_kc o2.el k3 h1).mono (Nat.le_of_lt h1)
  have b3 : Below w.heap.size w w3 := b2.trans (k3.below (Nat.le_refl _) b2.size)
  have O3 : Hid (Own _ _ _ _ _) := o3
  clear o2 o3 k3 b2 c2
  go_wp2_with fail
  go_ret2
  exact ⟨l, g, cp, p, rfl, hl4, O3.out, b3⟩

set_option maxHeartbeats 2000000 in
theorem drawRingBy (a : Option Addr) (len cap : Nat) (w : World) (hb : Draw.Bytes w a len) (hl : len ≤ 4096) :
    Calls Try.prog 11 #[.slice a len cap] w fun x w' => ∃ (l : List Al) (g c : Nat) (p : Int), x = .returned (.tuple #[.slice (some ⟨g, 0, none⟩) l.length c, .int .i64 p]) ∧ l.length ≤ 40 ∧ Own w' w.heap.size g c l ∧ Below w.heap.size w w' := by
  go_enter Try.func11, Try.ntmps11
  go_wp2_with fail
  refine (Draw.l1New a len cap _ hb hl).mono ?_
  rintro x w1 ⟨rfl, h, hw1⟩
  have c1 : Draw.Cur w1 w.heap.size := by rw [hw1]; exact Draw.cur_new hb hl h _
  have b1 : Below w.heap.size w w1 := by rw [hw1]; exact (Below.refl _ _).alloc (Nat.le_refl _) _
  have h1 : w.heap.size < w1.heap.size := by rw [hw1]; simp
  clear hw1
  go_wp2_with fail
  refine (l8Draw _ _ c1).mono ?_
  rintro x w2 ⟨l, g, cp, rfl, hl4, o2, c2, k2⟩
  have b2 : Below w.heap.size w w2 := b1.trans (k2.below (Nat.le_refl _) (by omega))
  clear k2 b1 c1
  go_wp2_with fail
  refine (Draw.l1Once _ _ _ c2).mono ?_
  rintro x w2' ⟨q, rfl, c2', k2'⟩
  have o2 := own_kc o2.el k2' h1
  have b2 : Below w.heap.size w w2' := b2.trans (k2'.below (Nat.le_refl _) b2.size)
  clear k2' c2
  cases q
  · go_wp2_with fail
    refine (Draw.l1Below _ _ _ c2').mono ?_
    rintro x w3 ⟨p, p0, p1, rfl, c3, k3⟩
    have o3 : Own w3 w.heap.size g cp l := (own_kc o2 k3 h1).mono (Nat.le_of_lt h1)
    have b3 : Below w.heap.size w w3 := b2.trans (k3.below (Nat.le_refl _) b2.size)
    have O3 : Hid (Own _ _ _ _ _) := o3
    clear o2 o3 k3 b2 c2'
    go_wp2_with fail
    go_ret2
    exact ⟨l, g, cp, p, rfl, hl4, O3.out, b3⟩
  · go_wp2_with fail
    refine (Draw.l1DrawPlace _ _ c2').mono ?_
    rintro x w3 ⟨p, rfl, c3, k3⟩
    have o3 : Own w3 w.heap.size g cp l := (own_kc o2 k3 h1).mono (Nat.le_of_lt h1)
    have b3 : Below w.heap.size w w3 := b2.trans (k3.below (Nat.le_refl _) b2.size)
    have O3 : Hid (Own _ _ _ _ _) := o3
    clear o2 o3 k3 b2 c2'
    go_wp2_with fail
    go_ret2
    exact ⟨l, g, cp, p, rfl, hl4, O3.out, b3⟩

set_option maxHeartbeats 2000000 in
theorem drawSetAlarm (a : Option Addr) (len cap : Nat) (w : World) (hb : Draw.Bytes w a len) (hl : len ≤ 4096) :
    Calls Try.prog 9 #[.slice a len cap] w fun x w' => ∃ (l : List Al) (g c : Nat) (f t : Int), x = .returned (.tuple #[.slice (some ⟨g, 0, none⟩) l.length c, .agg #[.int .i64 f, .int .i64 t]]) ∧ l.length ≤ 40 ∧ Own w' w.heap.size g c l ∧ Below w.heap.size w w' := by
  have bz : Below w.heap.size w (w.alloc (.cells #[.int .i64 0, .int .i64 0] 26)) := (Below.refl _ _).alloc (Nat.le_refl _) _
  have R0 : Var 26 (w.alloc (.cells #[.int .i64 0, .int .i64 0] 26)) w.heap.size [.int .i64 0, .int .i64 0] := Var.new w _
  have hz : (w.alloc (.cells #[.int .i64 0, .int .i64 0] 26)).heap.size = w.heap.size + 1 := by simp
  have hb0 := hb.below bz (Nat.le_refl _)
  go_enter Try.func9, Try.ntmps9
  go_wp2_with fail
  generalize w.alloc (.cells #[.int .i64 0, .int .i64 0] 26) = v at *
  refine (Draw.l1New a len cap _ hb0 hl).mono ?_
  rintro x w1 ⟨rfl, h, hw1⟩
  have c1 : Draw.Cur w1 v.heap.size := by rw [hw1]; exact Draw.cur_new hb0 hl h _
  have b1 : Below w.heap.size w w1 := by rw [hw1]; exact bz.alloc (by omega) _
  have h1 : v.heap.size < w1.heap.size := by rw [hw1]; simp
  have R1 : Var 26 w1 w.heap.size [.int .i64 0, .int .i64 0] := by rw [hw1]; exact R0.alloc _
  rw [hz] at c1 h1 ⊢
  clear hw1 hb0 bz R0 h
  go_wp2_with fail
  refine (l8Draw _ _ c1).mono ?_
  rintro x w2 ⟨l, g, cp, rfl, hl4, o2, c2, k2⟩
  have b2 : Below w.heap.size w w2 := b1.trans (k2.below (by omega) (by omega))
  have R2 := R1.kept k2 (by omega)
  have hg := (Own.lt o2).1
  clear k2 b1 c1 R1
  go_wp2_with fail
  refine (l8DrawAlarm _ _ c2).mono ?_
  rintro x w3 ⟨f, t, rfl, c3, k3⟩
  have o3 : E.Own 26 w3 w.heap.size (some ⟨g, 0, none⟩) cp l := (own_kc o2.el k3 h1).mono (by omega)
  have b3 : Below w.heap.size w w3 := b2.trans (k3.below (by omega) b2.size)
  have R3 := R2.kept k3 (by omega)
  have r0 := R3.cell (i := 0) rfl
  have r1 := R3.cell (i := 1) rfl
  have r2 := R3.free 0
  have r3 := R3.free 1
  have O3 : Hid _ := (o3.setCell (p := ⟨w.heap.size, 0, none⟩) (fun x hx => by cases hx; show g ≠ w.heap.size; omega) (.int .i64 f)).setCell (p := ⟨w.heap.size, 1, none⟩) (fun x hx => by cases hx; show g ≠ w.heap.size; omega) (.int .i64 t)
  clear o2 o3 k3 b2 c2 R2 R3
  go_wp2_with fail
  exact bodyPost_ret (v := .tuple #[.slice (some ⟨g, 0, none⟩) l.length cp, .agg #[.int .i64 f, .int .i64 t]]) (by rw [res_tmp_cell rfl]; go_simp) rfl ⟨l, g, cp, f, t, rfl, hl4, O3.out, (b3.setCell (Nat.le_refl _) _).setCell (Nat.le_refl _) _⟩

set_option maxRecDepth 10000 in
set_option maxHeartbeats 4000000 in
theorem likeAlarms (a a' : Option Addr) (n n' cap cap' : Nat) (l l' : List Al) (w : World) (hn : n = l.length) (hn' : n' = l'.length) (h : Alarms w a l) (h' : Alarms w a' l') (hl : l.length ≤ 4194304) (he : l = l') :
    Calls Try.prog 16 #[.slice a n cap, .slice a' n' cap'] w fun x w' => x = .returned (.bool true) ∧ Below w.heap.size w w' := by
  subst he
  subst hn
  subst hn'
  have hmix := mix
  go_enter Try.func16, Try.ntmps16
  go_wp2_with fail
  go_loopw [5] (fun iv wr => ∃ k : Nat, k ≤ l.length ∧ iv = .int .i64 k ∧ Below w.heap.size w wr) (fun iv _ => l.length - (intOf iv).toNat)
  case atStart => exact ⟨0, Nat.zero_le _, rfl, Below.refl _ _⟩
  case round =>
    obtain ⟨k, hk, rfl, hB⟩ := hrel
    by_cases hlt : k < l.length
    · have i0 : (0 : Int) ≤ (k : Int) := by omega
      have i1 : (k : Int) < (l.length : Int) := by omega
      rcases h.same hB with h1 | ⟨b, off, rfl, h1⟩
      · simp [h1] at hlt
      rcases h'.same hB with h1' | ⟨b', off', rfl, h1'⟩
      · simp [h1'] at hlt
      have d0 := Draw.Later.cell (h1 k hlt).1
      have d1 := Draw.Later.cell (h1 k hlt).2
      have d2 := Draw.Later.cell (h1' k hlt).1
      have d3 := Draw.Later.cell (h1' k hlt).2
      generalize l.getD k (0, 0) = s at *
      obtain ⟨f, t⟩ := s
      simp only at d0 d1 d2 d3
      clear h1 h1'
      go_wp2_with fail
      refine Draw.wp_region_later hmix (by kernel_rfl) ?_
      repeat (go_big_quiet_step (fail))
      refine wpQuiet_nil ?_
      intro _ hw'
      obtain ⟨⟨wq, hBq⟩, hw''⟩ := hw'
      subst hw''
      go_wp2_with fail
      go_roundw
      case rel => exact ⟨k + 1, by omega, by go_num, hB.trans (hBq.mono hB.size)⟩
      case measure => simp [intOf]; omega
    · have i1 : ¬ (k : Int) < (l.length : Int) := by omega
      go_wp2_with fail
      go_ret
      exact ⟨rfl, hB⟩

set_option maxHeartbeats 2000000 in
theorem likeInts (B B' g g' c c' n n' : Nat) (l : List Int) (w : World) (hn : n = l.length) (hn' : n' = l.length) (h : OwnI w B g c l) (h' : OwnI w B' g' c' l) (hl : l.length ≤ 4194304) :
    Calls Try.prog 21 #[.slice (some ⟨g, 0, none⟩) n c, .slice (some ⟨g', 0, none⟩) n' c'] w fun x w' => x = .returned (.bool true) ∧ Below w.heap.size w w' := by
  subst hn
  subst hn'
  have hmix := mix
  go_enter Try.func21, Try.ntmps21
  go_wp2_with fail
  go_loopw [5] (fun iv wr => ∃ k : Nat, k ≤ l.length ∧ iv = .int .i64 k ∧ Below w.heap.size w wr) (fun iv _ => l.length - (intOf iv).toNat)
  case atStart => exact ⟨0, Nat.zero_le _, rfl, Below.refl _ _⟩
  case round =>
    obtain ⟨k, hk, rfl, hB⟩ := hrel
    by_cases hlt : k < l.length
    · have d0 := Draw.Later.cell ((h.later hB).at hlt).1
      have d1 := Draw.Later.cell ((h'.later hB).at hlt).1
      have i0 : (0 : Int) ≤ (k : Int) := by omega
      have i1 : (k : Int) < (l.length : Int) := by omega
      generalize l.getD k 0 = s at *
      go_wp2_with fail
      refine Draw.wp_region_later hmix (by kernel_rfl) ?_
      repeat (go_big_quiet_step (fail))
      refine wpQuiet_nil ?_
      intro _ hw'
      obtain ⟨⟨wq, hBq⟩, hw''⟩ := hw'
      subst hw''
      go_wp2_with fail
      go_roundw
      case rel => exact ⟨k + 1, by omega, by go_num, hB.trans (hBq.mono hB.size)⟩
      case measure => simp [intOf]; omega
    · have i1 : ¬ (k : Int) < (l.length : Int) := by omega
      go_wp2_with fail
      go_ret
      exact ⟨rfl, hB⟩

end Go.Proofs.Ytdipdenekhffcaa.Alm
