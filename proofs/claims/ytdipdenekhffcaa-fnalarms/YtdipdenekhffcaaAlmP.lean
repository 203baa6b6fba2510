/- Contracts of the program's isAlarm, bySoonest, AlarmsOk and ownAlarms (chapter 8); lists of at most 2^21 alarms. -/
import Derived.Test.YtdipdenekhffcaaAlmD
import Derived.Test.YtdipdenekhffcaaLawA
import Derived.Test.YtdipdenekhffcaaSh
namespace Go.Proofs.Ytdipdenekhffcaa.Alm
open Go.RowKit RowG
set_option linter.unusedVariables false
set_option linter.unusedSimpArgs false

set_option maxHeartbeats 1000000 in
theorem isAlarm (f t : Int) (w : World) : Calls Try.prog 34 #[.agg #[.int .i64 f, .int .i64 t]] w fun x w' => x = .returned (.bool (alB (f, t))) ∧ Below w.heap.size w w' := by
  have fin : ∀ {o : Obj}, Below w.heap.size w (w.alloc o) := fun {o} => (Below.refl _ _).alloc (Nat.le_refl _) o
  cases h1 : Num.plB f
  · go_enter Try.func34, Try.ntmps34
    go_wp2_with (go_at_call 43; refine (Num.isPlace _ _).mono ?_; rintro x w' ⟨rfl, rfl⟩)
    go_ret
    exact ⟨Num.ret_bool (by simp [alB, h1]), fin⟩
  · cases h2 : Num.plB t
    all_goals
      go_enter Try.func34, Try.ntmps34
      go_wp2_with (go_at_call 43; refine (Num.isPlace _ _).mono ?_; rintro x w' ⟨rfl, rfl⟩)
      go_ret
      exact ⟨Num.ret_bool (by simp [alB, h1, h2]), fin⟩
theorem isAlarmEq {f t : Int} {v : Bool} (h : alB (f, t) = v) (w : World) : Calls Try.prog 34 #[.agg #[.int .i64 f, .int .i64 t]] w fun x w' => x = .returned (.bool v) ∧ Below w.heap.size w w' := by
  subst h
  exact isAlarm f t w

set_option maxHeartbeats 1000000 in
theorem isNaN (n : Int) (w : World) : Calls Try.prog 63 #[.int .i64 n] w fun x w' => x = .returned (.bool false) ∧ w = w' := by
  have hn : (n == n) = true := by simp
  go_enter Try.func63, Try.ntmps63
  go_wp2_with fail
  go_ret
  exact ⟨Num.ret_bool (by simp), rfl⟩
def cmpI (a b : Int) : Int := if a < b then -1 else if b < a then 1 else 0
set_option maxHeartbeats 1000000 in
theorem compare (a b : Int) (w : World) : Calls Try.prog 60 #[.int .i64 a, .int .i64 b] w fun x w' => x = .returned (.int .i64 (cmpI a b)) ∧ w = w' := by
  unfold cmpI
  by_cases h1 : a < b
  · rw [if_pos h1]
    go_enter Try.func60, Try.ntmps60
    go_wp2_with (go_at_call 63; refine (isNaN _ _).mono ?_; rintro x w' ⟨rfl, rfl⟩)
    go_ret
    exact ⟨rfl, rfl⟩
  · rw [if_neg h1]
    by_cases h2 : b < a
    · rw [if_pos h2]
      go_enter Try.func60, Try.ntmps60
      go_wp2_with (go_at_call 63; refine (isNaN _ _).mono ?_; rintro x w' ⟨rfl, rfl⟩)
      go_ret
      exact ⟨rfl, rfl⟩
    · rw [if_neg h2]
      go_enter Try.func60, Try.ntmps60
      go_wp2_with (go_at_call 63; refine (isNaN _ _).mono ?_; rintro x w' ⟨rfl, rfl⟩)
      go_ret
      exact ⟨rfl, rfl⟩

/-- The first of two that is not nought. -/
def orI (a b : Int) : Int := if a = 0 then b else a
set_option maxHeartbeats 2000000 in
theorem cmpOr (b off : Nat) (x y : Int) (w : World) (h0 : w.cell? ⟨b, off, none⟩ = some (.int .i64 x)) (h1 : w.cell? ⟨b, off + 1, none⟩ = some (.int .i64 y)) : Calls Try.prog 59 #[.slice (some ⟨b, off, none⟩) 2 2] w fun e w' => e = .returned (.int .i64 (orI x y)) ∧ w = w' := by
  go_enter Try.func59, Try.ntmps59
  go_wp2_with fail
  go_loop [5, 8] (fun v iv => ∃ k : Nat, k ≤ 2 ∧ iv = .int .i64 k ∧ Hid (0 < k → x = 0) ∧ Hid (1 < k → y = 0)) (fun _ iv => 2 - (intOf iv).toNat)
  case atStart => exact ⟨0, by omega, rfl, fun q => absurd q (by omega), fun q => absurd q (by omega)⟩
  case round =>
    obtain ⟨k, hk, rfl, hx, hy⟩ := hrel
    rcases (by omega : k = 0 ∨ k = 1 ∨ k = 2) with rfl | rfl | rfl
    · by_cases q : x = 0
      · have q' : (x == 0) = true := by simpa using q
        go_wp2_with fail
        go_round
        case rel => exact ⟨1, by omega, by go_num, fun _ => q, fun r => absurd r (by omega)⟩
        case measure => simp [intOf]
      · have q' : (x == 0) = false := by simpa using q
        have HO : Hid (orI x y = x) := if_neg q
        go_wp2_with fail
        go_ret
        exact ⟨by rw [HO.out]; rfl, rfl⟩
    · have HO : Hid (orI x y = y) := if_pos (hx.out (by omega))
      by_cases q : y = 0
      · have q' : (y == 0) = true := by simpa using q
        go_wp2_with fail
        go_round
        case rel => exact ⟨2, by omega, by go_num, fun _ => hx.out (by omega), fun _ => q⟩
        case measure => simp [intOf]
      · have q' : (y == 0) = false := by simpa using q
        go_wp2_with fail
        go_ret
        exact ⟨by rw [HO.out]; rfl, rfl⟩
    · have HO : Hid (orI x y = 0) := (if_pos (hx.out (by omega))).trans (hy.out (by omega))
      go_wp2_with fail
      go_ret
      exact ⟨by rw [HO.out]; rfl, rfl⟩

/-- How two stand by At, then by Who. -/
def byA (a b : Al) : Int := orI (cmpI a.1 b.1) (cmpI a.2 b.2)
theorem by_lt (a b : Al) : decide (byA a b < 0) = ltB a b := by
  obtain ⟨x, y⟩ := a
  obtain ⟨x', y'⟩ := b
  rw [Bool.eq_iff_iff]
  simp only [byA, orI, cmpI, ltB, decide_eq_true_eq]
  repeat' split
  all_goals omega

set_option maxHeartbeats 2000000 in
theorem bySoonest (f t f' t' : Int) (w : World) : Calls Try.prog 50 #[.agg #[.int .i64 f, .int .i64 t], .agg #[.int .i64 f', .int .i64 t']] w fun x w' => x = .returned (.int .i64 (byA (f, t) (f', t'))) ∧ Below w.heap.size w w' := by
  unfold byA
  dsimp only
  generalize hc1 : cmpI f f' = c1
  generalize hc2 : cmpI t t' = c2
  have HC1 : ∀ w', Calls Try.prog 60 #[.int .i64 f, .int .i64 f'] w' fun x w'' => x = .returned (.int .i64 c1) ∧ w' = w'' := fun w' => hc1 ▸ compare f f' w'
  have HC2 : ∀ w', Calls Try.prog 60 #[.int .i64 t, .int .i64 t'] w' fun x w'' => x = .returned (.int .i64 c2) ∧ w' = w'' := fun w' => hc2 ▸ compare t t' w'
  clear hc1 hc2
  have B0 : Below w.heap.size w ((w.alloc (.cells #[.int .i64 f, .int .i64 t] 26)).alloc (.cells #[.int .i64 f', .int .i64 t'] 26)) := ((Below.refl _ _).alloc (Nat.le_refl _) _).alloc (by simp) _
  have v0 : Var 26 (w.alloc (.cells #[.int .i64 f, .int .i64 t] 26)) w.heap.size [.int .i64 f, .int .i64 t] := Var.new w _
  have u0 := v0.alloc (.cells #[.int .i64 f', .int .i64 t'] 26)
  have u1 : Var 26 ((w.alloc (.cells #[.int .i64 f, .int .i64 t] 26)).alloc (.cells #[.int .i64 f', .int .i64 t'] 26)) (w.heap.size + 1) [.int .i64 f', .int .i64 t'] := by
    have := Var.new (T := 26) (w.alloc (.cells #[.int .i64 f, .int .i64 t] 26)) [.int .i64 f', .int .i64 t']
    rwa [show (w.alloc (.cells #[.int .i64 f, .int .i64 t] 26)).heap.size = w.heap.size + 1 by simp] at this
  clear v0
  go_enter Try.func50, Try.ntmps50
  go_wp2_with fail
  generalize hW : (w.alloc (.cells #[.int .i64 f, .int .i64 t] 26)).alloc (.cells #[.int .i64 f', .int .i64 t'] 26) = W at *
  clear hW
  have s0 := u0.cell (i := 0) rfl
  have s1 := u0.cell (i := 1) rfl
  have s2 := u1.cell (i := 0) rfl
  have s3 := u1.cell (i := 1) rfl
  refine wp_region_held_drew (S := (fun w' => w'.cell? ⟨w.heap.size, 0, none⟩ = some (.int .i64 f) ∧ w'.cell? ⟨w.heap.size, 1, none⟩ = some (.int .i64 t) ∧ w'.cell? ⟨w.heap.size + 1, 0, none⟩ = some (.int .i64 f') ∧ w'.cell? ⟨w.heap.size + 1, 1, none⟩ = some (.int .i64 t'))) (by kernel_rfl) ?_ (fun hHeld => ?_)
  focus ((try dsimp only) <;> (first | exact ⟨s0, s1, s2, s3⟩ | exact hHeld | exact ⟨alloc_cell hHeld.1 _, alloc_cell hHeld.2.1 _, alloc_cell hHeld.2.2.1 _, alloc_cell hHeld.2.2.2 _⟩))
  refine wpAnyH_take (i := 0) (v := ?_) rfl (by kernel_rfl) (by kernel_rfl) (by kernel_rfl) (fun _ _ _ h => h) (Or.inl ⟨by rfl, ?_⟩) (by assumption) ?_
  rotate_left 1
  focus (intro wS hSw; (try dsimp only at hSw); go_simp; first | done | (constructor <;> with_reducible rfl) | with_reducible rfl)
  (try simp only [Act.put, List.getElem_toArray, List.getElem_cons_zero, List.getElem_cons_succ, List.setIfInBounds_toArray, List.set_cons_zero, List.set_cons_succ])
  refine wpAnyH_take (i := 1) (v := ?_) rfl (by kernel_rfl) (by kernel_rfl) (by kernel_rfl) (fun _ _ _ h => h) (Or.inl ⟨by rfl, ?_⟩) (by assumption) ?_
  rotate_left 1
  focus (intro wS hSw; (try dsimp only at hSw); go_simp; first | done | (constructor <;> with_reducible rfl) | with_reducible rfl)
  (try simp only [Act.put, List.getElem_toArray, List.getElem_cons_zero, List.getElem_cons_succ, List.setIfInBounds_toArray, List.set_cons_zero, List.set_cons_succ])
  refine wpAnyH_take (i := 2) (v := ?_) rfl (by kernel_rfl) (by kernel_rfl) (by kernel_rfl) (fun _ _ _ h => h) (Or.inl ⟨by rfl, ?_⟩) (by assumption) ?_
  rotate_left 1
  focus (intro wS hSw; (try dsimp only at hSw); go_simp; first | done | (constructor <;> with_reducible rfl) | with_reducible rfl)
  (try simp only [Act.put, List.getElem_toArray, List.getElem_cons_zero, List.getElem_cons_succ, List.setIfInBounds_toArray, List.set_cons_zero, List.set_cons_succ])
  refine wpAnyH_take (i := 3) (v := ?_) rfl (by kernel_rfl) (by kernel_rfl) (by kernel_rfl) (fun _ _ _ h => h) (Or.inl ⟨by rfl, ?_⟩) (by assumption) ?_
  rotate_left 1
  focus (intro wS hSw; (try dsimp only at hSw); go_simp; first | done | (constructor <;> with_reducible rfl) | with_reducible rfl)
  (try simp only [Act.put, List.getElem_toArray, List.getElem_cons_zero, List.getElem_cons_succ, List.setIfInBounds_toArray, List.set_cons_zero, List.set_cons_succ])
  refine Draw.take_call (i := 4) (v := ?_) rfl (by kernel_rfl) (by kernel_rfl) (by kernel_rfl) (fun _ _ _ h => h) (by assumption) (by rfl) ?_ ?_ ?_ ?_ ?_
  rotate_left 3
  focus (intro wS hSw; (try dsimp only at hSw); go_simp; first | done | (constructor <;> with_reducible rfl) | with_reducible rfl)
  focus (intro wS hSw; (try dsimp only at hSw); refine (HC1 _).mono ?_; rintro eC wC ⟨rfl, rfl⟩; (constructor <;> with_reducible rfl))
  (try simp only [Act.put, List.getElem_toArray, List.getElem_cons_zero, List.getElem_cons_succ, List.setIfInBounds_toArray, List.set_cons_zero, List.set_cons_succ])
  refine wpAnyH_take (i := 5) (v := ?_) rfl (by kernel_rfl) (by kernel_rfl) (by kernel_rfl) (fun _ _ _ h => h) (Or.inl ⟨by rfl, ?_⟩) (by assumption) ?_
  rotate_left 1
  focus (intro wS hSw; (try dsimp only at hSw); go_simp; first | done | (constructor <;> with_reducible rfl) | with_reducible rfl)
  (try simp only [Act.put, List.getElem_toArray, List.getElem_cons_zero, List.getElem_cons_succ, List.setIfInBounds_toArray, List.set_cons_zero, List.set_cons_succ])
  refine wpAnyH_take (i := 6) (v := ?_) rfl (by kernel_rfl) (by kernel_rfl) (by kernel_rfl) (fun _ _ _ h => h) (Or.inl ⟨by rfl, ?_⟩) (by assumption) ?_
  rotate_left 1
  focus (intro wS hSw; (try dsimp only at hSw); go_simp; first | done | (constructor <;> with_reducible rfl) | with_reducible rfl)
  (try simp only [Act.put, List.getElem_toArray, List.getElem_cons_zero, List.getElem_cons_succ, List.setIfInBounds_toArray, List.set_cons_zero, List.set_cons_succ])
  refine wpAnyH_take (i := 7) (v := ?_) rfl (by kernel_rfl) (by kernel_rfl) (by kernel_rfl) (fun _ _ _ h => h) (Or.inl ⟨by rfl, ?_⟩) (by assumption) ?_
  rotate_left 1
  focus (intro wS hSw; (try dsimp only at hSw); go_simp; first | done | (constructor <;> with_reducible rfl) | with_reducible rfl)
  (try simp only [Act.put, List.getElem_toArray, List.getElem_cons_zero, List.getElem_cons_succ, List.setIfInBounds_toArray, List.set_cons_zero, List.set_cons_succ])
  refine wpAnyH_take (i := 8) (v := ?_) rfl (by kernel_rfl) (by kernel_rfl) (by kernel_rfl) (fun _ _ _ h => h) (Or.inl ⟨by rfl, ?_⟩) (by assumption) ?_
  rotate_left 1
  focus (intro wS hSw; (try dsimp only at hSw); go_simp; first | done | (constructor <;> with_reducible rfl) | with_reducible rfl)
  (try simp only [Act.put, List.getElem_toArray, List.getElem_cons_zero, List.getElem_cons_succ, List.setIfInBounds_toArray, List.set_cons_zero, List.set_cons_succ])
  refine Draw.take_call (i := 9) (v := ?_) rfl (by kernel_rfl) (by kernel_rfl) (by kernel_rfl) (fun _ _ _ h => h) (by assumption) (by rfl) ?_ ?_ ?_ ?_ ?_
  rotate_left 3
  focus (intro wS hSw; (try dsimp only at hSw); go_simp; first | done | (constructor <;> with_reducible rfl) | with_reducible rfl)
  focus (intro wS hSw; (try dsimp only at hSw); refine (HC2 _).mono ?_; rintro eC wC ⟨rfl, rfl⟩; (constructor <;> with_reducible rfl))
  (try simp only [Act.put, List.getElem_toArray, List.getElem_cons_zero, List.getElem_cons_succ, List.setIfInBounds_toArray, List.set_cons_zero, List.set_cons_succ])
  refine wpAnyH_ready (rs := [10]) (by kernel_rfl) (by simp) ?_
  refine AllReadyH.cons rfl (fun K hK => ?_) AllReadyH.nil
  go_simp
  refine hK.out _ _ ?_ (fun hHeld => ?_)
  focus ((try dsimp only) <;> (first | exact ⟨s0, s1, s2, s3⟩ | exact hHeld | exact ⟨alloc_cell hHeld.1 _, alloc_cell hHeld.2.1 _, alloc_cell hHeld.2.2.1 _, alloc_cell hHeld.2.2.2 _⟩))
  clear hK K
  (try simp only [Act.put, List.getElem_toArray, List.getElem_cons_zero, List.getElem_cons_succ, List.setIfInBounds_toArray, List.set_cons_zero, List.set_cons_succ])
  refine wpAnyH_ready (rs := [11]) (by kernel_rfl) (by simp) ?_
  refine AllReadyH.cons rfl (fun K hK => ?_) AllReadyH.nil
  (go_simp; refine (cmpOr _ 0 c1 c2 _ (by simp) (by simp)).mono ?_; rintro x wq ⟨rfl, rfl⟩)
  refine hK.out _ _ ?_ (fun hHeld => ?_)
  focus ((try dsimp only) <;> (first | exact ⟨s0, s1, s2, s3⟩ | exact hHeld | exact ⟨alloc_cell hHeld.1 _, alloc_cell hHeld.2.1 _, alloc_cell hHeld.2.2.1 _, alloc_cell hHeld.2.2.2 _⟩))
  clear hK K
  (try simp only [Act.put, List.getElem_toArray, List.getElem_cons_zero, List.getElem_cons_succ, List.setIfInBounds_toArray, List.set_cons_zero, List.set_cons_succ])
  refine wpAnyH_take (i := 12) (v := ?_) rfl (by kernel_rfl) (by kernel_rfl) (by kernel_rfl) (fun _ _ _ h => h) (Or.inl ⟨by rfl, ?_⟩) (by assumption) ?_
  rotate_left 1
  focus (intro wS hSw; (try dsimp only at hSw); go_simp; first | done | (constructor <;> with_reducible rfl) | with_reducible rfl)
  (try simp only [Act.put, List.getElem_toArray, List.getElem_cons_zero, List.getElem_cons_succ, List.setIfInBounds_toArray, List.set_cons_zero, List.set_cons_succ])
  refine wpAnyH_done (by kernel_rfl) ?_ _
  go_wp2_with fail
  go_ret
  exact ⟨rfl, B0.drew.alloc B0.size _⟩
theorem bySoonestEq {a b : Al} {v : Int} (h : byA a b = v) (w : World) : Calls Try.prog 50 #[.agg #[.int .i64 a.1, .int .i64 a.2], .agg #[.int .i64 b.1, .int .i64 b.2]] w fun x w' => x = .returned (.int .i64 v) ∧ Below w.heap.size w w' := by
  subst h
  exact bySoonest a.1 a.2 b.1 b.2 w

set_option maxHeartbeats 1000000 in
theorem implAlarmsOk (a : Option Addr) (n cap : Nat) (l : List Al) (w : World) (hn : n = l.length) (h : Alarms w a l) (hl : l.length ≤ 2097152) :
    Calls Try.prog 17 #[.slice a n cap] w fun x w' => x = .returned (.bool (alarmsB l)) ∧ Below w.heap.size w w' := by
  subst hn
  have hmix := mix
  go_enter Try.func17, Try.ntmps17
  by_cases h20 : l.length ≤ 20
  case neg =>
    have HF : Hid (alarmsB l = false) := by show _ = _; simp [alarmsB, h20]
    have i20 : (20 : Int) < (l.length : Int) := by omega
    go_wp2_with fail
    go_ret
    exact ⟨by rw [HF.out]; rfl, Below.refl _ _⟩
  have i20 : ¬ (20 : Int) < (l.length : Int) := by omega
  go_wp2_with fail
  go_loopw [10] (fun iv wr => ∃ k : Nat, k ≤ l.length ∧ iv = .int .i64 k ∧ Hid (∀ j, j < k → good l j) ∧ Below w.heap.size w wr) (fun iv _ => l.length - (intOf iv).toNat)
  case atStart => exact ⟨0, Nat.zero_le _, rfl, fun j hj => by omega, Below.refl _ _⟩
  case round =>
    obtain ⟨k, hk, rfl, hgood, hB⟩ := hrel
    by_cases hlt : k < l.length
    · rcases h with h | ⟨b, off, rfl, h⟩
      · simp [h] at hlt
      · have hbw : b < w.heap.size := Draw.lt_of_cell (h k hlt).1
        have c0 := (hB.cell (p := ⟨b, off + k * 2, none⟩) hbw).trans (h k hlt).1
        have c1 := (hB.cell (p := ⟨b, off + k * 2 + 1, none⟩) hbw).trans (h k hlt).2
        have i0 : (0 : Int) ≤ (k : Int) := by omega
        have i1 : (k : Int) < (l.length : Int) := by omega
        have HG : Hid (good l k ↔ (alB (l.getD k (0, 0)) = true ∧ (k = 0 ∨ ltB (l.getD (k - 1) (0, 0)) (l.getD k (0, 0)) = true))) := Iff.rfl
        have hprev : 0 < k → wr.cell? ⟨b, off + (k - 1) * 2, none⟩ = some (.int .i64 (l.getD (k - 1) (0, 0)).1) ∧ wr.cell? ⟨b, off + (k - 1) * 2 + 1, none⟩ = some (.int .i64 (l.getD (k - 1) (0, 0)).2) := fun hk0 => ⟨(hB.cell (p := ⟨b, off + (k - 1) * 2, none⟩) hbw).trans (h (k - 1) (by omega)).1, (hB.cell (p := ⟨b, off + (k - 1) * 2 + 1, none⟩) hbw).trans (h (k - 1) (by omega)).2⟩
        generalize l.getD k (0, 0) = s at *
        generalize l.getD (k - 1) (0, 0) = p at *
        obtain ⟨f, t⟩ := s
        obtain ⟨pf, pt⟩ := p
        simp only at c0 c1 hprev
        have d0 := Draw.Later.cell (box2 (w := wr) (v0 := .int .i64 f) (v1 := .int .i64 t) (T := 26) (Below.refl _ _)).1
        have d1 := Draw.Later.cell (box2 (w := wr) (v0 := .int .i64 f) (v1 := .int .i64 t) (T := 26) (Below.refl _ _)).2
        have hBA : Below w.heap.size w (wr.alloc (.cells #[.int .i64 f, .int .i64 t] 26)) := hB.alloc hB.size _
        replace hprev : 0 < k → (wr.alloc (.cells #[.int .i64 f, .int .i64 t] 26)).cell? ⟨b, off + (k - 1) * 2, none⟩ = some (.int .i64 pf) ∧ (wr.alloc (.cells #[.int .i64 f, .int .i64 t] 26)).cell? ⟨b, off + (k - 1) * 2 + 1, none⟩ = some (.int .i64 pt) := fun hk0 => ⟨alloc_cell (hprev hk0).1 _, alloc_cell (hprev hk0).2 _⟩
        cases hsp : alB (f, t)
        · have HF : Hid (alarmsB l = false) := bad_at hlt fun hg => by have := (HG.out.1 hg).1; rw [hsp] at this; cases this
          clear HG hprev
          go_wp2_with fail
          refine Draw.wp_region_later hmix (by kernel_rfl) ?_
          repeat (go_big_quiet_step ((go_at_call 34; exact Draw.later_of (isAlarmEq hsp _))))
          refine wpQuiet_nil ?_
          intro _ hw'
          obtain ⟨⟨wq, hBq⟩, hw''⟩ := hw'
          subst hw''
          go_wp2_with fail
          go_ret
          exact ⟨by rw [HF.out]; rfl, hBA.trans (hBq.mono hBA.size)⟩
        · by_cases hk0 : k = 0
          · subst hk0
            have HF : Hid (good l 0) := HG.out.2 ⟨hsp, .inl rfl⟩
            clear HG hprev
            rw [Nat.zero_mul, Nat.add_zero] at c0 c1
            go_wp2_with fail
            refine Draw.wp_region_later hmix (by kernel_rfl) ?_
            repeat (go_big_quiet_step ((go_at_call 34; exact Draw.later_of (isAlarmEq hsp _))))
            refine wpQuiet_nil ?_
            intro _ hw'
            obtain ⟨⟨wq, hBq⟩, hw''⟩ := hw'
            subst hw''
            go_wp2_with fail
            go_roundw
            case rel => exact ⟨1, by omega, by go_num, fun j hj => by
              by_cases e : j = 0
              · rw [e]; exact HF.out
              · exact hgood.out j (by omega), hBA.trans (hBq.mono hBA.size)⟩
            case measure => simp [intOf]; omega
          · obtain ⟨m, rfl⟩ : ∃ m, k = m + 1 := ⟨k - 1, by omega⟩
            have d2 := Draw.Later.cell (hprev (by omega)).1
            have d3 := Draw.Later.cell (hprev (by omega)).2
            rw [Nat.add_sub_cancel] at d2 d3
            clear hprev
            have i2 : (0 : Int) < (m : Int) + 1 := by omega
            have i3 : (0 : Int) ≤ (m : Int) := by omega
            have i4 : (m : Int) < (l.length : Int) := by omega
            have i5 : (m : Int) + 1 < (l.length : Int) := by omega
            have hby : byA (pf, pt) (f, t) = byA (pf, pt) (f, t) := rfl
            have HBL : Hid _ := by_lt (pf, pt) (f, t)
            generalize hv : byA (pf, pt) (f, t) = v at hby HBL
            by_cases hcmp : v < 0
            · have HF : Hid (good l (m + 1)) := HG.out.2 ⟨hsp, .inr (by rw [← HBL.out]; simpa using hcmp)⟩
              clear HG
              go_wp2_with fail
              refine Draw.wp_region_later hmix (by kernel_rfl) ?_
              repeat (go_big_quiet_step (first | (go_at_call 34; exact Draw.later_of (isAlarmEq hsp _)) | (go_at_call 50; exact Draw.later_of (bySoonestEq (a := (pf, pt)) (b := (f, t)) hv _))))
              refine wpQuiet_nil ?_
              intro _ hw'
              obtain ⟨⟨wq, hBq⟩, hw''⟩ := hw'
              subst hw''
              go_wp2_with fail
              go_roundw
              case rel => exact ⟨m + 1 + 1, by omega, by go_num, fun j hj => by
                by_cases e : j = m + 1
                · rw [e]; exact HF.out
                · exact hgood.out j (by omega), hBA.trans (hBq.mono hBA.size)⟩
              case measure => simp [intOf]; omega
            · have HF : Hid (alarmsB l = false) := bad_at hlt fun hg => by have := (HG.out.1 hg).2; rw [← HBL.out] at this; simp at this; omega
              clear HG
              go_wp2_with fail
              refine Draw.wp_region_later hmix (by kernel_rfl) ?_
              repeat (go_big_quiet_step (first | (go_at_call 34; exact Draw.later_of (isAlarmEq hsp _)) | (go_at_call 50; exact Draw.later_of (bySoonestEq (a := (pf, pt)) (b := (f, t)) hv _))))
              refine wpQuiet_nil ?_
              intro _ hw'
              obtain ⟨⟨wq, hBq⟩, hw''⟩ := hw'
              subst hw''
              go_wp2_with fail
              go_ret
              exact ⟨by rw [HF.out]; rfl, hBA.trans (hBq.mono hBA.size)⟩
    · have hkl : k = l.length := by omega
      have HF : Hid (alarmsB l = decide (l.length ≤ 20)) := good_all (hkl ▸ hgood.out)
      have i1 : ¬ (k : Int) < (l.length : Int) := by omega
      clear hgood
      go_wp2_with fail
      go_ret
      exact ⟨by rw [HF.out, decide_eq_true h20]; rfl, hB⟩


set_option maxHeartbeats 2000000 in
theorem ownAlarms (a : Option Addr) (n cap : Nat) (l : List Al) (w : World) (hn : n = l.length) (h : Alarms w a l) (hl : l.length ≤ 2097152) (ha : a = none → cap = 0) :
    Calls Try.prog 36 #[.slice a n cap] w fun x w' => ∃ g c, x = .returned (.slice (some ⟨g, 0, none⟩) l.length c) ∧ Own w' w.heap.size g c l ∧ Below w.heap.size w w' := by
  subst hn
  have b0 : Below w.heap.size w (w.alloc (.cells #[] 26)) := (Below.refl _ _).alloc (Nat.le_refl _) _
  have o0 := own_empty w
  have L0 := (h.same b0).el
  go_enter Try.func36, Try.ntmps36
  go_wp2_with (at_builtin; refine wpList_appS ty (by decide) (by rfl) _ _ (by rfl) w.heap.size w.heap.size 0 0 [] l rfl (by rfl) o0 b0.size a l.length cap rfl (by rfl) L0 ha (by simp; omega) ?_; intro g3 c3 w3 o3 gr3)
  rw [List.nil_append] at o3
  go_ret
  exact ⟨g3, c3, rfl, o3, grown_below b0 (Nat.le_refl _) (fun j hj => by cases hj; exact Nat.le_refl _) gr3⟩

end Go.Proofs.Ytdipdenekhffcaa.Alm
