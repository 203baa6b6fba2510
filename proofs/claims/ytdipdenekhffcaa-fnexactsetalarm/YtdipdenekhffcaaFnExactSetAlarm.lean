/- At every list of alarms and every alarm the program's SetAlarm answers as the specification's SetAlarm, in memory of its own, behind another call too, and leaves the list as it was (lists of more than 2^20 alarms the law itself lets by), so FnExactSetAlarm returns true; no condition. (Its frame is the guide's shell; the walk is mine.) -/
import Derived.Test.YtdipdenekhffcaaRows
import Derived.Test.YtdipdenekhffcaaAlmX
import Derived.Test.YtdipdenekhffcaaLawA
import Derived.Test.YtdipdenekhffcaaTake
import Derived.WalkKit
import Derived.ProofKit
import Derived.OpenShut
import Derived.ShutString
import Derived.ChangeOld
import Derived.Below
import Derived.Test.YtdipdenekhffcaaShape
namespace Go.Proofs.Ytdipdenekhffcaa.fnExactSetAlarm
open Go.ChangeShapes Go.WideShapes Go.ChangeAt Go.RowKit
open Go.ChangeMaps (open_string shut_string)
set_option linter.unusedVariables false
set_option linter.unusedSimpArgs false

theorem own : ownKnob Try.prog.godebug = none := by kernel_rfl
theorem laidOut : laidOutB Try.prog = true := by kernel_rfl

set_option linter.unusedSimpArgs false in
set_option maxRecDepth 20000 in
set_option maxHeartbeats 4000000 in
theorem walk (a0 : Option Addr) (len0 cap0 : Nat) (cs1 : Array Value) (w : World) (w0 : Shp.Shape.Holds w (.slice (.struct (.cons (.int .i64) (.cons (.int .i64) (.nil))))) [.slice a0 len0 cap0]) (w1 : Shp.Shape.Holds w (.struct (.cons (.int .i64) (.cons (.int .i64) (.nil)))) cs1.toList) :
    Calls Try.prog 5 #[.slice a0 len0 cap0, .agg cs1] w fun e w' => e = .returned (.bool true) ∧ Below w.heap.size w w' := by
  obtain ⟨l, rfl, hmax, hs, ha⟩ := Alm.alarms_of w0
  obtain ⟨f, t, rfl⟩ := Alm.alarm_of w1
  clear w0 w1
  have e0 := (Alm.box2 (w := w) (v0 := .int .i64 f) (v1 := .int .i64 t) (T := 44) (Below.refl _ _)).1
  have e1 := (Alm.box2 (w := w) (v0 := .int .i64 f) (v1 := .int .i64 t) (T := 44) (Below.refl _ _)).2
  have BW : Below w.heap.size w (w.alloc (.cells #[.int .i64 f, .int .i64 t] 44)) := (Below.refl _ _).alloc (Nat.le_refl _) _
  have hlt : w.heap.size < (w.alloc (.cells #[.int .i64 f, .int .i64 t] 44)).heap.size := by simp
  by_cases h : l.length ≤ 1048576
  case neg =>
    have hif : Hid ((if (1048576 : Int) < (l.length : Int) then (-1 : Int) else 1048576 - (l.length : Int)) = -1) := if_pos (by omega)
    go_enter Try.func5, Try.ntmps5
    go_wp2_with fail
    refine (Alm.szAlarmS a0 _ cap0 _ _ hmax (by decide) (by decide)).mono ?_
    rintro x w1 ⟨rfl, rfl⟩
    rw [hif.out]
    go_wp2_with fail
    go_ret
    exact ⟨rfl, BW⟩
  have hif : Hid ((if (1048576 : Int) < (l.length : Int) then (-1 : Int) else 1048576 - (l.length : Int)) = 1048576 - (l.length : Int)) := if_neg (by omega)
  have hpos : ¬ (1048576 : Int) - (l.length : Int) < 0 := by omega
  have hl : l.length ≤ 2097152 := by omega
  have hl4 : l.length ≤ 4194304 := by omega
  have hsW := hs.below BW
  go_enter Try.func5, Try.ntmps5
  go_wp2_with fail
  refine (Alm.szAlarmS a0 _ cap0 _ _ hmax (by decide) (by decide)).mono ?_
  rintro x w1 ⟨rfl, rfl⟩
  rw [hif.out]
  go_wp2_with fail
  generalize w.alloc (.cells #[.int .i64 f, .int .i64 t] 44) = W at *
  have hsD : Alm.Alarms W.drew a0 l := hsW
  have HC : Hid ((Alm.setL l (f, t)).length ≤ l.length + 30) := by
    show _ ≤ _
    unfold Alm.setL
    split
    · split
      · have := (Alm.ins_perm (f, t) l).length_eq
        simp at this
        omega
      · omega
    · simp
  refine wp_region_held_drew (S := (fun w' => w'.cell? ⟨w.heap.size, 0, none⟩ = some (.int .i64 f) ∧ w'.cell? ⟨w.heap.size, 1, none⟩ = some (.int .i64 t))) (by kernel_rfl) ?_ (fun hHeld => ?_)
  focus ((try dsimp only) <;> (first | exact ⟨e0, e1⟩ | exact ⟨p0, p1⟩ | exact ⟨q0, q1⟩ | exact ⟨r0, r1⟩))
  refine wpAnyH_take (i := 0) (v := ?_) rfl (by kernel_rfl) (by kernel_rfl) (by kernel_rfl) (fun _ _ _ h => h) (Or.inl ⟨by rfl, ?_⟩) (by assumption) ?_
  rotate_left 1
  focus (intro wS hSw; (try dsimp only at hSw); go_simp; first | done | (constructor <;> with_reducible rfl) | with_reducible rfl)
  (try simp only [Act.put, List.getElem_toArray, List.getElem_cons_zero, List.getElem_cons_succ, List.setIfInBounds_toArray, List.set_cons_zero, List.set_cons_succ])
  refine wpAnyH_take (i := 2) (v := ?_) rfl (by kernel_rfl) (by kernel_rfl) (by kernel_rfl) (fun _ _ _ h => h) (Or.inl ⟨by rfl, ?_⟩) (by assumption) ?_
  rotate_left 1
  focus (intro wS hSw; (try dsimp only at hSw); go_simp; first | done | (constructor <;> with_reducible rfl) | with_reducible rfl)
  (try simp only [Act.put, List.getElem_toArray, List.getElem_cons_zero, List.getElem_cons_succ, List.setIfInBounds_toArray, List.set_cons_zero, List.set_cons_succ])
  refine wpAnyH_ready (rs := [1]) (by kernel_rfl) (by simp) ?_
  refine AllReadyH.cons rfl (fun K hK => ?_) AllReadyH.nil
  (go_simp; refine (Alm.toAlarmS _ _ _ l _ rfl hsD hl).mono ?_; rintro x w1 ⟨g1, c1, rfl, o1, b1⟩; have p0 := (b1.cell (p := ⟨w.heap.size, 0, none⟩) hlt).trans e0; have p1 := (b1.cell (p := ⟨w.heap.size, 1, none⟩) hlt).trans e1; have l1 : w.heap.size < w1.heap.size := Nat.lt_of_lt_of_le hlt b1.size)
  refine hK.out _ _ ?_ (fun hHeld => ?_)
  focus ((try dsimp only) <;> (first | exact ⟨e0, e1⟩ | exact ⟨p0, p1⟩ | exact ⟨q0, q1⟩ | exact ⟨r0, r1⟩))
  clear hK K
  (try simp only [Act.put, List.getElem_toArray, List.getElem_cons_zero, List.getElem_cons_succ, List.setIfInBounds_toArray, List.set_cons_zero, List.set_cons_succ])
  refine wpAnyH_ready (rs := [3]) (by kernel_rfl) (by simp) ?_
  refine AllReadyH.cons rfl (fun K hK => ?_) AllReadyH.nil
  (go_simp; refine (Alm.toAlarm f t _).mono ?_; rintro x w2 ⟨rfl, b2⟩; have q0 := (b2.cell (p := ⟨w.heap.size, 0, none⟩) l1).trans p0; have q1 := (b2.cell (p := ⟨w.heap.size, 1, none⟩) l1).trans p1; have l2 : w.heap.size < w2.heap.size := Nat.lt_of_lt_of_le l1 b2.size; have o2 := o1.later b2)
  refine hK.out _ _ ?_ (fun hHeld => ?_)
  focus ((try dsimp only) <;> (first | exact ⟨e0, e1⟩ | exact ⟨p0, p1⟩ | exact ⟨q0, q1⟩ | exact ⟨r0, r1⟩))
  clear hK K
  (try simp only [Act.put, List.getElem_toArray, List.getElem_cons_zero, List.getElem_cons_succ, List.setIfInBounds_toArray, List.set_cons_zero, List.set_cons_succ])
  refine wpAnyH_ready (rs := [4]) (by kernel_rfl) (by simp) ?_
  refine AllReadyH.cons rfl (fun K hK => ?_) AllReadyH.nil
  (go_simp; refine (Alm.specSetAlarm _ _ _ l f t _ rfl o2.alarms hl o2.cap (by simp)).mono ?_; rintro x w3 ⟨g3, c3, rfl, o3, b3⟩; have r0 := (b3.cell (p := ⟨w.heap.size, 0, none⟩) l2).trans q0; have r1 := (b3.cell (p := ⟨w.heap.size, 1, none⟩) l2).trans q1)
  refine hK.out _ _ ?_ (fun hHeld => ?_)
  focus ((try dsimp only) <;> (first | exact ⟨e0, e1⟩ | exact ⟨p0, p1⟩ | exact ⟨q0, q1⟩ | exact ⟨r0, r1⟩))
  clear hK K
  (try simp only [Act.put, List.getElem_toArray, List.getElem_cons_zero, List.getElem_cons_succ, List.setIfInBounds_toArray, List.set_cons_zero, List.set_cons_succ])
  refine wpAnyH_take (i := 5) (v := ?_) rfl (by kernel_rfl) (by kernel_rfl) (by kernel_rfl) (fun _ _ _ h => h) (Or.inl ⟨by rfl, ?_⟩) (by assumption) ?_
  rotate_left 1
  focus (intro wS hSw; (try dsimp only at hSw); go_simp; first | done | (constructor <;> with_reducible rfl) | with_reducible rfl)
  (try simp only [Act.put, List.getElem_toArray, List.getElem_cons_zero, List.getElem_cons_succ, List.setIfInBounds_toArray, List.set_cons_zero, List.set_cons_succ])
  refine wpAnyH_take (i := 6) (v := ?_) rfl (by kernel_rfl) (by kernel_rfl) (by kernel_rfl) (fun _ _ _ h => h) (Or.inl ⟨by rfl, ?_⟩) (by assumption) ?_
  rotate_left 1
  focus (intro wS hSw; (try dsimp only at hSw); go_simp; first | done | (constructor <;> with_reducible rfl) | with_reducible rfl)
  (try simp only [Act.put, List.getElem_toArray, List.getElem_cons_zero, List.getElem_cons_succ, List.setIfInBounds_toArray, List.set_cons_zero, List.set_cons_succ])
  refine wpAnyH_take (i := 7) (v := ?_) rfl (by kernel_rfl) (by kernel_rfl) (by kernel_rfl) (fun _ _ _ h => h) (Or.inl ⟨by rfl, ?_⟩) (by assumption) ?_
  rotate_left 1
  focus (intro wS hSw; (try dsimp only at hSw); go_simp; first | done | (constructor <;> with_reducible rfl) | with_reducible rfl)
  (try simp only [Act.put, List.getElem_toArray, List.getElem_cons_zero, List.getElem_cons_succ, List.setIfInBounds_toArray, List.set_cons_zero, List.set_cons_succ])
  refine wpAnyH_take (i := 8) (v := ?_) rfl (by kernel_rfl) (by kernel_rfl) (by kernel_rfl) (fun _ _ _ h => h) (Or.inl ⟨by rfl, ?_⟩) (by assumption) ?_
  rotate_left 1
  focus (intro wS hSw; (try dsimp only at hSw); go_simp; first | done | (constructor <;> with_reducible rfl) | with_reducible rfl)
  (try simp only [Act.put, List.getElem_toArray, List.getElem_cons_zero, List.getElem_cons_succ, List.setIfInBounds_toArray, List.set_cons_zero, List.set_cons_succ])
  refine wpAnyH_take (i := 9) (v := ?_) rfl (by kernel_rfl) (by kernel_rfl) (by kernel_rfl) (fun _ _ _ h => h) (Or.inl ⟨by rfl, ?_⟩) (by assumption) ?_
  rotate_left 1
  focus (intro wS hSw; (try dsimp only at hSw); go_simp; first | done | (constructor <;> with_reducible rfl) | with_reducible rfl)
  (try simp only [Act.put, List.getElem_toArray, List.getElem_cons_zero, List.getElem_cons_succ, List.setIfInBounds_toArray, List.set_cons_zero, List.set_cons_succ])
  refine wpAnyH_done (by kernel_rfl) ?_ _
  have B3 : Below w.heap.size w w3 := BW.drew.trans ((b1.trans ((b2.trans (b3.mono b2.size)).mono b1.size)).mono BW.size)
  have l3 : w.heap.size < w3.heap.size := Nat.lt_of_lt_of_le l2 b3.size
  have n3 : w.heap.size < g3 := Nat.lt_of_lt_of_le l2 o3.lt.1
  clear p0 p1 q0 q1 e0 e1 b1 b2 b3 o1 o2 l1 l2 hsD hsW BW hlt hHeld
  go_wp2_with fail
  refine (Alm.toAlarmS _ _ _ l _ rfl (hs.below B3) hl).mono ?_
  rintro x w4 ⟨g4, c4, rfl, o4, b4⟩
  have B4 := B3.trans (b4.mono B3.size)
  have s0 := (b4.cell (p := ⟨w.heap.size, 0, none⟩) l3).trans r0
  have s1 := (b4.cell (p := ⟨w.heap.size, 1, none⟩) l3).trans r1
  have l4 : w.heap.size < w4.heap.size := Nat.lt_of_lt_of_le l3 b4.size
  have n34 : g3 < g4 := by have := o3.lt; have := o4.lt; omega
  have o3 := o3.later b4
  clear b4 B3 r0 r1
  go_wp2_with fail
  refine (Alm.toAlarm f t _).mono ?_
  rintro x w5 ⟨rfl, b5⟩
  have B5 := B4.trans (b5.mono B4.size)
  have s0 := (b5.cell (p := ⟨w.heap.size, 0, none⟩) l4).trans s0
  have s1 := (b5.cell (p := ⟨w.heap.size, 1, none⟩) l4).trans s1
  have l5 : w.heap.size < w5.heap.size := Nat.lt_of_lt_of_le l4 b5.size
  have o3 := o3.later b5
  have o4 := o4.later b5
  clear b5 B4
  go_wp2_with fail
  refine (Alm.implSetAlarm _ _ _ l f t _ rfl o4.alarms hl (by simp)).mono ?_
  rintro x w6 ⟨g6, c6, rfl, o6, b6⟩
  have B6 := B5.trans (b6.mono B5.size)
  have s0 := (b6.cell (p := ⟨w.heap.size, 0, none⟩) l5).trans s0
  have s1 := (b6.cell (p := ⟨w.heap.size, 1, none⟩) l5).trans s1
  have l6 : w.heap.size < w6.heap.size := Nat.lt_of_lt_of_le l5 b6.size
  have n46 : g4 < g6 := by have := o4.lt; have := o6.lt; omega
  have o3 := o3.later b6
  have o4 := o4.later b6
  clear b6 B5
  generalize hq : Alm.setL l (f, t) = C at *
  have HQ : Hid (Alm.setL l (f, t) = C) := hq
  clear hq
  generalize hq : Alm.setB l (f, t) = q at *
  have HP : Hid (Alm.setB l (f, t) = q) := hq
  clear hq
  have hC := HC.out
  have hC4 : C.length ≤ 4194304 := by omega
  have hs0 : ∀ {w' : World}, Below w.heap.size w w' → Alm.Alarms w' a0 l := fun B => hs.below B
  clear hs
  go_wp2_with fail
  refine (Alm.eqAlarmS _ _ _ _ _ _ C C _ rfl rfl o6.alarms o3.alarms hC4 hC4).mono ?_
  rintro x w7 ⟨rfl, b7⟩
  rw [decide_eq_true rfl]
  have B7 := B6.trans (b7.mono B6.size)
  have s0 := (b7.cell (p := ⟨w.heap.size, 0, none⟩) l6).trans s0
  have s1 := (b7.cell (p := ⟨w.heap.size, 1, none⟩) l6).trans s1
  have l7 : w.heap.size < w7.heap.size := Nat.lt_of_lt_of_le l6 b7.size
  have o3 := o3.later b7
  have o4 := o4.later b7
  have o6 := o6.later b7
  clear b7 B6
  have hqq : (q != q) = false := by cases q <;> rfl
  go_wp2_with fail
  refine (Alm.toAlarmS _ _ _ l _ rfl (hs0 B7) hl).mono ?_
  rintro x w8 ⟨g8, c8, rfl, o8, b8⟩
  have B8 := B7.trans (b8.mono B7.size)
  have s0 := (b8.cell (p := ⟨w.heap.size, 0, none⟩) l7).trans s0
  have s1 := (b8.cell (p := ⟨w.heap.size, 1, none⟩) l7).trans s1
  have l8 : w.heap.size < w8.heap.size := Nat.lt_of_lt_of_le l7 b8.size
  have o3 := o3.later b8
  have o4 := o4.later b8
  have o6 := o6.later b8
  clear b8 B7
  go_wp2_with fail
  refine (Alm.eqAlarmS _ _ _ _ _ _ l l _ rfl rfl o4.alarms o8.alarms hl4 hl4).mono ?_
  rintro x w9 ⟨rfl, b9⟩
  rw [decide_eq_true rfl]
  have B9 := B8.trans (b9.mono B8.size)
  have s0 := (b9.cell (p := ⟨w.heap.size, 0, none⟩) l8).trans s0
  have s1 := (b9.cell (p := ⟨w.heap.size, 1, none⟩) l8).trans s1
  have l9 : w.heap.size < w9.heap.size := Nat.lt_of_lt_of_le l8 b9.size
  have o3 := o3.later b9
  have o4 := o4.later b9
  have o6 := o6.later b9
  clear b9 B8 o8
  go_wp2_with fail
  refine (Alm.markAlarmS _ _ _ _ l _ _ rfl o4 hl4 (by decide) (by decide)).mono ?_
  rintro x wA ⟨rfl, o4', kA⟩
  have BA := B9.trans (kA.below (by omega) B9.size)
  have s0 := (kA.cell (p := ⟨w.heap.size, 0, none⟩) l9 (by show w.heap.size ≠ _; omega)).trans s0
  have s1 := (kA.cell (p := ⟨w.heap.size, 1, none⟩) l9 (by show w.heap.size ≠ _; omega)).trans s1
  have lA : w.heap.size < wA.heap.size := Nat.lt_of_lt_of_le l9 kA.size
  have o3 := o3.other kA (by omega)
  have o6 := o6.other kA (by omega)
  clear kA B9 o4 o4'
  have i8 : ¬ (1 : Int) + 2 * (l.length : Int) < 0 := by omega
  go_wp2_with fail
  refine (Alm.eqAlarmS _ _ _ _ _ _ C C _ rfl rfl o6.alarms o3.alarms hC4 hC4).mono ?_
  rintro x wB ⟨rfl, bB⟩
  rw [decide_eq_true rfl]
  have BB := BA.trans (bB.mono BA.size)
  have s0 := (bB.cell (p := ⟨w.heap.size, 0, none⟩) lA).trans s0
  have s1 := (bB.cell (p := ⟨w.heap.size, 1, none⟩) lA).trans s1
  have lB : w.heap.size < wB.heap.size := Nat.lt_of_lt_of_le lA bB.size
  have o3 := o3.later bB
  have o6 := o6.later bB
  clear bB BA i8
  go_wp2_with fail
  refine (Alm.markAlarmS _ _ _ _ C _ _ rfl o6 hC4 (by decide) (by decide)).mono ?_
  rintro x wC ⟨rfl, oC, kC⟩
  have BC := BB.trans (kC.below (by omega) BB.size)
  have s0 := (kC.cell (p := ⟨w.heap.size, 0, none⟩) lB (by show w.heap.size ≠ _; omega)).trans s0
  have s1 := (kC.cell (p := ⟨w.heap.size, 1, none⟩) lB (by show w.heap.size ≠ _; omega)).trans s1
  have lC : w.heap.size < wC.heap.size := Nat.lt_of_lt_of_le lB kC.size
  have o3 := o3.other kC (by omega)
  clear kC BB o6
  go_wp2_with fail
  refine (Alm.heldAlarmS _ _ _ C.length _ _ rfl oC.alarms hC4 (by decide) (by decide)).mono ?_
  rintro x wD ⟨rfl, rfl⟩
  have iA : ¬ (1 : Int) + 2 * (C.length : Int) < 0 := by omega
  have hsC : Alm.Alarms wC.drew a0 l := hs0 BC.drew
  go_wp2_with fail
  refine wp_region_held_drew (S := (fun w' => w'.cell? ⟨w.heap.size, 0, none⟩ = some (.int .i64 f) ∧ w'.cell? ⟨w.heap.size, 1, none⟩ = some (.int .i64 t))) (by kernel_rfl) ?_ (fun hHeld => ?_)
  focus ((try dsimp only) <;> (first | exact ⟨s0, s1⟩ | exact ⟨p0, p1⟩ | exact ⟨q0, q1⟩ | exact ⟨r0, r1⟩))
  refine wpAnyH_take (i := 0) (v := ?_) rfl (by kernel_rfl) (by kernel_rfl) (by kernel_rfl) (fun _ _ _ h => h) (Or.inl ⟨by rfl, ?_⟩) (by assumption) ?_
  rotate_left 1
  focus (intro wS hSw; (try dsimp only at hSw); go_simp; first | done | (constructor <;> with_reducible rfl) | with_reducible rfl)
  (try simp only [Act.put, List.getElem_toArray, List.getElem_cons_zero, List.getElem_cons_succ, List.setIfInBounds_toArray, List.set_cons_zero, List.set_cons_succ])
  refine wpAnyH_take (i := 2) (v := ?_) rfl (by kernel_rfl) (by kernel_rfl) (by kernel_rfl) (fun _ _ _ h => h) (Or.inl ⟨by rfl, ?_⟩) (by assumption) ?_
  rotate_left 1
  focus (intro wS hSw; (try dsimp only at hSw); go_simp; first | done | (constructor <;> with_reducible rfl) | with_reducible rfl)
  (try simp only [Act.put, List.getElem_toArray, List.getElem_cons_zero, List.getElem_cons_succ, List.setIfInBounds_toArray, List.set_cons_zero, List.set_cons_succ])
  refine wpAnyH_ready (rs := [1]) (by kernel_rfl) (by simp) ?_
  refine AllReadyH.cons rfl (fun K hK => ?_) AllReadyH.nil
  (go_simp; refine (Alm.toAlarmS _ _ _ l _ rfl hsC hl).mono ?_; rintro x wD ⟨gD, cD, rfl, oD, bD⟩; have p0 := (bD.cell (p := ⟨w.heap.size, 0, none⟩) lC).trans s0; have p1 := (bD.cell (p := ⟨w.heap.size, 1, none⟩) lC).trans s1; have lD : w.heap.size < wD.heap.size := Nat.lt_of_lt_of_le lC bD.size)
  refine hK.out _ _ ?_ (fun hHeld => ?_)
  focus ((try dsimp only) <;> (first | exact ⟨s0, s1⟩ | exact ⟨p0, p1⟩ | exact ⟨q0, q1⟩ | exact ⟨r0, r1⟩))
  clear hK K
  (try simp only [Act.put, List.getElem_toArray, List.getElem_cons_zero, List.getElem_cons_succ, List.setIfInBounds_toArray, List.set_cons_zero, List.set_cons_succ])
  refine wpAnyH_ready (rs := [3]) (by kernel_rfl) (by simp) ?_
  refine AllReadyH.cons rfl (fun K hK => ?_) AllReadyH.nil
  (go_simp; refine (Alm.toAlarm f t _).mono ?_; rintro x wE ⟨rfl, bE⟩; have q0 := (bE.cell (p := ⟨w.heap.size, 0, none⟩) lD).trans p0; have q1 := (bE.cell (p := ⟨w.heap.size, 1, none⟩) lD).trans p1; have lE : w.heap.size < wE.heap.size := Nat.lt_of_lt_of_le lD bE.size; have oE := oD.later bE)
  refine hK.out _ _ ?_ (fun hHeld => ?_)
  focus ((try dsimp only) <;> (first | exact ⟨s0, s1⟩ | exact ⟨p0, p1⟩ | exact ⟨q0, q1⟩ | exact ⟨r0, r1⟩))
  clear hK K
  (try simp only [Act.put, List.getElem_toArray, List.getElem_cons_zero, List.getElem_cons_succ, List.setIfInBounds_toArray, List.set_cons_zero, List.set_cons_succ])
  refine wpAnyH_ready (rs := [4]) (by kernel_rfl) (by simp) ?_
  refine AllReadyH.cons rfl (fun K hK => ?_) AllReadyH.nil
  (go_simp; refine (Alm.implSetAlarm _ _ _ l f t _ rfl oE.alarms hl (by simp)).mono ?_; rintro x wF ⟨gF, cF, rfl, oF, bF⟩; rw [HQ.out] at oF; have r0 := (bF.cell (p := ⟨w.heap.size, 0, none⟩) lE).trans q0; have r1 := (bF.cell (p := ⟨w.heap.size, 1, none⟩) lE).trans q1)
  refine hK.out _ _ ?_ (fun hHeld => ?_)
  focus ((try dsimp only) <;> (first | exact ⟨s0, s1⟩ | exact ⟨p0, p1⟩ | exact ⟨q0, q1⟩ | exact ⟨r0, r1⟩))
  clear hK K
  (try simp only [Act.put, List.getElem_toArray, List.getElem_cons_zero, List.getElem_cons_succ, List.setIfInBounds_toArray, List.set_cons_zero, List.set_cons_succ])
  refine wpAnyH_take (i := 5) (v := ?_) rfl (by kernel_rfl) (by kernel_rfl) (by kernel_rfl) (fun _ _ _ h => h) (Or.inl ⟨by rfl, ?_⟩) (by assumption) ?_
  rotate_left 1
  focus (intro wS hSw; (try dsimp only at hSw); go_simp; first | done | (constructor <;> with_reducible rfl) | with_reducible rfl)
  (try simp only [Act.put, List.getElem_toArray, List.getElem_cons_zero, List.getElem_cons_succ, List.setIfInBounds_toArray, List.set_cons_zero, List.set_cons_succ])
  refine wpAnyH_take (i := 6) (v := ?_) rfl (by kernel_rfl) (by kernel_rfl) (by kernel_rfl) (fun _ _ _ h => h) (Or.inl ⟨by rfl, ?_⟩) (by assumption) ?_
  rotate_left 1
  focus (intro wS hSw; (try dsimp only at hSw); go_simp; first | done | (constructor <;> with_reducible rfl) | with_reducible rfl)
  (try simp only [Act.put, List.getElem_toArray, List.getElem_cons_zero, List.getElem_cons_succ, List.setIfInBounds_toArray, List.set_cons_zero, List.set_cons_succ])
  refine wpAnyH_take (i := 7) (v := ?_) rfl (by kernel_rfl) (by kernel_rfl) (by kernel_rfl) (fun _ _ _ h => h) (Or.inl ⟨by rfl, ?_⟩) (by assumption) ?_
  rotate_left 1
  focus (intro wS hSw; (try dsimp only at hSw); go_simp; first | done | (constructor <;> with_reducible rfl) | with_reducible rfl)
  (try simp only [Act.put, List.getElem_toArray, List.getElem_cons_zero, List.getElem_cons_succ, List.setIfInBounds_toArray, List.set_cons_zero, List.set_cons_succ])
  refine wpAnyH_take (i := 8) (v := ?_) rfl (by kernel_rfl) (by kernel_rfl) (by kernel_rfl) (fun _ _ _ h => h) (Or.inl ⟨by rfl, ?_⟩) (by assumption) ?_
  rotate_left 1
  focus (intro wS hSw; (try dsimp only at hSw); go_simp; first | done | (constructor <;> with_reducible rfl) | with_reducible rfl)
  (try simp only [Act.put, List.getElem_toArray, List.getElem_cons_zero, List.getElem_cons_succ, List.setIfInBounds_toArray, List.set_cons_zero, List.set_cons_succ])
  refine wpAnyH_take (i := 9) (v := ?_) rfl (by kernel_rfl) (by kernel_rfl) (by kernel_rfl) (fun _ _ _ h => h) (Or.inl ⟨by rfl, ?_⟩) (by assumption) ?_
  rotate_left 1
  focus (intro wS hSw; (try dsimp only at hSw); go_simp; first | done | (constructor <;> with_reducible rfl) | with_reducible rfl)
  (try simp only [Act.put, List.getElem_toArray, List.getElem_cons_zero, List.getElem_cons_succ, List.setIfInBounds_toArray, List.set_cons_zero, List.set_cons_succ])
  refine wpAnyH_done (by kernel_rfl) ?_ _
  rw [HQ.out, HP.out]
  have bCF : Below wC.drew.heap.size wC.drew wF := bD.trans ((bE.trans (bF.mono bE.size)).mono bD.size)
  have BF : Below w.heap.size w wF := BC.drew.trans (bCF.mono BC.size)
  have o3 := (show Alm.Own wC.drew _ g3 c3 C from o3).later bCF
  have oC := (show Alm.Own wC.drew _ g6 c6 _ from oC).later bCF
  clear p0 p1 q0 q1 r0 r1 s0 s1 bD bE bF oD oE bCF hHeld hsC
  go_wp2_with fail
  refine (Alm.eqAlarmS _ _ _ _ _ _ C C _ rfl rfl oF.alarms o3.alarms hC4 hC4).mono ?_
  rintro x wG ⟨rfl, bG⟩
  rw [decide_eq_true rfl]
  have BG := BF.trans (bG.mono BF.size)
  have oC := oC.later bG
  clear bG BF o3 oF
  go_wp2_with fail
  refine (Alm.heldAlarmS _ _ _ C.length _ _ rfl oC.alarms hC4 (by decide) (by decide)).mono ?_
  rintro x wE ⟨rfl, rfl⟩
  go_wp2_with fail
  go_ret
  exact ⟨rfl, BG⟩

set_option maxRecDepth 100000 in
theorem lifted (os : Os) (started : os.Started) (H : Type) (enc : TypeId × Value → H) :
    ReturnsInHanded {} Try.checked os 5 .any (Rows.fnExactSetAlarmSpec.pre6 enc Try.prog Try.f5 Rows.fnExactSetAlarmRow.domain false) (Rows.fnExactSetAlarmSpec.post enc Try.prog Try.f5 false true false false) := by
  refine returnsInHanded_of_change (C := Try.checked) own started (by kernel_rfl) Try.func5
    (ChangeSpec.witness6 (enc := enc) (C := Try.checked) false ⟨#[], #[.slice none 0 0, .agg #[.int .i64 0, .int .i64 0]], []⟩ 8 (by kernel_rfl) (by kernel_rfl) (by kernel_rfl) (by kernel_rfl)) ?_
  intro W base args ds gs before hval0 hW hcnd _
  have hval : ∀ (j : Nat) t v, Try.f5.params[j]? = some t → args[j]? = some v → Value.okWide Try.prog W .any base t v := hval0
  have hW' := hW
  obtain ⟨p, q, hA0, hV, rfl, hfz, hnd⟩ := hW
  have hA : DataW.TrodAll enc Try.prog W 0 (fun _ => true) true Try.f5.params.toList args.toList ds p := hA0
  rw [Try.params5] at hA hval
  obtain ⟨v0, vs0, d0, ds0, p0, q0, hargs, rfl, rfl, h0, r0⟩ := trodAll_cons hA
  obtain ⟨v1, vs1, d1, ds1, p1, q1, rfl, rfl, rfl, h1, r1⟩ := trodAll_cons r0
  obtain ⟨rfl, rfl, rfl⟩ := trodAll_nil r1
  obtain rfl : args = #[v0, v1] := by cases args; simp_all
  obtain ⟨rfl, rfl⟩ := trodVars_none hV
  obtain ⟨a0, len0, cap0, rfl⟩ := okWide_slice Try.underlying40 (hval 0 40 v0 rfl rfl)
  have k0 := h0
  have lt0 : ∀ x ∈ p0, x.block < W.heap.size := by obtain ⟨m, hm⟩ := k0; exact DataW.trod_lt m _ _ _ hm
  have w0 : Shp.Shape.Holds W (.slice (.struct (.cons (.int .i64) (.cons (.int .i64) (.nil))))) [.slice a0 len0 cap0] := by obtain ⟨fuel, hf⟩ := h0; exact (Shp.Shape.reads _ (by kernel_rfl) hf).1
  obtain ⟨cs1, rfl, _⟩ := okWide_struct Try.underlying44 (hval 1 44 v1 rfl rfl)
  have k1 := h1
  have lt1 : ∀ x ∈ p1, x.block < W.heap.size := by obtain ⟨m, hm⟩ := k1; exact DataW.trod_lt m _ _ _ hm
  have w1 : Shp.Shape.Holds W (.struct (.cons (.int .i64) (.cons (.int .i64) (.nil)))) cs1.toList := by obtain ⟨fuel, hf⟩ := h1; exact (Shp.Shape.reads _ (by kernel_rfl) hf).1
  clear hA0 hval0
  refine (walk a0 len0 cap0 cs1 W w0 w1).mono fun e W' ⟨he, bel⟩ => ?_
  subst he
  exact ⟨_, rfl, _, _, _, [], _, [], hW', (trodAll_cons_mk (shut_bool Try.underlying4 _) trodAll_mk0), (trodAll_cons_mk (Below.trod laidOut (by kernel_rfl) (of_decide_eq_true (by kernel_rfl)) k0 bel lt0) (trodAll_cons_mk (Below.trod laidOut (by kernel_rfl) (of_decide_eq_true (by kernel_rfl)) k1 bel lt1) trodAll_mk0)), rfl, bel.frame _, fun h => by cases h⟩

theorem over : Rows.fnExactSetAlarmRow.holds Try.pinned (OpenSpec.ofChange Rows.fnExactSetAlarmSpec) :=
  OpenClaim.holds_of_wide 5 Try.f5 rfl rfl rfl rfl rfl rfl rfl ⟨rfl, rfl, rfl, rfl, rfl⟩ rfl rfl rfl rfl rfl (by kernel_rfl) Try.func5 (by kernel_rfl)
    (of_decide_eq_true (by kernel_rfl)) (by unfold Func.isWrapper; first | (rw [if_pos (by decide +kernel)]; kernel_rfl) | (rw [if_neg (by decide +kernel)]; exact ⟨rfl, rfl⟩))
    (fun os started H enc _ => lifted os started H enc)

/-- THE STATEMENT. -/
theorem proved : Rows.FnExactSetAlarmSaid := over
end Go.Proofs.Ytdipdenekhffcaa.fnExactSetAlarm
namespace Go.Proofs.Ytdipdenekhffcaa
theorem fnExactSetAlarm_holds : Rows.FnExactSetAlarmSaid := fnExactSetAlarm.proved
#print axioms fnExactSetAlarm_holds
end Go.Proofs.Ytdipdenekhffcaa
