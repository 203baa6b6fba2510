/- Contracts of the methods of the program's heap of alarms: Len, Less, Swap, Push, Pop (chapter 8); lists of at most 2^21 alarms. -/
import Derived.Test.YtdipdenekhffcaaAlmP
import Derived.Test.YtdipdenekhffcaaTakeY
import Derived.Test.YtdipdenekhffcaaRegV
namespace Go.Proofs.Ytdipdenekhffcaa.Alm
open Go.RowKit RowG
set_option linter.unusedVariables false
set_option linter.unusedSimpArgs false

theorem tyW : Typ Try.prog 72 26 E 16 := ⟨Try.underlying72, by
  obtain ⟨i, hi, h0, h1, h2⟩ := info_parts infoAlarm
  exact ⟨i, _, hi, h0, h1, h2, rfl⟩⟩

set_option maxHeartbeats 1000000 in
theorem wLen (ao : Option Addr) (n c : Nat) (w : World) (hn : n ≤ 4194304) : Calls Try.prog 55 #[.slice ao n c] w fun x w' => x = .returned (.int .i64 (n : Int)) ∧ w = w' := by
  go_enter Try.func55, Try.ntmps55
  go_wp2_with fail
  go_ret
  exact ⟨rfl, rfl⟩

set_option maxHeartbeats 2000000 in
theorem wLess (B g c n : Nat) (l : List Al) (i j : Nat) (w : World) (hn : n = l.length) (ho : E.Own 26 w B (some ⟨g, 0, none⟩) c l) (hl : l.length ≤ 2097152) (hi : i < l.length) (hj : j < l.length) :
    Calls Try.prog 80 #[.slice (some ⟨g, 0, none⟩) n c, .int .i64 (i : Int), .int .i64 (j : Int)] w fun x w' => x = .returned (.bool (ltB (at' l i) (at' l j))) ∧ Below w.heap.size w w' := by
  subst hn
  have hmix := mix
  obtain ⟨⟨c0, c1⟩, _, _⟩ := (el_own ho).at hi
  obtain ⟨⟨c2, c3⟩, _, _⟩ := (el_own ho).at hj
  rw [getD_at] at c0 c1 c2 c3
  have HB : Hid _ := by_lt (at' l i) (at' l j)
  generalize hv : byA (at' l i) (at' l j) = v at *
  generalize at' l i = s at *
  generalize at' l j = p at *
  obtain ⟨f, t⟩ := s
  obtain ⟨f', t'⟩ := p
  simp only at c0 c1 c2 c3
  have d0 := Draw.Later.cell c0
  have d1 := Draw.Later.cell c1
  have d2 := Draw.Later.cell c2
  have d3 := Draw.Later.cell c3
  have i0 : (0 : Int) ≤ (i : Int) := by omega
  have i1 : (i : Int) < (l.length : Int) := by omega
  have i2 : (0 : Int) ≤ (j : Int) := by omega
  have i3 : (j : Int) < (l.length : Int) := by omega
  go_enter Try.func80, Try.ntmps80
  go_wp2_with fail
  refine Draw.wp_region_later hmix (by kernel_rfl) ?_
  repeat (go_big_quiet_step ((go_at_call 50; exact Draw.later_of (bySoonestEq (a := (f, t)) (b := (f', t')) hv _))))
  refine wpQuiet_nil ?_
  intro _ hw'
  obtain ⟨⟨wq, hBq⟩, hw''⟩ := hw'
  subst hw''
  go_wp2_with fail
  go_ret
  exact ⟨Num.ret_bool (by rw [← HB.out]), hBq⟩

/-- How the row lies behind a change of places. -/
theorem own_sw {w : World} {B g c : Nat} {l : List Al} (ho : Own w B g c l) {i j : Nat} (hi : i < l.length) (hj : j < l.length) :
    Own ((((w.setCell ⟨g, i * 2, none⟩ (.int .i64 (at' l j).1)).setCell ⟨g, i * 2 + 1, none⟩ (.int .i64 (at' l j).2)).setCell ⟨g, j * 2, none⟩ (.int .i64 (at' l i).1)).setCell ⟨g, j * 2 + 1, none⟩ (.int .i64 (at' l i).2)) B g c (sw l i j) := by
  have h1 := ho.put i hi (at' l j).1 (at' l j).2
  exact h1.put j (by simpa using hj) (at' l i).1 (at' l i).2

set_option maxRecDepth 10000 in
set_option maxHeartbeats 4000000 in
theorem wSwap (B g c n : Nat) (l : List Al) (i j : Nat) (w : World) (hn : n = l.length) (ho : E.Own 26 w B (some ⟨g, 0, none⟩) c l) (hl : l.length ≤ 2097152) (hi : i < l.length) (hj : j < l.length) :
    Calls Try.prog 83 #[.slice (some ⟨g, 0, none⟩) n c, .int .i64 (i : Int), .int .i64 (j : Int)] w fun x w' => x = .returned (.tuple #[]) ∧ E.Own 26 w' B (some ⟨g, 0, none⟩) c (sw l i j) ∧ Draw.Kept g w w' := by
  subst hn
  have hmix := mix
  have o0 := el_own ho.drew
  have k0 : Draw.Kept g w w.drew := (Draw.Kept.refl g w).drew
  have keepW : ∀ (q : Nat) (d : Nat → Bool) (w' : World), (Draw.Kept g w w' ∧ Own w' B g c (if d 15 = true then sw l i j else if d 13 = true then l.set i (at' l j) else l)) → (q ≠ 13 ∧ q ≠ 15) → (Draw.Kept g w w' ∧ Own w' B g c (if (15 == q || d 15) = true then sw l i j else if (13 == q || d 13) = true then l.set i (at' l j) else l)) := by
    intro q d w' h hq
    have e1 : (15 == q) = false := by rw [beq_eq_false_iff_ne]; omega
    have e2 : (13 == q) = false := by rw [beq_eq_false_iff_ne]; omega
    rw [e1, e2, Bool.false_or, Bool.false_or]
    exact h
  have i0 : (0 : Int) ≤ (i : Int) := by omega
  have i1 : (i : Int) < (l.length : Int) := by omega
  have i2 : (0 : Int) ≤ (j : Int) := by omega
  have i3 : (j : Int) < (l.length : Int) := by omega
  clear ho
  go_enter Try.func83, Try.ntmps83
  go_wp2_with fail
  refine RegJ.wp_region_J (W := (fun d w' => Draw.Kept g w w' ∧ Own w' B g c (if d 15 = true then sw l i j else if d 13 = true then l.set i (at' l j) else l))) (RegJ.Val [some (.slice (some ⟨g, 0, none⟩) l.length c), some (.int .i64 (i : Int)), some (.slice (some ⟨g, 0, none⟩) l.length c), some (.int .i64 (j : Int)), some (.slice (some ⟨g, 0, none⟩) l.length c), some (.int .i64 (j : Int)), some (.pointer (some ⟨g, j * 2, none⟩)), some (.agg #[.int .i64 (at' l j).1, .int .i64 (at' l j).2]), some (.slice (some ⟨g, 0, none⟩) l.length c), some (.int .i64 (i : Int)), some (.pointer (some ⟨g, i * 2, none⟩)), some (.agg #[.int .i64 (at' l i).1, .int .i64 (at' l i).2]), some (.pointer (some ⟨g, i * 2, none⟩)), none, some (.pointer (some ⟨g, j * 2, none⟩)), none]) [some 6, some 7, some 8, some 9, some 10, some 11, some 12, some 13, some 14, some 15, some 16, some 17, some 18, none, some 19, none] (F := ?_) (is := [0, 1, 2, 3, 4, 5, 6, 7, 8, 9, 10, 11, 12, 13, 14, 15]) hmix (by kernel_rfl) (by kernel_rfl) (by kernel_rfl) (by kernel_rfl) (fun x => ?_) (⟨k0, o0⟩) ?_ (fun dR xR wR hWR hdR hJR => ?_)
  rotate_left 1
  focus (simp only [RegJ.lay, Act.put, Nat.reduceAdd, Nat.zero_add, List.getElem_toArray, List.getElem_cons_zero, List.getElem_cons_succ, List.setIfInBounds_toArray, List.set_cons_zero, List.set_cons_succ]; rfl)
  focus
    refine RegJ.Steps.cons (RegJ.StepAt.mk rfl (fun d x w1 hW1 hJ1 hx1 K hK => ?_)) (RegJ.Steps.cons (RegJ.StepAt.mk rfl (fun d x w1 hW1 hJ1 hx1 K hK => ?_)) (RegJ.Steps.cons (RegJ.StepAt.mk rfl (fun d x w1 hW1 hJ1 hx1 K hK => ?_)) (RegJ.Steps.cons (RegJ.StepAt.mk rfl (fun d x w1 hW1 hJ1 hx1 K hK => ?_)) (RegJ.Steps.cons (RegJ.StepAt.mk rfl (fun d x w1 hW1 hJ1 hx1 K hK => ?_)) (RegJ.Steps.cons (RegJ.StepAt.mk rfl (fun d x w1 hW1 hJ1 hx1 K hK => ?_)) (RegJ.Steps.cons (RegJ.StepAt.mk rfl (fun d x w1 hW1 hJ1 hx1 K hK => ?_)) (RegJ.Steps.cons (RegJ.StepAt.mk rfl (fun d x w1 hW1 hJ1 hx1 K hK => ?_)) (RegJ.Steps.cons (RegJ.StepAt.mk rfl (fun d x w1 hW1 hJ1 hx1 K hK => ?_)) (RegJ.Steps.cons (RegJ.StepAt.mk rfl (fun d x w1 hW1 hJ1 hx1 K hK => ?_)) (RegJ.Steps.cons (RegJ.StepAt.mk rfl (fun d x w1 hW1 hJ1 hx1 K hK => ?_)) (RegJ.Steps.cons (RegJ.StepAt.mk rfl (fun d x w1 hW1 hJ1 hx1 K hK => ?_)) (RegJ.Steps.cons (RegJ.StepAt.mk rfl (fun d x w1 hW1 hJ1 hx1 K hK => ?_)) (RegJ.Steps.cons (RegJ.StepAt.mk rfl (fun d x w1 hW1 hJ1 hx1 K hK => ?_)) (RegJ.Steps.cons (RegJ.StepAt.mk rfl (fun d x w1 hW1 hJ1 hx1 K hK => ?_)) (RegJ.Steps.cons (RegJ.StepAt.mk rfl (fun d x w1 hW1 hJ1 hx1 K hK => ?_)) (RegJ.Steps.nil))))))))))))))))
    focus (simp only [List.getElem_toArray, List.getElem_cons_succ, List.getElem_cons_zero] at hK; go_simp; exact hK.out _ _ (keepW 0 d _ hW1 (by decide)) RegJ.Val.keep (RegJ.Val.this (Or.inl rfl)))
    focus (simp only [List.getElem_toArray, List.getElem_cons_succ, List.getElem_cons_zero] at hK; go_simp; exact hK.out _ _ (keepW 1 d _ hW1 (by decide)) RegJ.Val.keep (RegJ.Val.this (Or.inl rfl)))
    focus (simp only [List.getElem_toArray, List.getElem_cons_succ, List.getElem_cons_zero] at hK; go_simp; exact hK.out _ _ (keepW 2 d _ hW1 (by decide)) RegJ.Val.keep (RegJ.Val.this (Or.inl rfl)))
    focus (simp only [List.getElem_toArray, List.getElem_cons_succ, List.getElem_cons_zero] at hK; go_simp; exact hK.out _ _ (keepW 3 d _ hW1 (by decide)) RegJ.Val.keep (RegJ.Val.this (Or.inl rfl)))
    focus (simp only [List.getElem_toArray, List.getElem_cons_succ, List.getElem_cons_zero] at hK; go_simp; exact hK.out _ _ (keepW 4 d _ hW1 (by decide)) RegJ.Val.keep (RegJ.Val.this (Or.inl rfl)))
    focus (simp only [List.getElem_toArray, List.getElem_cons_succ, List.getElem_cons_zero] at hK; go_simp; exact hK.out _ _ (keepW 5 d _ hW1 (by decide)) RegJ.Val.keep (RegJ.Val.this (Or.inl rfl)))
    focus (simp only [List.getElem_toArray, List.getElem_cons_succ, List.getElem_cons_zero] at hK; have j4 : x 4 = _ := (hJ1.out 4 (by kernel_rfl)).2 _ rfl; rw [j4] at hK; have j5 : x 5 = _ := (hJ1.out 5 (by kernel_rfl)).2 _ rfl; rw [j5] at hK; go_simp; exact hK.out _ _ (keepW 6 d _ hW1 (by decide)) RegJ.Val.keep (RegJ.Val.this (Or.inl rfl)))
    focus (simp only [List.getElem_toArray, List.getElem_cons_succ, List.getElem_cons_zero] at hK; have hw := hW1; rw [if_neg (by rw [(hx1.out 15 (.inr (by kernel_rfl))).1]; decide), if_neg (by rw [(hx1.out 13 (.inr (by kernel_rfl))).1]; decide)] at hw; obtain ⟨⟨c0, c1⟩, _, _⟩ := hw.2.at hj; rw [getD_at] at c0 c1; have j6 : x 6 = _ := (hJ1.out 6 (by kernel_rfl)).2 _ rfl; rw [j6] at hK; go_simp; exact hK.out _ _ (keepW 7 d _ hW1 (by decide)) RegJ.Val.keep (RegJ.Val.this (Or.inl rfl)))
    focus (simp only [List.getElem_toArray, List.getElem_cons_succ, List.getElem_cons_zero] at hK; go_simp; exact hK.out _ _ (keepW 8 d _ hW1 (by decide)) RegJ.Val.keep (RegJ.Val.this (Or.inl rfl)))
    focus (simp only [List.getElem_toArray, List.getElem_cons_succ, List.getElem_cons_zero] at hK; go_simp; exact hK.out _ _ (keepW 9 d _ hW1 (by decide)) RegJ.Val.keep (RegJ.Val.this (Or.inl rfl)))
    focus (simp only [List.getElem_toArray, List.getElem_cons_succ, List.getElem_cons_zero] at hK; have j8 : x 8 = _ := (hJ1.out 8 (by kernel_rfl)).2 _ rfl; rw [j8] at hK; have j9 : x 9 = _ := (hJ1.out 9 (by kernel_rfl)).2 _ rfl; rw [j9] at hK; go_simp; exact hK.out _ _ (keepW 10 d _ hW1 (by decide)) RegJ.Val.keep (RegJ.Val.this (Or.inl rfl)))
    focus (simp only [List.getElem_toArray, List.getElem_cons_succ, List.getElem_cons_zero] at hK; have hw := hW1; rw [if_neg (by rw [(hx1.out 15 (.inr (by kernel_rfl))).1]; decide), if_neg (by rw [(hx1.out 13 (.inr (by kernel_rfl))).1]; decide)] at hw; obtain ⟨⟨c0, c1⟩, _, _⟩ := hw.2.at hi; rw [getD_at] at c0 c1; have j10 : x 10 = _ := (hJ1.out 10 (by kernel_rfl)).2 _ rfl; rw [j10] at hK; go_simp; exact hK.out _ _ (keepW 11 d _ hW1 (by decide)) RegJ.Val.keep (RegJ.Val.this (Or.inl rfl)))
    focus (simp only [List.getElem_toArray, List.getElem_cons_succ, List.getElem_cons_zero] at hK; have j0 : x 0 = _ := (hJ1.out 0 (by kernel_rfl)).2 _ rfl; rw [j0] at hK; have j1 : x 1 = _ := (hJ1.out 1 (by kernel_rfl)).2 _ rfl; rw [j1] at hK; go_simp; exact hK.out _ _ (keepW 12 d _ hW1 (by decide)) RegJ.Val.keep (RegJ.Val.this (Or.inl rfl)))
    focus (simp only [List.getElem_toArray, List.getElem_cons_succ, List.getElem_cons_zero] at hK; have hw := hW1; rw [if_neg (by rw [(hx1.out 15 (.inr (by kernel_rfl))).1]; decide), if_neg (by rw [(hx1.out 13 (.inl rfl)).1]; decide)] at hw; obtain ⟨⟨c0, c1⟩, f0, f1⟩ := hw.2.at hi; rw [getD_at] at c0 c1; have j12 : x 12 = _ := (hJ1.out 12 (by kernel_rfl)).2 _ rfl; rw [j12] at hK; have j7 : x 7 = _ := (hJ1.out 7 (by kernel_rfl)).2 _ rfl; rw [j7] at hK; have o2 : Hid _ := hw.2.put i hi (at' l j).1 (at' l j).2; have k2 : Hid _ := setCell2_kept hw.1 (i * 2) (i * 2 + 1) (.int .i64 (at' l j).1) (.int .i64 (at' l j).2); have N15 : Hid _ := (hx1.out 15 (.inr (by kernel_rfl))).1; clear hw; go_simp; refine hK.out undef _ ⟨k2.out, ?_⟩ RegJ.Val.keep (RegJ.Val.this (Or.inr rfl)); rw [if_neg (by simp [N15.out]), if_pos (by simp)]; exact o2.out)
    focus (simp only [List.getElem_toArray, List.getElem_cons_succ, List.getElem_cons_zero] at hK; have j2 : x 2 = _ := (hJ1.out 2 (by kernel_rfl)).2 _ rfl; rw [j2] at hK; have j3 : x 3 = _ := (hJ1.out 3 (by kernel_rfl)).2 _ rfl; rw [j3] at hK; go_simp; exact hK.out _ _ (keepW 14 d _ hW1 (by decide)) RegJ.Val.keep (RegJ.Val.this (Or.inl rfl)))
    focus (simp only [List.getElem_toArray, List.getElem_cons_succ, List.getElem_cons_zero] at hK; have hw := hW1; rw [if_neg (by rw [(hx1.out 15 (.inl rfl)).1]; decide), if_pos (hJ1.out 13 (by kernel_rfl)).1] at hw; obtain ⟨⟨c0, c1⟩, f0, f1⟩ := hw.2.at (k := j) (by simpa using hj); rw [getD_at] at c0 c1; have j14 : x 14 = _ := (hJ1.out 14 (by kernel_rfl)).2 _ rfl; rw [j14] at hK; have j11 : x 11 = _ := (hJ1.out 11 (by kernel_rfl)).2 _ rfl; rw [j11] at hK; have o2 : Hid _ := hw.2.put j (by simpa using hj) (at' l i).1 (at' l i).2; have k2 : Hid _ := setCell2_kept hw.1 (j * 2) (j * 2 + 1) (.int .i64 (at' l i).1) (.int .i64 (at' l i).2); clear hw; go_simp; refine hK.out undef _ ⟨k2.out, ?_⟩ RegJ.Val.keep (RegJ.Val.this (Or.inr rfl)); rw [if_pos (by simp)]; exact o2.out)
  try dsimp only at hWR
  rw [if_pos (hdR 15 (by decide))] at hWR
  go_wp2_with fail
  go_end0
  exact ⟨rfl, hWR.2, hWR.1⟩

end Go.Proofs.Ytdipdenekhffcaa.Alm
