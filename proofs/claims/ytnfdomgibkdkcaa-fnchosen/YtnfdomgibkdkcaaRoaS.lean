/- The library's Sort over a row of at most twelve numbers (chapter 10): what comes is a permutation that rises. -/
import Derived.Test.YtnfdomgibkdkcaaRoaB
import Derived.Test.YtnfdomgibkdkcaaRegV
import Derived.Deep.Cut
namespace Go.Proofs.Ytnfdomgibkdkcaa.Roa
open Go.RowKit RowG
set_option linter.unusedVariables false
set_option linter.unusedSimpArgs false

theorem valsI (l : List Int) : EI.vals l = l.map (Value.int .i64) := by
  induction l with
  | nil => rfl
  | cons x l ih => rw [El.vals_cons, ih]; rfl
theorem OwnI.at {w : World} {B g c : Nat} {l : List Int} (h : OwnI w B g c l) {k : Nat} (hk : k < l.length) : w.cell? ⟨g, k, none⟩ = some (.int .i64 (l.getD k 0)) ∧ w.frozen? ⟨g, k, none⟩ = false := by
  refine ⟨(World.ownsRow.cellAt h k (by show k < l.length * 1; omega)).trans ?_, World.ownsRow.frozenAt h k⟩
  rw [valsI]
  simp [hk]
theorem OwnI.put {w : World} {B g c : Nat} {l : List Int} (h : OwnI w B g c l) (k : Nat) (x : Int) : OwnI (w.setCell ⟨g, k, none⟩ (.int .i64 x)) B g c (l.set k x) := by
  have h1 := (World.ownsRow.stored h k (.int .i64 x)).1
  unfold OwnI El.Own
  rw [List.length_set, valsI, List.map_set, ← valsI]
  exact h1
theorem OwnI.later {w w' : World} {B g c : Nat} {l : List Int} (h : OwnI w B g c l) (hb : Below w.heap.size w w') : OwnI w' B g c l := El.Own.later (E := EI) h hb
theorem OwnI.lt {w : World} {B g c : Nat} {l : List Int} (h : OwnI w B g c l) : B ≤ g ∧ g < w.heap.size := El.Own.lt (E := EI) h _ rfl
theorem OwnI.other {w w' : World} {k B g c : Nat} {l : List Int} (h : OwnI w B g c l) (q : Draw.Kept k w w') (hc : g ≠ k) : OwnI w' B g c l := El.Own.kept (E := EI) h q (fun x hx => by cases hx; exact hc)

theorem ownI_drew {w : World} {B g c : Nat} {l : List Int} (h : OwnI w B g c l) : OwnI w.drew B g c l := h

theorem isNaN (n : Int) (w : World) : Calls Try.prog 67 #[.int .i64 n] w fun x w' => x = .returned (.bool false) ∧ w = w' := by
  go_enter Try.func67, Try.ntmps67
  go_wp2_with fail
  go_ret
  exact ⟨Num.ret_bool (by simp), rfl⟩

set_option maxHeartbeats 1000000 in
theorem cmpLess (a b : Int) (w : World) : Calls Try.prog 57 #[.int .i64 a, .int .i64 b] w fun x w' => x = .returned (.bool (decide (a < b))) ∧ w = w' := by
  by_cases h : a < b
  all_goals
    go_enter Try.func57, Try.ntmps57
    go_wp2_with (go_at_call 67; refine (isNaN _ _).mono ?_; rintro x w' ⟨rfl, rfl⟩)
    go_ret
    exact ⟨Num.ret_bool (by simp [h]), rfl⟩
theorem cmpLessEq {a b : Int} {v : Bool} (h : decide (a < b) = v) (w : World) : Calls Try.prog 57 #[.int .i64 a, .int .i64 b] w fun x w' => x = .returned (.bool v) ∧ w = w' := by
  subst h
  exact cmpLess a b w

/-- One number on its way down into a sorted row: P and S are sorted, x is below S. -/
structure Way (L : List Int) (i j : Nat) (l P S R : List Int) (x : Int) : Prop where
  perm : l.Perm L
  eq : l = P ++ x :: (S ++ R)
  len : P.length = j
  all : P.length + S.length = i
  rise : (P ++ S).Pairwise (· ≤ ·)
  below : ∀ s ∈ S, x ≤ s
theorem Way.at {L l P S R : List Int} {i j : Nat} {x : Int} (h : Way L i j l P S R x) : l.getD j 0 = x := by
  rw [h.eq, ← h.len, List.getD_eq_getElem?_getD, List.getElem?_append_right (Nat.le_refl _)]
  simp
theorem Way.at1 {L l P S R : List Int} {i m : Nat} {x p : Int} (h : Way L i (m + 1) l (P ++ [p]) S R x) : l.getD m 0 = p := by
  have hl := h.len
  simp at hl
  rw [h.eq, List.getD_eq_getElem?_getD, List.append_assoc, List.getElem?_append_right (by omega)]
  simp [hl]
theorem Way.swap {L l P S R : List Int} {i m : Nat} {x p : Int} (h : Way L i (m + 1) l (P ++ [p]) S R x) (hx : x < p) : Way L i m ((l.set (m + 1) p).set m x) P (p :: S) R x := by
  have hl := h.len
  simp at hl
  have hP := h.rise
  have e1 : (l.set (m + 1) p).set m x = P ++ x :: (p :: S ++ R) := by
    rw [h.eq, List.append_assoc, List.set_append_right _ _ (by omega), List.set_append_right _ _ (by omega)]
    have e2 : m + 1 - P.length = 1 := by omega
    have e3 : m - P.length = 0 := by omega
    rw [e2, e3]
    simp
  refine ⟨?_, e1, hl, ?_, ?_, ?_⟩
  · rw [e1]
    refine List.Perm.trans ?_ h.perm
    rw [h.eq]
    simp only [List.append_assoc, List.cons_append, List.nil_append]
    exact (List.Perm.swap p x _).append_left P
  · have := h.all; simp at this ⊢; omega
  · simpa using hP
  · intro s hs
    rcases List.mem_cons.1 hs with q | q
    · omega
    · exact h.below s q
theorem Way.done0 {L l S R : List Int} {i : Nat} {x : Int} (h : Way L i 0 l [] S R x) : (l.take (i + 1)).Pairwise (· ≤ ·) := by
  have hi := h.all
  simp at hi
  have e : l.take (i + 1) = x :: S := by rw [h.eq, ← hi]; simp
  rw [e]
  refine List.pairwise_cons.2 ⟨fun s hs => h.below s hs, ?_⟩
  have := h.rise
  simpa using this
theorem Way.done {L l P S R : List Int} {i m : Nat} {x p : Int} (h : Way L i (m + 1) l (P ++ [p]) S R x) (hx : ¬ x < p) : (l.take (i + 1)).Pairwise (· ≤ ·) := by
  have hi := h.all
  have e : l.take (i + 1) = (P ++ [p]) ++ x :: S := by
    rw [h.eq, ← hi, show (P ++ [p] ++ x :: (S ++ R)) = ((P ++ [p]) ++ x :: S) ++ R by simp]
    rw [List.take_append_of_le_length (by simp; omega)]
    apply List.take_of_length_le
    simp
    omega
  rw [e]
  have hP := List.pairwise_append.1 h.rise
  refine List.pairwise_append.2 ⟨hP.1, List.pairwise_cons.2 ⟨fun s hs => h.below s hs, hP.2.1⟩, ?_⟩
  intro a ha b hb
  have hap : a ≤ p := by
    have hq := List.pairwise_append.1 hP.1
    rcases List.mem_append.1 ha with q | q
    · exact hq.2.2 a q p (by simp)
    · simp at q; omega
  rcases List.mem_cons.1 hb with q | q
  · omega
  · exact hP.2.2 a ha b q
theorem Way.start {L l : List Int} {i : Nat} (hp : l.Perm L) (hi : i < l.length) (hs : (l.take i).Pairwise (· ≤ ·)) : Way L i i l (l.take i) [] (l.drop (i + 1)) (l.getD i 0) := by
  refine ⟨hp, ?_, by rw [List.length_take]; omega, by simp; omega, by simpa using hs, fun s hs => by simp at hs⟩
  have e : l.getD i 0 = l[i] := by rw [List.getD_eq_getElem?_getD, List.getElem?_eq_getElem hi]; rfl
  rw [List.nil_append, e, ← List.drop_eq_getElem_cons hi, List.take_append_drop]

set_option maxRecDepth 10000 in
set_option maxHeartbeats 4000000 in
theorem insertion (B g c n : Nat) (L : List Int) (w : World) (hn : n = L.length) (ho : OwnI w B g c L) (hl : L.length ≤ 12) :
    Calls Try.prog 51 #[.slice (some ⟨g, 0, none⟩) n c, .int .i64 0, .int .i64 (n : Int)] w fun x w' => x = .returned (.tuple #[]) ∧ (∃ l, l.Perm L ∧ l.Pairwise (· ≤ ·) ∧ OwnI w' B g c l) ∧ Draw.Kept g w w' := by
  subst hn
  have hmix := mix
  go_enter Try.func51, Try.ntmps51
  go_wp2_with fail
  go_loopw [6] (fun iv wr => ∃ (i : Nat) (l : List Int), iv = .int .i64 (i : Int) ∧ 1 ≤ i ∧ i ≤ L.length + 1 ∧ Hid (l.Perm L) ∧ Hid ((l.take i).Pairwise (· ≤ ·)) ∧ OwnI wr B g c l ∧ Draw.Kept g w wr) (fun iv _ => L.length + 1 - (intOf iv).toNat)
  case atStart =>
    refine ⟨1, L, rfl, Nat.le_refl _, by omega, List.Perm.refl _, ?_, ho, Draw.Kept.refl _ _⟩
    cases L with
    | nil => exact List.Pairwise.nil
    | cons a t => show List.Pairwise _ _; simp
  case round =>
    clear ho
    obtain ⟨i, l, rfl, i1, i2, hp, hs, ho, hk⟩ := hrel
    have hll : l.length = L.length := hp.out.length_eq
    by_cases hlt : i < L.length
    · have i3 : (i : Int) < (L.length : Int) := by omega
      have hw := Way.start hp.out (by omega) hs.out
      go_wp2_with fail
      go_loopw [7] (fun jv wr => ∃ (j : Nat) (l P S R : List Int) (xe : Int), jv = .int .i64 (j : Int) ∧ Hid (Way L i j l P S R xe) ∧ OwnI wr B g c l ∧ Draw.Kept g w wr) (fun jv _ => (intOf jv).toNat)
      case atStart => exact ⟨i, l, _, _, _, _, rfl, hw, ho, hk⟩
      case round =>
        clear ho hk hw hp hs hll
        obtain ⟨j, l, P, S, R, xe, rfl, hw, ho, hk⟩ := hrel
        have hll : l.length = L.length := hw.out.perm.length_eq
        rcases List.eq_nil_or_concat P with hP | ⟨P', p, hP⟩
        · subst hP
          have hj : j = 0 := hw.out.len.symm
          subst hj
          have HD : Hid ((l.take (i + 1)).Pairwise (· ≤ ·)) := hw.out.done0
          have HP : Hid (l.Perm L) := hw.out.perm
          clear hw
          go_wp2_with fail
          refine Draw.wp_region_later hmix (by kernel_rfl) ?_
          repeat (go_big_quiet_step (fail))
          refine wpQuiet_nil ?_
          intro _ hw'
          obtain ⟨⟨wq, hBq⟩, hw''⟩ := hw'
          subst hw''
          have oq := ho.later hBq
          have kq := hk.trans (Draw.Kept.ofBelow (c := g) hBq (Nat.le_refl _))
          clear ho hk hBq
          go_wp2_with fail
          go_roundw
          case rel => exact ⟨i + 1, l, by go_num, by omega, by omega, HP, HD, oq, kq⟩
          case measure => simp [intOf]; omega
        · rw [List.concat_eq_append] at hP
          subst hP
          obtain ⟨m, rfl⟩ : ∃ m, j = m + 1 := ⟨P'.length, by have := hw.out.len; simp at this; omega⟩
          have hml : m + 1 < L.length := by have h1 := hw.out.len; have h2 := hw.out.all; omega
          have hm0 : m < l.length := by omega
          have hm1 : m + 1 < l.length := by omega
          have hx0 := hw.out.at
          have hp0 := hw.out.at1
          have i4 : (0 : Int) < (m : Int) + 1 := by omega
          have i5 : (0 : Int) ≤ (m : Int) := by omega
          have i6 : (m : Int) + 1 < (L.length : Int) := by omega
          have i7 : (m : Int) < (L.length : Int) := by omega
          have c0 := (ho.at hm0).1
          have c1 := (ho.at hm1).1
          rw [hp0] at c0
          rw [hx0] at c1
          have d0 := Draw.Later.cell c0
          have d1 := Draw.Later.cell c1
          have HX0 : Hid _ := hx0
          have HP0 : Hid _ := hp0
          clear hx0 hp0
          cases hc : decide (xe < p)
          · have HD : Hid ((l.take (i + 1)).Pairwise (· ≤ ·)) := hw.out.done (of_decide_eq_false hc)
            have HP : Hid (l.Perm L) := hw.out.perm
            clear hw HX0 HP0
            go_wp2_with fail
            refine Draw.wp_region_later hmix (by kernel_rfl) ?_
            repeat (go_big_quiet_step ((go_at_call 57; exact Draw.later_same (cmpLessEq hc _))))
            refine wpQuiet_nil ?_
            intro _ hw'
            obtain ⟨⟨wq, hBq⟩, hw''⟩ := hw'
            subst hw''
            have oq := ho.later hBq
            have kq := hk.trans (Draw.Kept.ofBelow (c := g) hBq (Nat.le_refl _))
            clear ho hk hBq c0 c1 d0 d1
            go_wp2_with fail
            go_roundw
            case rel => exact ⟨i + 1, l, by go_num, by omega, by omega, HP, HD, oq, kq⟩
            case measure => simp [intOf]; omega
          · have HW : Hid (Way L i m ((l.set (m + 1) p).set m xe) P' (p :: S) R xe) := hw.out.swap (of_decide_eq_true hc)
            clear hw
            go_wp2_with fail
            refine Draw.wp_region_later hmix (by kernel_rfl) ?_
            repeat (go_big_quiet_step ((go_at_call 57; exact Draw.later_same (cmpLessEq hc _))))
            refine wpQuiet_nil ?_
            intro _ hw'
            obtain ⟨⟨wq, hBq⟩, hw''⟩ := hw'
            subst hw''
            have o0 := ho.later hBq
            have k0 := hk.trans (Draw.Kept.ofBelow (c := g) hBq (Nat.le_refl _))
            clear ho hk hBq c0 c1 d0 d1
            go_upto_region 6 with (fail)
            have hx0 := HX0.out
            have hp0 := HP0.out
            have HWM : Hid (IntKind.i64.wrap (m : Int) = (m : Int)) := by show _ = _; rw [IntKind.wrap_i64]; omega
            have k0 := k0.drew
            have o0 := ownI_drew o0
            have keepW : ∀ (q : Nat) (d : Nat → Bool) (w' : World), (Draw.Kept g w w' ∧ OwnI w' B g c (if d 17 = true then (l.set (m + 1) p).set m xe else if d 15 = true then l.set (m + 1) p else l)) → (q ≠ 15 ∧ q ≠ 17) → (Draw.Kept g w w' ∧ OwnI w' B g c (if (17 == q || d 17) = true then (l.set (m + 1) p).set m xe else if (15 == q || d 15) = true then l.set (m + 1) p else l)) := by
              intro q d w' h hq
              have e1 : (17 == q) = false := by rw [beq_eq_false_iff_ne]; omega
              have e2 : (15 == q) = false := by rw [beq_eq_false_iff_ne]; omega
              rw [e1, e2, Bool.false_or, Bool.false_or]
              exact h
            refine RegJ.wp_region_J (W := (fun d w' => Draw.Kept g w w' ∧ OwnI w' B g c (if d 17 = true then (l.set (m + 1) p).set m xe else if d 15 = true then l.set (m + 1) p else l))) (RegJ.Val [some (.slice (some ⟨g, 0, none⟩) L.length c), some (.int .i64 ((m + 1 : Nat) : Int)), some (.slice (some ⟨g, 0, none⟩) L.length c), some (.int .i64 ((m + 1 : Nat) : Int)), some (.int .i64 (m : Int)), some (.slice (some ⟨g, 0, none⟩) L.length c), some (.int .i64 ((m + 1 : Nat) : Int)), some (.int .i64 (m : Int)), some (.pointer (some ⟨g, m, none⟩)), some (.int .i64 p), some (.slice (some ⟨g, 0, none⟩) L.length c), some (.int .i64 ((m + 1 : Nat) : Int)), some (.pointer (some ⟨g, m + 1, none⟩)), some (.int .i64 xe), some (.pointer (some ⟨g, m + 1, none⟩)), none, some (.pointer (some ⟨g, m, none⟩)), none]) [some 33, some 34, some 35, some 36, some 37, some 38, some 39, some 40, some 41, some 42, some 43, some 44, some 45, some 46, some 47, none, some 48, none] (F := ?_) (is := [0, 1, 2, 3, 4, 5, 6, 7, 8, 9, 10, 11, 12, 13, 14, 15, 16, 17]) hmix (by kernel_rfl) (by kernel_rfl) (by kernel_rfl) (by kernel_rfl) (fun x => ?_) (⟨k0, o0⟩) ?_ (fun dR xR wR hWR hdR hJR => ?_)
            rotate_left 1
            focus (simp only [RegJ.lay, Act.put, Nat.reduceAdd, Nat.zero_add, List.getElem_toArray, List.getElem_cons_zero, List.getElem_cons_succ, List.setIfInBounds_toArray, List.set_cons_zero, List.set_cons_succ]; rfl)
            focus
              refine RegJ.Steps.cons (RegJ.StepAt.mk rfl (fun d x w1 hW1 hJ1 hx1 K hK => ?_)) (RegJ.Steps.cons (RegJ.StepAt.mk rfl (fun d x w1 hW1 hJ1 hx1 K hK => ?_)) (RegJ.Steps.cons (RegJ.StepAt.mk rfl (fun d x w1 hW1 hJ1 hx1 K hK => ?_)) (RegJ.Steps.cons (RegJ.StepAt.mk rfl (fun d x w1 hW1 hJ1 hx1 K hK => ?_)) (RegJ.Steps.cons (RegJ.StepAt.mk rfl (fun d x w1 hW1 hJ1 hx1 K hK => ?_)) (RegJ.Steps.cons (RegJ.StepAt.mk rfl (fun d x w1 hW1 hJ1 hx1 K hK => ?_)) (RegJ.Steps.cons (RegJ.StepAt.mk rfl (fun d x w1 hW1 hJ1 hx1 K hK => ?_)) (RegJ.Steps.cons (RegJ.StepAt.mk rfl (fun d x w1 hW1 hJ1 hx1 K hK => ?_)) (RegJ.Steps.cons (RegJ.StepAt.mk rfl (fun d x w1 hW1 hJ1 hx1 K hK => ?_)) (RegJ.Steps.cons (RegJ.StepAt.mk rfl (fun d x w1 hW1 hJ1 hx1 K hK => ?_)) (RegJ.Steps.cons (RegJ.StepAt.mk rfl (fun d x w1 hW1 hJ1 hx1 K hK => ?_)) (RegJ.Steps.cons (RegJ.StepAt.mk rfl (fun d x w1 hW1 hJ1 hx1 K hK => ?_)) (RegJ.Steps.cons (RegJ.StepAt.mk rfl (fun d x w1 hW1 hJ1 hx1 K hK => ?_)) (RegJ.Steps.cons (RegJ.StepAt.mk rfl (fun d x w1 hW1 hJ1 hx1 K hK => ?_)) (RegJ.Steps.cons (RegJ.StepAt.mk rfl (fun d x w1 hW1 hJ1 hx1 K hK => ?_)) (RegJ.Steps.cons (RegJ.StepAt.mk rfl (fun d x w1 hW1 hJ1 hx1 K hK => ?_)) (RegJ.Steps.cons (RegJ.StepAt.mk rfl (fun d x w1 hW1 hJ1 hx1 K hK => ?_)) (RegJ.Steps.cons (RegJ.StepAt.mk rfl (fun d x w1 hW1 hJ1 hx1 K hK => ?_)) (RegJ.Steps.nil))))))))))))))))))
              focus (simp only [List.getElem_toArray, List.getElem_cons_succ, List.getElem_cons_zero] at hK; go_simp; exact hK.out _ _ (keepW 0 d _ hW1 (by decide)) RegJ.Val.keep (RegJ.Val.this (Or.inl rfl)))
              focus (simp only [List.getElem_toArray, List.getElem_cons_succ, List.getElem_cons_zero] at hK; go_simp; exact hK.out _ _ (keepW 1 d _ hW1 (by decide)) RegJ.Val.keep (RegJ.Val.this (Or.inl rfl)))
              focus (simp only [List.getElem_toArray, List.getElem_cons_succ, List.getElem_cons_zero] at hK; go_simp; exact hK.out _ _ (keepW 2 d _ hW1 (by decide)) RegJ.Val.keep (RegJ.Val.this (Or.inl rfl)))
              focus (simp only [List.getElem_toArray, List.getElem_cons_succ, List.getElem_cons_zero] at hK; go_simp; exact hK.out _ _ (keepW 3 d _ hW1 (by decide)) RegJ.Val.keep (RegJ.Val.this (Or.inl rfl)))
              focus (simp only [List.getElem_toArray, List.getElem_cons_succ, List.getElem_cons_zero] at hK; have j3 : x 3 = _ := (hJ1.out 3 (by kernel_rfl)).2 _ rfl; rw [j3] at hK; have hwm := HWM.out; go_simp; exact hK.out _ _ (keepW 4 d _ hW1 (by decide)) RegJ.Val.keep (RegJ.Val.this (Or.inl rfl)))
              focus (simp only [List.getElem_toArray, List.getElem_cons_succ, List.getElem_cons_zero] at hK; go_simp; exact hK.out _ _ (keepW 5 d _ hW1 (by decide)) RegJ.Val.keep (RegJ.Val.this (Or.inl rfl)))
              focus (simp only [List.getElem_toArray, List.getElem_cons_succ, List.getElem_cons_zero] at hK; go_simp; exact hK.out _ _ (keepW 6 d _ hW1 (by decide)) RegJ.Val.keep (RegJ.Val.this (Or.inl rfl)))
              focus (simp only [List.getElem_toArray, List.getElem_cons_succ, List.getElem_cons_zero] at hK; have j6 : x 6 = _ := (hJ1.out 6 (by kernel_rfl)).2 _ rfl; rw [j6] at hK; have hwm := HWM.out; go_simp; exact hK.out _ _ (keepW 7 d _ hW1 (by decide)) RegJ.Val.keep (RegJ.Val.this (Or.inl rfl)))
              focus (simp only [List.getElem_toArray, List.getElem_cons_succ, List.getElem_cons_zero] at hK; have j5 : x 5 = _ := (hJ1.out 5 (by kernel_rfl)).2 _ rfl; rw [j5] at hK; have j7 : x 7 = _ := (hJ1.out 7 (by kernel_rfl)).2 _ rfl; rw [j7] at hK; go_simp; exact hK.out _ _ (keepW 8 d _ hW1 (by decide)) RegJ.Val.keep (RegJ.Val.this (Or.inl rfl)))
              focus (simp only [List.getElem_toArray, List.getElem_cons_succ, List.getElem_cons_zero] at hK; have hw := hW1; rw [if_neg (by rw [(hx1.out 17 (.inr (by kernel_rfl))).1]; decide), if_neg (by rw [(hx1.out 15 (.inr (by kernel_rfl))).1]; decide)] at hw; have c0 := (hw.2.at hm0).1; rw [hp0] at c0; have j8 : x 8 = _ := (hJ1.out 8 (by kernel_rfl)).2 _ rfl; rw [j8] at hK; go_simp; exact hK.out _ _ (keepW 9 d _ hW1 (by decide)) RegJ.Val.keep (RegJ.Val.this (Or.inl rfl)))
              focus (simp only [List.getElem_toArray, List.getElem_cons_succ, List.getElem_cons_zero] at hK; go_simp; exact hK.out _ _ (keepW 10 d _ hW1 (by decide)) RegJ.Val.keep (RegJ.Val.this (Or.inl rfl)))
              focus (simp only [List.getElem_toArray, List.getElem_cons_succ, List.getElem_cons_zero] at hK; go_simp; exact hK.out _ _ (keepW 11 d _ hW1 (by decide)) RegJ.Val.keep (RegJ.Val.this (Or.inl rfl)))
              focus (simp only [List.getElem_toArray, List.getElem_cons_succ, List.getElem_cons_zero] at hK; have j10 : x 10 = _ := (hJ1.out 10 (by kernel_rfl)).2 _ rfl; rw [j10] at hK; have j11 : x 11 = _ := (hJ1.out 11 (by kernel_rfl)).2 _ rfl; rw [j11] at hK; go_simp; exact hK.out _ _ (keepW 12 d _ hW1 (by decide)) RegJ.Val.keep (RegJ.Val.this (Or.inl rfl)))
              focus (simp only [List.getElem_toArray, List.getElem_cons_succ, List.getElem_cons_zero] at hK; have hw := hW1; rw [if_neg (by rw [(hx1.out 17 (.inr (by kernel_rfl))).1]; decide), if_neg (by rw [(hx1.out 15 (.inr (by kernel_rfl))).1]; decide)] at hw; have c0 := (hw.2.at hm1).1; rw [hx0] at c0; have j12 : x 12 = _ := (hJ1.out 12 (by kernel_rfl)).2 _ rfl; rw [j12] at hK; go_simp; exact hK.out _ _ (keepW 13 d _ hW1 (by decide)) RegJ.Val.keep (RegJ.Val.this (Or.inl rfl)))
              focus (simp only [List.getElem_toArray, List.getElem_cons_succ, List.getElem_cons_zero] at hK; have j0 : x 0 = _ := (hJ1.out 0 (by kernel_rfl)).2 _ rfl; rw [j0] at hK; have j1 : x 1 = _ := (hJ1.out 1 (by kernel_rfl)).2 _ rfl; rw [j1] at hK; go_simp; exact hK.out _ _ (keepW 14 d _ hW1 (by decide)) RegJ.Val.keep (RegJ.Val.this (Or.inl rfl)))
              focus (simp only [List.getElem_toArray, List.getElem_cons_succ, List.getElem_cons_zero] at hK; have hw := hW1; rw [if_neg (by rw [(hx1.out 17 (.inr (by kernel_rfl))).1]; decide), if_neg (by rw [(hx1.out 15 (.inl rfl)).1]; decide)] at hw; obtain ⟨c0, f0⟩ := hw.2.at hm1; have j14 : x 14 = _ := (hJ1.out 14 (by kernel_rfl)).2 _ rfl; rw [j14] at hK; have j9 : x 9 = _ := (hJ1.out 9 (by kernel_rfl)).2 _ rfl; rw [j9] at hK; have o2 : Hid _ := hw.2.put (m + 1) p; have k2 : Hid _ := hw.1.setCell (p := ⟨g, m + 1, none⟩) (.inl rfl) (.int .i64 p); have N17 : Hid _ := (hx1.out 17 (.inr (by kernel_rfl))).1; clear hw; go_simp; refine hK.out undef _ ⟨k2.out, ?_⟩ RegJ.Val.keep (RegJ.Val.this (Or.inr rfl)); rw [if_neg (by simp [N17.out]), if_pos (by simp)]; exact o2.out)
              focus (simp only [List.getElem_toArray, List.getElem_cons_succ, List.getElem_cons_zero] at hK; have j2 : x 2 = _ := (hJ1.out 2 (by kernel_rfl)).2 _ rfl; rw [j2] at hK; have j4 : x 4 = _ := (hJ1.out 4 (by kernel_rfl)).2 _ rfl; rw [j4] at hK; go_simp; exact hK.out _ _ (keepW 16 d _ hW1 (by decide)) RegJ.Val.keep (RegJ.Val.this (Or.inl rfl)))
              focus (simp only [List.getElem_toArray, List.getElem_cons_succ, List.getElem_cons_zero] at hK; have hw := hW1; rw [if_neg (by rw [(hx1.out 17 (.inl rfl)).1]; decide), if_pos (hJ1.out 15 (by kernel_rfl)).1] at hw; obtain ⟨c0, f0⟩ := hw.2.at (k := m) (by simpa using hm0); have j16 : x 16 = _ := (hJ1.out 16 (by kernel_rfl)).2 _ rfl; rw [j16] at hK; have j13 : x 13 = _ := (hJ1.out 13 (by kernel_rfl)).2 _ rfl; rw [j13] at hK; have o2 : Hid _ := hw.2.put m xe; have k2 : Hid _ := hw.1.setCell (p := ⟨g, m, none⟩) (.inl rfl) (.int .i64 xe); clear hw; go_simp; refine hK.out undef _ ⟨k2.out, ?_⟩ RegJ.Val.keep (RegJ.Val.this (Or.inr rfl)); rw [if_pos (by simp)]; exact o2.out)
            try dsimp only at hWR
            rw [if_pos (hdR 17 (by decide))] at hWR
            obtain ⟨kR, oR⟩ := hWR
            clear keepW o0 k0 hx0 hp0 HX0 HP0
            go_wp2_with fail
            go_roundw
            case rel => exact ⟨m, _, _, _, _, _, by go_num, HW, oR, kR⟩
            case measure => simp [intOf]
    · have i3 : ¬ (i : Int) < (L.length : Int) := by omega
      have HF : Hid (l.Perm L ∧ l.Pairwise (· ≤ ·)) := ⟨hp.out, by have := hs.out; rwa [List.take_of_length_le (by omega)] at this⟩
      clear hp hs
      go_wp2_with fail
      go_end0
      exact ⟨rfl, ⟨l, HF.out.1, HF.out.2, ho⟩, hk⟩

set_option maxRecDepth 10000 in
set_option maxHeartbeats 4000000 in
theorem len64 (n : Nat) (w : World) (hn : n ≤ 12) : Calls Try.prog 61 #[.int .u64 (n : Int)] w fun x w' => (∃ r : Int, x = .returned (.int .i64 r)) ∧ w = w' := by
  have h : n = 0 ∨ n = 1 ∨ n = 2 ∨ n = 3 ∨ n = 4 ∨ n = 5 ∨ n = 6 ∨ n = 7 ∨ n = 8 ∨ n = 9 ∨ n = 10 ∨ n = 11 ∨ n = 12 := by omega
  rcases h with rfl | rfl | rfl | rfl | rfl | rfl | rfl | rfl | rfl | rfl | rfl | rfl | rfl
  all_goals
    go_enter Try.func61, Try.ntmps61
    go_wp2_with fail
    go_ret
    exact ⟨⟨_, rfl⟩, rfl⟩

set_option maxHeartbeats 2000000 in
theorem bitsLen (n : Nat) (w : World) (hn : n ≤ 12) : Calls Try.prog 49 #[.int .u64 (n : Int)] w fun x w' => (∃ r : Int, x = .returned (.int .i64 r)) ∧ w = w' := by
  go_enter Try.func49, Try.ntmps49
  go_wp2_with fail
  refine (len64 n _ hn).mono ?_
  rintro x w1 ⟨⟨r, rfl⟩, rfl⟩
  go_wp2_with fail
  go_ret
  exact ⟨⟨r, rfl⟩, rfl⟩

set_option maxRecDepth 10000 in
set_option maxHeartbeats 4000000 in
theorem pdqsort (B g c n : Nat) (L : List Int) (lim : Int) (w : World) (hn : n = L.length) (ho : OwnI w B g c L) (hl : L.length ≤ 12) :
    Calls Try.prog 48 #[.slice (some ⟨g, 0, none⟩) n c, .int .i64 0, .int .i64 (n : Int), .int .i64 lim] w fun x w' => x = .returned (.tuple #[]) ∧ (∃ l, l.Perm L ∧ l.Pairwise (· ≤ ·) ∧ OwnI w' B g c l) ∧ Draw.Kept g w w' := by
  subst hn
  have i1 : (L.length : Int) ≤ 12 := by omega
  go_enter Try.func48, Try.ntmps48
  go_wp2_with fail
  go_loopw [1, 2] (fun av bv wr => av = .int .i64 0 ∧ bv = .int .i64 (L.length : Int) ∧ wr = w) (fun _ _ _ => 0)
  case atStart => exact ⟨rfl, rfl, rfl⟩
  case round =>
    obtain ⟨rfl, rfl, rfl⟩ := hrel
    go_wp2_with fail
    refine (insertion B g c _ L _ rfl ho hl).mono ?_
    rintro x w1 ⟨rfl, ⟨l, h1, h2, h3⟩, h4⟩
    go_wp2_with fail
    (try simp only [Exit.inBlock, Exit.then])
    refine bodyPost_ret (results_none rfl _ _ _) rfl ?_
    exact ⟨rfl, ⟨l, h1, h2, h3⟩, h4⟩

set_option maxRecDepth 10000 in
set_option maxHeartbeats 4000000 in
theorem sortInts (B g c n : Nat) (L : List Int) (w : World) (hn : n = L.length) (ho : OwnI w B g c L) (hl : L.length ≤ 12) :
    Calls Try.prog 43 #[.slice (some ⟨g, 0, none⟩) n c] w fun x w' => x = .returned (.tuple #[]) ∧ (∃ l, l.Perm L ∧ l.Pairwise (· ≤ ·) ∧ OwnI w' B g c l) ∧ Draw.Kept g w w' := by
  subst hn
  have i1 : (L.length : Int) ≤ 12 := by omega
  go_enter Try.func43, Try.ntmps43
  go_wp2_with fail
  refine (bitsLen L.length _ hl).mono ?_
  rintro x w1 ⟨⟨r, rfl⟩, rfl⟩
  go_wp2_with fail
  refine (pdqsort B g c _ L r _ rfl ho hl).mono ?_
  rintro x w2 ⟨rfl, ⟨l, h1, h2, h3⟩, h4⟩
  go_wp2_with fail
  go_end0
  exact ⟨rfl, ⟨l, h1, h2, h3⟩, h4⟩

end Go.Proofs.Ytnfdomgibkdkcaa.Roa
