/- Contract of the program's Added; lists of at most 2^21 spans, no longer than their room. -/
import Derived.Test.YtjlebhohhhkmfaaHoleR
import Derived.Test.YtjlebhohhhkmfaaTake
namespace Go.Proofs.Ytjlebhohhhkmfaa.Hole
open Go.RowKit
set_option linter.unusedVariables false
set_option linter.unusedSimpArgs false

set_option maxHeartbeats 2000000 in
theorem implAdded (a : Option Addr) (n cap : Nat) (l : List Sp) (f t : Int) (w : World) (hn : n = l.length) (h : Spans w a l) (hl : l.length ≤ 2097152) (hc : l.length ≤ cap) (ha : a = none → cap = 0) :
    Calls Try.prog 11 #[.slice a n cap, .agg #[.int .i64 f, .int .i64 t]] w fun x w' => ∃ g c, x = .returned (.tuple #[.slice (some ⟨g, 0, none⟩) (addedL l (f, t)).length c, .bool (addedB l (f, t))]) ∧ Own w' w.heap.size g c (addedL l (f, t)) ∧ Below w.heap.size w w' := by
  subst hn
  have hmix := mix
  have b0 : Below w.heap.size w (w.alloc (.cells #[.int .i64 f, .int .i64 t] 26)) := (Below.refl _ _).alloc (Nat.le_refl _) _
  have h0 := h.below b0
  go_enter Try.func11, Try.ntmps11
  go_wp2_with fail
  refine (implSpansOk _ _ _ l _ rfl h0 hl).mono ?_
  rintro x w1 ⟨rfl, hB1⟩
  have b1 : Below w.heap.size w w1 := b0.trans (hB1.mono b0.size)
  obtain ⟨c0, c1⟩ := box2 hB1
  have hs1 : w.heap.size + 1 ≤ w1.heap.size := by have := hB1.size; simpa using this
  clear hB1 h0 b0
  cases hok : spansB l
  · have e1 : addedL l (f, t) = [] := by simp [addedL, hok]
    have e2 : addedB l (f, t) = false := by simp [addedB, hok]
    have o1 : Own (w1.alloc (.cells #[] 26)) w.heap.size w1.heap.size 0 [] := own_mono (own_nil w1) b1.size
    go_wp2_with fail
    go_ret2
    exact ⟨w1.heap.size, 0, by rw [e1, e2]; rfl, by rw [e1]; exact o1, b1.alloc b1.size _⟩
  · go_wp2_with fail
    refine (isSpan f t _).mono ?_
    rintro x w2 ⟨rfl, hB2⟩
    have b2 : Below w.heap.size w w2 := b1.trans (hB2.mono b1.size)
    have c0' := (hB2.cell (p := ⟨w.heap.size, 0, none⟩) (by show w.heap.size < _; omega)).trans c0
    have c1' := (hB2.cell (p := ⟨w.heap.size, 1, none⟩) (by show w.heap.size < _; omega)).trans c1
    have h2 := h.below b2
    clear hB2 c0 c1 b1 hs1 h
    cases hsp : spB (f, t)
    · have e1 : addedL l (f, t) = l := by simp [addedL, hok, hsp]
      have e2 : addedB l (f, t) = false := by simp [addedB, hsp]
      go_wp2_with fail
      refine (copied _ _ _ l _ rfl h2 hl ha).mono ?_
      rintro x w3 ⟨g, c, rfl, o3, b3⟩
      go_wp2_with fail
      go_ret2
      exact ⟨g, c, by rw [e1, e2]; rfl, by rw [e1]; exact own_mono o3 b2.size, b2.trans (b3.mono b2.size)⟩
    · have hok' := spans_ok.1 hok
      have hst := sp_t hsp
      have hft : f < t := hst.1.2
      have hf0 : 0 ≤ f := hst.1.1
      have hf1 := (Num.pl_t hst.2.1).2
      have hE : Hid (addL l (f, t) = l.take (cnt (endB (f - 1)) l) ++ [((l.drop (cnt (endB (f - 1)) l)).take (cnt (begB t) l - cnt (endB (f - 1)) l)).foldl joinS (f, t)] ++ l.drop (cnt (begB t) l)) := by
        show _ = _
        rw [add_all hok'.1 hft]
        exact add_take hok'.1 hft
      have heb : cnt (endB (f - 1)) l ≤ cnt (begB t) l := cnt_both (s := (f, t)) hok'.1 hft
      have hbl := cnt_le (begB t) l
      have hl30 := hok'.2
      have HA : Hid (addedL l (f, t) = if (addL l (f, t)).length ≤ 30 then addL l (f, t) else l) := by show _ = _; simp [addedL, hok, hsp]
      have HB : Hid (addedB l (f, t) = decide ((addL l (f, t)).length ≤ 30)) := by show _ = _; simp [addedB, hok, hsp]
      have cE : ∀ q : Draw.Later w2, Calls Try.prog 36 #[.slice a l.length cap, .int .i64 (f - 1)] q.v fun x w' => x = .returned (.int .i64 (cnt (endB (f - 1)) l)) ∧ q.v = w' := fun q => endedBy a l.length cap l (f - 1) q.v rfl (h2.below q.h) hl
      have cB : ∀ q : Draw.Later w2, Calls Try.prog 37 #[.slice a l.length cap, .int .i64 t] q.v fun x w' => x = .returned (.int .i64 (cnt (begB t) l)) ∧ q.v = w' := fun q => begunBy a l.length cap l t q.v rfl (h2.below q.h) hl
      clear hok hsp hok' hst
      generalize cnt (endB (f - 1)) l = e at *
      generalize cnt (begB t) l = b at *
      have d0 := Draw.Later.cell c0'
      have d1 := Draw.Later.cell c1'
      go_wp2_with fail
      refine Draw.wp_region_later hmix (by kernel_rfl) ?_
      repeat (go_big_quiet_step (first | (go_at_call 36; exact Draw.later_same (cE _)) | (go_at_call 37; exact Draw.later_same (cB _))))
      refine wpQuiet_nil ?_
      intro w3 hw'
      obtain ⟨q, hq⟩ := hw'
      have hws : w.heap.size < w2.heap.size := Draw.lt_of_cell c0'
      have c0 := d0 q
      have c1 := d1 q
      have hBq := q.h
      rw [← hq] at c0 c1 hBq
      clear hq q
      have b3 : Below w.heap.size w w3 := b2.trans (hBq.mono b2.size)
      have h3 := h2.below hBq
      have hw3 : w.heap.size < w3.heap.size := Nat.lt_of_lt_of_le hws hBq.size
      clear d0 d1 cE cB c0' c1' hBq h2 b2 hws
      have hlen : (addL l (f, t)).length = e + 1 + (l.length - b) := by rw [hE.out]; simp; omega
      have k0 : (0 : Int) ≤ (e : Int) := by omega
      have k1 : (e : Int) ≤ (b : Int) := by omega
      have k2 : (b : Int) ≤ (l.length : Int) := by omega
      have k3 : (l.length : Int) ≤ 30 := by omega
      by_cases hbig : e + 1 + (l.length - b) ≤ 30
      · have e1 : Hid (addedL l (f, t) = addL l (f, t)) := by show _ = _; rw [HA.out, hlen, if_pos hbig]
        have e2 : Hid (addedB l (f, t) = true) := by show _ = _; rw [HB.out, hlen, decide_eq_true hbig]
        have k4 : ¬ (30 : Int) < (e : Int) + 1 + (l.length : Int) - (b : Int) := by omega
        have HL : Hid ((addL l (f, t)).length = e + 1 + (l.length - b)) := hlen
        clear HA HB hlen
        have k5 : (e : Int) ≤ (cap : Int) := by omega
        have k6 : (b : Int) ≤ (cap : Int) := by omega
        have hml : b - e = ((l.drop e).take (b - e)).length := by simp; omega
        have HM : Hid (b - e = ((l.drop e).take (b - e)).length) := hml
        have HT : Hid (e = (l.take e).length) := by show _ = _; simp; omega
        have HD : Hid (l.length - b = (l.drop b).length) := by show _ = _; simp
        have HS : Hid (Spans w3.drew (if b = e then a else a.map (·.add (e * 2))) ((l.drop e).take (b - e))) := h3.slice e b b heb hbl (Nat.le_refl _)
        have h3d : Spans w3.drew a l := h3
        have hao : a = none → e = 0 := fun q => by have := ha q; omega
        have hbo : (if cap = b then a else a.map (·.add (b * 2))) = none → cap - b = 0 := by
          cases a with
          | none => intro _; have := ha rfl; omega
          | some x => by_cases q : cap = b <;> simp [q]
        clear hml
        go_wp2_with fail
        refine wp_region_held_drew (S := (fun w' => w'.cell? ⟨w.heap.size, 0, none⟩ = some (.int .i64 f) ∧ w'.cell? ⟨w.heap.size, 1, none⟩ = some (.int .i64 t))) (by kernel_rfl) ?_ (fun hHeld => ?_)
        focus ((try dsimp only) <;> (first | exact ⟨c0, c1⟩ | exact ⟨s0, s1⟩ | exact ⟨s2 _, s3 _⟩ | exact ⟨s4, s5⟩))
        refine wpAnyH_take (i := 0) (v := ?_) rfl (by kernel_rfl) (by kernel_rfl) (by kernel_rfl) (fun _ _ _ h => h) (Or.inl ⟨by rfl, ?_⟩) (by assumption) ?_
        rotate_left 1
        focus (intro wS hSw; (try dsimp only at hSw); go_simp; first | done | (constructor <;> with_reducible rfl) | with_reducible rfl)
        (try simp only [Act.put, List.getElem_toArray, List.getElem_cons_zero, List.getElem_cons_succ, List.setIfInBounds_toArray, List.set_cons_zero, List.set_cons_succ])
        refine wpAnyH_take (i := 1) (v := ?_) rfl (by kernel_rfl) (by kernel_rfl) (by kernel_rfl) (fun _ _ _ h => h) (Or.inl ⟨by rfl, ?_⟩) (by assumption) ?_
        rotate_left 1
        focus (intro wS hSw; (try dsimp only at hSw); go_simp; first | done | (constructor <;> with_reducible rfl) | with_reducible rfl)
        (try simp only [Act.put, List.getElem_toArray, List.getElem_cons_zero, List.getElem_cons_succ, List.setIfInBounds_toArray, List.set_cons_zero, List.set_cons_succ])
        refine wpAnyH_take (i := 2) (v := ?_) rfl (by kernel_rfl) (by kernel_rfl) (by kernel_rfl) (fun _ _ _ h => h) (Or.inl ⟨by rfl, ?_⟩) (by assumption) ?_
        rotate_left 1
        focus (intro wS hSw; (try dsimp only at hSw); go_simp; first | done | (constructor <;> with_reducible rfl) | with_reducible rfl)
        (try simp only [Act.put, List.getElem_toArray, List.getElem_cons_zero, List.getElem_cons_succ, List.setIfInBounds_toArray, List.set_cons_zero, List.set_cons_succ])
        refine wpAnyH_take (i := 3) (v := ?_) rfl (by kernel_rfl) (by kernel_rfl) (by kernel_rfl) (fun _ _ _ h => h) (Or.inl ⟨by rfl, ?_⟩) (by assumption) ?_
        rotate_left 1
        focus (intro wS hSw; (try dsimp only at hSw); go_simp; first | done | (constructor <;> with_reducible rfl) | with_reducible rfl)
        (try simp only [Act.put, List.getElem_toArray, List.getElem_cons_zero, List.getElem_cons_succ, List.setIfInBounds_toArray, List.set_cons_zero, List.set_cons_succ])
        refine wpAnyH_take (i := 4) (v := ?_) rfl (by kernel_rfl) (by kernel_rfl) (by kernel_rfl) (fun _ _ _ h => h) (Or.inl ⟨by rfl, ?_⟩) (by assumption) ?_
        rotate_left 1
        focus (intro wS hSw; (try dsimp only at hSw); go_simp; first | done | (constructor <;> with_reducible rfl) | with_reducible rfl)
        (try simp only [Act.put, List.getElem_toArray, List.getElem_cons_zero, List.getElem_cons_succ, List.setIfInBounds_toArray, List.set_cons_zero, List.set_cons_succ])
        refine wpAnyH_take (i := 5) (v := ?_) rfl (by kernel_rfl) (by kernel_rfl) (by kernel_rfl) (fun _ _ _ h => h) (Or.inl ⟨by rfl, ?_⟩) (by assumption) ?_
        rotate_left 1
        focus (intro wS hSw; (try dsimp only at hSw); go_simp; first | done | (constructor <;> with_reducible rfl) | with_reducible rfl)
        (try simp only [Act.put, List.getElem_toArray, List.getElem_cons_zero, List.getElem_cons_succ, List.setIfInBounds_toArray, List.set_cons_zero, List.set_cons_succ])
        refine wpAnyH_take (i := 6) (v := ?_) rfl (by kernel_rfl) (by kernel_rfl) (by kernel_rfl) (fun _ _ _ h => h) (Or.inl ⟨by rfl, ?_⟩) (by assumption) ?_
        rotate_left 1
        focus (intro wS hSw; (try dsimp only at hSw); go_simp; first | done | (constructor <;> with_reducible rfl) | with_reducible rfl)
        (try simp only [Act.put, List.getElem_toArray, List.getElem_cons_zero, List.getElem_cons_succ, List.setIfInBounds_toArray, List.set_cons_zero, List.set_cons_succ])
        refine wpAnyH_take (i := 7) (v := ?_) rfl (by kernel_rfl) (by kernel_rfl) (by kernel_rfl) (fun _ _ _ h => h) (Or.inl ⟨by rfl, ?_⟩) (by assumption) ?_
        rotate_left 1
        focus (intro wS hSw; (try dsimp only at hSw); go_simp; first | done | (constructor <;> with_reducible rfl) | with_reducible rfl)
        (try simp only [Act.put, List.getElem_toArray, List.getElem_cons_zero, List.getElem_cons_succ, List.setIfInBounds_toArray, List.set_cons_zero, List.set_cons_succ])
        refine wpAnyH_take (i := 8) (v := ?_) rfl (by kernel_rfl) (by kernel_rfl) (by kernel_rfl) (fun _ _ _ h => h) (Or.inl ⟨by rfl, ?_⟩) (by assumption) ?_
        rotate_left 1
        focus (intro wS hSw; (try dsimp only at hSw); go_simp; first | done | (constructor <;> with_reducible rfl) | with_reducible rfl)
        (try simp only [Act.put, List.getElem_toArray, List.getElem_cons_zero, List.getElem_cons_succ, List.setIfInBounds_toArray, List.set_cons_zero, List.set_cons_succ])
        refine wpAnyH_take (i := 9) (v := ?_) rfl (by kernel_rfl) (by kernel_rfl) (by kernel_rfl) (fun _ _ _ h => h) (Or.inl ⟨by rfl, ?_⟩) (by assumption) ?_
        rotate_left 1
        focus (intro wS hSw; (try dsimp only at hSw); go_simp; first | done | (constructor <;> with_reducible rfl) | with_reducible rfl)
        (try simp only [Act.put, List.getElem_toArray, List.getElem_cons_zero, List.getElem_cons_succ, List.setIfInBounds_toArray, List.set_cons_zero, List.set_cons_succ])
        refine wpAnyH_ready (rs := [10]) (by kernel_rfl) (by simp) ?_
        refine AllReadyH.cons rfl (fun K hK => ?_) AllReadyH.nil
        (go_simp; refine (joined _ _ _ ((l.drop e).take (b - e)) f t _ HM.out HS.out (by rw [← HM.out]; omega)).mono ?_; rintro x w4 ⟨jf, jt, rfl, hJ, b4⟩; have HJ : Hid _ := hJ; clear hJ; have s0 := (b4.cell (p := ⟨w.heap.size, 0, none⟩) hw3).trans c0; have s1 := (b4.cell (p := ⟨w.heap.size, 1, none⟩) hw3).trans c1; have s2 := fun o : Obj => (((Below.refl w4.heap.size w4).alloc (Nat.le_refl _) o).cell (p := ⟨w.heap.size, 0, none⟩) (Nat.lt_of_lt_of_le hw3 b4.size)).trans s0; have s3 := fun o : Obj => (((Below.refl w4.heap.size w4).alloc (Nat.le_refl _) o).cell (p := ⟨w.heap.size, 1, none⟩) (Nat.lt_of_lt_of_le hw3 b4.size)).trans s1; have b4w : Below w.heap.size w w4 := b3.drew.trans (b4.mono b3.size))
        refine hK.out _ _ ?_ (fun hHeld => ?_)
        focus ((try dsimp only) <;> (first | exact ⟨c0, c1⟩ | exact ⟨s0, s1⟩ | exact ⟨s2 _, s3 _⟩ | exact ⟨s4, s5⟩))
        clear hK K
        (try simp only [Act.put, List.getElem_toArray, List.getElem_cons_zero, List.getElem_cons_succ, List.setIfInBounds_toArray, List.set_cons_zero, List.set_cons_succ])
        refine wpAnyH_ready (rs := [11]) (by kernel_rfl) (by simp) ?_
        refine AllReadyH.cons rfl (fun K hK => ?_) AllReadyH.nil
        go_simp
        refine hK.out _ _ ?_ (fun hHeld => ?_)
        focus ((try dsimp only) <;> (first | exact ⟨c0, c1⟩ | exact ⟨s0, s1⟩ | exact ⟨s2 _, s3 _⟩ | exact ⟨s4, s5⟩))
        clear hK K
        (try simp only [Act.put, List.getElem_toArray, List.getElem_cons_zero, List.getElem_cons_succ, List.setIfInBounds_toArray, List.set_cons_zero, List.set_cons_succ])
        refine wpAnyH_ready (rs := [12]) (by kernel_rfl) (by simp) ?_
        refine AllReadyH.cons rfl (fun K hK => ?_) AllReadyH.nil
        (refine step_grow_span (by rfl) _ _ (by rfl) a e (l.take e) HT.out (by rw [← HT.out]; omega) (by rfl) ((h3d.below (b4.trans ((Below.refl _ _).alloc b4.size _))).take e) hao ⟨w4.heap.size, 0, none⟩ jf jt (by rfl) news1 ?_; intro g5 c5 w5 o5 gr5; have b45 : Below w4.heap.size w4 w5 := (((Below.refl _ _).alloc (Nat.le_refl _) _).grown gr5 (by simp) (fun _ h => by cases h)); have s4 := (b45.cell (p := ⟨w.heap.size, 0, none⟩) (Nat.lt_of_lt_of_le hw3 b4.size)).trans s0; have s5 := (b45.cell (p := ⟨w.heap.size, 1, none⟩) (Nat.lt_of_lt_of_le hw3 b4.size)).trans s1)
        refine hK.out _ _ ?_ (fun hHeld => ?_)
        focus ((try dsimp only) <;> (first | exact ⟨c0, c1⟩ | exact ⟨s0, s1⟩ | exact ⟨s2 _, s3 _⟩ | exact ⟨s4, s5⟩))
        clear hK K
        (try simp only [Act.put, List.getElem_toArray, List.getElem_cons_zero, List.getElem_cons_succ, List.setIfInBounds_toArray, List.set_cons_zero, List.set_cons_succ])
        refine wpAnyH_take (i := 13) (v := ?_) rfl (by kernel_rfl) (by kernel_rfl) (by kernel_rfl) (fun _ _ _ h => h) (Or.inl ⟨by rfl, ?_⟩) (by assumption) ?_
        rotate_left 1
        focus (intro wS hSw; (try dsimp only at hSw); go_simp; first | done | (constructor <;> with_reducible rfl) | with_reducible rfl)
        (try simp only [Act.put, List.getElem_toArray, List.getElem_cons_zero, List.getElem_cons_succ, List.setIfInBounds_toArray, List.set_cons_zero, List.set_cons_succ])
        refine wpAnyH_done (by kernel_rfl) ?_ _
        have o5' : Own w5 w.heap.size g5 c5 (l.take e ++ [(jf, jt)]) := own_mono o5 (by have := b4w.size; simp; omega)
        have b5 : Below w.heap.size w w5 := b4w.trans (b45.mono b4w.size)
        have h5 : Spans w5 (if cap = b then a else a.map (·.add (b * 2))) (l.drop b) := by
          have := (h3d.below (b4.trans (b45.mono b4.size))).slice b l.length cap hbl (Nat.le_refl _) hc
          rw [List.take_of_length_le (by simp)] at this
          exact this
        clear b45 s4 s5 s0 s1 s2 s3 o5 gr5 b4 HS
        have HE : Hid (addedL l (f, t) = l.take e ++ [(jf, jt)] ++ l.drop b) := by show _ = _; rw [e1.out, hE.out, HJ.out]
        have HN : Hid ((addedL l (f, t)).length = e + 1 + (l.length - b)) := by show _ = _; rw [e1.out, HL.out]
        have hn1 : e + 1 = (l.take e ++ [(jf, jt)]).length := by rw [List.length_append, ← HT.out]; rfl
        have HN1 : Hid (e + 1 = (l.take e ++ [(jf, jt)]).length) := hn1
        clear hn1 hE e1 HL HJ h3 h3d
        go_wp2_with (at_builtin; refine wpList_more_spans (by rfl) _ _ (by rfl) w.heap.size g5 c5 (e + 1) (l.take e ++ [(jf, jt)]) (l.drop b) HN1.out (by rfl) o5' b5.size _ _ _ HD.out (by rfl) h5 hbo (by rw [← HN1.out, ← HD.out]; omega) w b5 (Nat.le_refl _) ?_; intro g6 c6 w6 o6 b6)
        all_goals (go_ret2; exact ⟨g6, c6, by rw [e2.out, HN.out]; first | rfl | (subst_vars; rfl), by rw [HE.out]; exact o6, b6⟩)
      · have e1 : Hid (addedL l (f, t) = l) := by show _ = _; rw [HA.out, hlen, if_neg hbig]
        have e2 : Hid (addedB l (f, t) = false) := by show _ = _; rw [HB.out, hlen, decide_eq_false hbig]
        have k4 : (30 : Int) < (e : Int) + 1 + (l.length : Int) - (b : Int) := by omega
        clear HA HB hlen hE
        go_wp2_with fail
        refine (copied _ _ _ l _ rfl h3 hl ha).mono ?_
        rintro x w4 ⟨g, c, rfl, o4, b4⟩
        go_wp2_with fail
        go_ret2
        exact ⟨g, c, by rw [e1.out, e2.out]; rfl, by rw [e1.out]; exact own_mono o4 b3.size, b3.trans (b4.mono b3.size)⟩

end Go.Proofs.Ytjlebhohhhkmfaa.Hole
