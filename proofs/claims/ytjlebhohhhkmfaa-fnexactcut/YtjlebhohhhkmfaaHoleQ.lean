/- Contracts of the program's FirstHole, HasAll and Cut; lists of at most 2^21 spans, no longer than their room. -/
import Derived.Test.YtjlebhohhhkmfaaHoleP
namespace Go.Proofs.Ytjlebhohhhkmfaa.Hole
open Go.RowKit
set_option linter.unusedVariables false
set_option linter.unusedSimpArgs false

theorem drop_getD (l : List Sp) (e : Nat) (h : e < l.length) : l.drop e = l.getD e (0, 0) :: l.drop (e + 1) := by
  rw [List.drop_eq_getElem_cons h, List.getD_eq_getElem?_getD, List.getElem?_eq_getElem h]
  rfl

set_option maxHeartbeats 1000000 in
theorem implFirstHole (a : Option Addr) (n cap : Nat) (l : List Sp) (p : Int) (w : World) (hn : n = l.length) (h : Spans w a l) (hl : l.length ≤ 2097152) (hc : l.length ≤ cap) :
    Calls Try.prog 22 #[.slice a n cap, .int .i64 p] w fun x w' => x = .returned (.int .i64 (holeOf l p)) ∧ Below w.heap.size w w' := by
  subst hn
  go_enter Try.func22, Try.ntmps22
  go_wp2_with fail
  refine (implSpansOk _ _ _ l _ rfl h hl).mono ?_
  rintro x w1 ⟨rfl, b1⟩
  have h1 := h.below b1
  cases hok : spansB l
  · go_wp2_with fail
    go_ret
    exact ⟨by simp [holeOf, hok], b1⟩
  · go_wp2_with fail
    refine (Num.isPlace p _).mono ?_
    rintro x w2 ⟨rfl, rfl⟩
    cases hpl : Num.plB p
    · go_wp2_with fail
      go_ret
      exact ⟨by simp [holeOf, hpl], b1⟩
    · have HH : Hid (holeOf l p = hd p (l.drop (cnt (endB p) l))) := by show _ = _; rw [← hole_drop (spans_ok.1 hok).1]; simp [holeOf, hok, hpl]
      have hce := cnt_le (endB p) l
      clear hok hpl
      go_wp2_with fail
      refine (endedBy _ _ _ l p _ rfl h1 hl).mono ?_
      rintro x w2 ⟨rfl, rfl⟩
      generalize cnt (endB p) l = e at *
      have i0 : (0 : Int) ≤ (e : Int) := by omega
      have i1 : (e : Int) ≤ (l.length : Int) := by omega
      have i2 : (l.length : Int) ≤ (cap : Int) := by omega
      by_cases hlt : e < l.length
      · rw [drop_getD l e hlt] at HH
        rcases h1 with h1 | ⟨b, off, rfl, h1⟩
        · simp [h1] at hlt
        · have c0 := (h1 e hlt).1
          have c1 := (h1 e hlt).2
          generalize l.getD e (0, 0) = s at *
          obtain ⟨xf, xt⟩ := s
          simp only at c0 c1
          have j0 : ¬ cap = e := by omega
          have j1 : (0 : Int) < (l.length : Int) - (e : Int) := by omega
          clear h h1
          by_cases hx : xf ≤ p
          · have HF : Hid (holeOf l p = xt) := by show _ = _; rw [HH.out, hd, if_pos hx]
            clear HH
            go_wp2_with fail
            go_ret
            exact ⟨by rw [HF.out]; rfl, b1⟩
          · have HF : Hid (holeOf l p = p) := by show _ = _; rw [HH.out, hd, if_neg hx]
            clear HH
            go_wp2_with fail
            go_ret
            exact ⟨by rw [HF.out]; rfl, b1⟩
      · have he : e = l.length := by omega
        have HF : Hid (holeOf l p = p) := by show _ = _; rw [HH.out, he, List.drop_length, hd]
        have j1 : ¬ (0 : Int) < (l.length : Int) - (e : Int) := by omega
        clear HH h h1
        go_wp2_with fail
        all_goals (go_ret; exact ⟨by rw [HF.out]; rfl, b1⟩)

set_option maxHeartbeats 1000000 in
theorem implHasAll (a : Option Addr) (n cap : Nat) (l : List Sp) (f t : Int) (w : World) (hn : n = l.length) (h : Spans w a l) (hl : l.length ≤ 2097152) (hc : l.length ≤ cap) :
    Calls Try.prog 17 #[.slice a n cap, .agg #[.int .i64 f, .int .i64 t]] w fun x w' => x = .returned (.bool (hasB l (f, t))) ∧ Below w.heap.size w w' := by
  subst hn
  have hmix := mix
  rw [has_hole]
  have b0 : Below w.heap.size w (w.alloc (.cells #[.int .i64 f, .int .i64 t] 26)) := (Below.refl _ _).alloc (Nat.le_refl _) _
  have d0 := Draw.Later.cell (box2 (w := w) (v0 := .int .i64 f) (v1 := .int .i64 t) (T := 26) (Below.refl _ _)).1
  have d1 := Draw.Later.cell (box2 (w := w) (v0 := .int .i64 f) (v1 := .int .i64 t) (T := 26) (Below.refl _ _)).2
  have hS : ∀ q : Draw.Later (w.alloc (.cells #[.int .i64 f, .int .i64 t] 26)), Spans q.v a l := fun q => h.below (b0.trans (q.h.mono b0.size))
  cases hs : spB (f, t)
  · go_enter Try.func17, Try.ntmps17
    go_wp2_with fail
    refine Draw.wp_region_later hmix (by kernel_rfl) ?_
    repeat (go_big_quiet_step ((go_at_call 34; exact Draw.later_of (isSpanEq hs _))))
    refine wpQuiet_nil ?_
    intro _ hw'
    obtain ⟨⟨wq, hBq⟩, hw''⟩ := hw'
    subst hw''
    go_wp2_with fail
    go_ret
    exact ⟨rfl, b0.trans (hBq.mono b0.size)⟩
  · rw [Bool.true_and]
    have hI : ∀ q : Draw.Later (w.alloc (.cells #[.int .i64 f, .int .i64 t] 26)), Calls Try.prog 22 #[.slice a l.length cap, .int .i64 f] q.v fun x w' => x = .returned (.int .i64 (holeOf l f)) ∧ Below q.v.heap.size q.v w' := fun q => implFirstHole a _ cap l f q.v rfl (hS q) hl hc
    clear hS
    show Calls _ _ _ _ fun x w' => x = Ending.returned (.bool (decide (t ≤ holeOf l f))) ∧ _
    generalize holeOf l f = hh at *
    by_cases hx : t ≤ hh
    · go_enter Try.func17, Try.ntmps17
      go_wp2_with fail
      refine Draw.wp_region_later hmix (by kernel_rfl) ?_
      repeat (go_big_quiet_step (first | (go_at_call 34; exact Draw.later_of (isSpanEq hs _)) | (go_at_call 22; exact Draw.later_of (hI _))))
      refine wpQuiet_nil ?_
      intro _ hw'
      obtain ⟨⟨wq, hBq⟩, hw''⟩ := hw'
      subst hw''
      go_wp2_with fail
      go_ret
      exact ⟨Num.ret_bool (by simp [hx]), b0.trans (hBq.mono b0.size)⟩
    · go_enter Try.func17, Try.ntmps17
      go_wp2_with fail
      refine Draw.wp_region_later hmix (by kernel_rfl) ?_
      repeat (go_big_quiet_step (first | (go_at_call 34; exact Draw.later_of (isSpanEq hs _)) | (go_at_call 22; exact Draw.later_of (hI _))))
      refine wpQuiet_nil ?_
      intro _ hw'
      obtain ⟨⟨wq, hBq⟩, hw''⟩ := hw'
      subst hw''
      go_wp2_with fail
      go_ret
      exact ⟨Num.ret_bool (by simp [hx]), b0.trans (hBq.mono b0.size)⟩

theorem vals_hd (x : Sp) (l : List Sp) (m : Int) : (vals (x :: l)).set 0 (.int .i64 m) = vals ((m, x.2) :: l) := by simp [vals]

set_option maxHeartbeats 1000000 in
theorem implCut (a : Option Addr) (n cap : Nat) (l : List Sp) (p : Int) (w : World) (hn : n = l.length) (h : Spans w a l) (hl : l.length ≤ 2097152) (hc : l.length ≤ cap) (ha : a = none → cap = 0) :
    Calls Try.prog 20 #[.slice a n cap, .int .i64 p] w fun x w' => ∃ g c, x = .returned (.slice (some ⟨g, 0, none⟩) (cutL l p).length c) ∧ Own w' w.heap.size g c (cutL l p) ∧ Below w.heap.size w w' := by
  subst hn
  go_enter Try.func20, Try.ntmps20
  go_wp2_with fail
  refine (implSpansOk _ _ _ l _ rfl h hl).mono ?_
  rintro x w1 ⟨rfl, b1⟩
  have h1 := h.below b1
  have o1 : Own (w1.alloc (.cells #[] 26)) w.heap.size w1.heap.size 0 [] := own_mono (own_nil w1) b1.size
  have bA : Below w.heap.size w (w1.alloc (.cells #[] 26)) := b1.alloc b1.size _
  cases hok : spansB l
  · go_wp2_with fail
    go_ret
    have e : cutL l p = [] := by simp [cutL, hok]
    exact ⟨_, 0, by rw [e]; rfl, by rw [e]; exact o1, bA⟩
  · go_wp2_with fail
    refine (Num.isPlace p _).mono ?_
    rintro x w2 ⟨rfl, rfl⟩
    cases hpl : Num.plB p
    · go_wp2_with fail
      go_ret
      have e : cutL l p = [] := by simp [cutL, hpl]
      exact ⟨_, 0, by rw [e]; rfl, by rw [e]; exact o1, bA⟩
    · have HH : Hid (cutL l p = setHd p (l.drop (cnt (endB p) l))) := by show _ = _; rw [(cut_yes hok hpl).1, cut_drop (spans_ok.1 hok).1]
      have hce := cnt_le (endB p) l
      clear hok hpl o1 bA
      go_wp2_with fail
      refine (endedBy _ _ _ l p _ rfl h1 hl).mono ?_
      rintro x w2 ⟨rfl, rfl⟩
      generalize cnt (endB p) l = e at *
      have i0 : (0 : Int) ≤ (e : Int) := by omega
      have i1 : (e : Int) ≤ (l.length : Int) := by omega
      have i2 : (l.length : Int) ≤ (cap : Int) := by omega
      have hdl : (l.drop e).length = l.length - e := List.length_drop
      by_cases hlt : e < l.length
      · have hdr := drop_getD l e hlt
        rcases h1 with h1 | ⟨b, off, rfl, h1⟩
        · simp [h1] at hlt
        · have hS : Spans w1 (some ⟨b, off + e * 2, none⟩) (l.drop e) := .inr ⟨b, off + e * 2, rfl, fun j hj => by
            have hj' : e + j < l.length := by omega
            have := h1 (e + j) hj'
            have e1 : (l.drop e).getD j (0, 0) = l.getD (e + j) (0, 0) := by simp [List.getD_eq_getElem?_getD]
            rw [e1, show off + e * 2 + j * 2 = off + (e + j) * 2 by omega]
            exact this⟩
          have j0 : ¬ l.length = e := by omega
          clear h h1
          go_wp2_with fail
          refine (copied _ _ _ (l.drop e) _ hdl.symm hS (by omega) (by simp)).mono ?_
          rintro x w2 ⟨g, c, rfl, o2, b2⟩
          replace o2 := own_mono o2 b1.size
          replace b2 := b1.trans (b2.mono b1.size)
          rw [hdl]
          rw [hdr] at o2 HH
          have hfst := o2.at (k := 0) (by simp)
          rw [hdr, List.length_cons] at hdl
          generalize l.getD e (0, 0) = s at *
          generalize l.drop (e + 1) = r at *
          obtain ⟨xf, xt⟩ := s
          obtain ⟨⟨c0, -⟩, f0, -⟩ := hfst
          rw [Nat.zero_mul] at c0 f0
          replace c0 : w2.cell? ⟨g, 0, none⟩ = some (.int .i64 xf) := c0
          have j1 : (0 : Int) < (l.length : Int) - (e : Int) := by omega
          have j2 : (0 : Int) < (r.length : Int) + 1 := by omega
          have HD : Hid (r.length + 1 = l.length - e) := hdl
          clear hS hdr hdl
          by_cases hx : xf < p
          · have HF : Hid (cutL l p = (p, xt) :: r) := by show _ = _; rw [HH.out, setHd, if_neg (show ¬ p < xf by omega)]
            clear HH
            go_wp2_with fail
            go_ret
            have o3 : Own (w2.setCell ⟨g, 0, none⟩ (.int .i64 p)) w.heap.size g c ((p, xt) :: r) := by
              have := (World.ownsRow.stored o2 0 (.int .i64 p)).1
              rw [vals_hd] at this
              exact this
            exact ⟨g, c, by rw [HF.out, List.length_cons, HD.out]; rfl, by rw [HF.out]; exact o3, b2.setCell (p := ⟨g, 0, none⟩) o2.lt.1 _⟩
          · have HF : Hid (cutL l p = (xf, xt) :: r) := by
              show _ = _
              rw [HH.out, setHd]
              by_cases hy : p < xf
              · rw [if_pos (show p < xf from hy)]
              · rw [if_neg (show ¬ p < xf from hy), show p = xf by omega]
            clear HH
            go_wp2_with fail
            go_ret
            have o3 : Own (w2.setCell ⟨g, 0, none⟩ (.int .i64 xf)) w.heap.size g c ((xf, xt) :: r) := by
              have := (World.ownsRow.stored o2 0 (.int .i64 xf)).1
              rw [vals_hd] at this
              exact this
            exact ⟨g, c, by rw [HF.out, List.length_cons, HD.out]; rfl, by rw [HF.out]; exact o3, b2.setCell (p := ⟨g, 0, none⟩) o2.lt.1 _⟩
      · have he : e = l.length := by omega
        subst he
        have HF : Hid (cutL l p = []) := by show _ = _; rw [HH.out, List.drop_length, setHd]
        clear HH hdl
        have j1 : ∀ {a' : Option Addr}, Calls Try.prog 35 #[.slice a' 0 0] w1 fun x w' => ∃ g c, x = .returned (.slice (some ⟨g, 0, none⟩) 0 c) ∧ Own w' w.heap.size g c [] ∧ Below w.heap.size w w' := fun {a'} => (copied a' 0 0 [] w1 rfl (.inl rfl) (Nat.zero_le _) (fun _ => rfl)).mono fun x w' hx => by
          obtain ⟨g, c, rfl, o2, b2⟩ := hx
          exact ⟨g, c, rfl, own_mono o2 b1.size, b1.trans (b2.mono b1.size)⟩
        clear h h1 ha
        go_wp2_with fail
        refine j1.mono ?_
        rintro x w2 ⟨g, c, rfl, o2, b2⟩
        go_wp2_with fail
        go_ret
        exact ⟨g, c, by rw [HF.out]; rfl, by rw [HF.out]; exact o2, b2⟩

end Go.Proofs.Ytjlebhohhhkmfaa.Hole
