/- Givers (chapter 6): the specification's l6Offer and Offers. -/
import Derived.Test.YtjnkjeajkmgcmaaGreatMg3
namespace Go.Proofs.YtjnkjeajkmgcmaaGreat.Giv
open Go.RowKit RowG
set_option linter.unusedVariables false
set_option linter.unusedSimpArgs false

def stopG (g : Gv) (at' n : Int) : Int := min (at' + n) (min (g.ba + g.bs.size) (max at' g.lm))
def offerG (g : Gv) (p n : Int) : (Int × ByteArray) × Bool × Bool :=
  if p < g.ba ∨ g.ba + g.bs.size < p ∨ ¬ (0 ≤ n ∧ n ≤ 40) then ((0, ⟨#[]⟩), false, false) else
  if stopG g p n = p ∧ (g.en && decide (stopG g p n = g.ba + g.bs.size)) = false then ((0, ⟨#[]⟩), false, false) else
  ((p, g.bs.extract (p - g.ba).toNat (stopG g p n - g.ba).toNat), (g.en && decide (stopG g p n = g.ba + g.bs.size)), true)
abbrev offV (r : (Int × ByteArray) × Bool × Bool) : Value := .tuple #[.agg #[.int .i64 r.1.1, .string r.1.2], .bool r.2.1, .bool r.2.2]
theorem res_cell_tmp2 {fn : Func} {p u v : Tmp} {ty : TypeId} (h : fn.results = #[.cell p ty, .tmp u, .tmp v]) (tmps : Array Value) (P : Program) (w : World) :
    (results fn tmps).run P w = ((asAddr (tmps.getD p undef)).run P w).andThen fun a w₁ => ((loadVar ty a).run P w₁).andThen fun r w₂ => .ok (.tuple #[r, tmps.getD u undef, tmps.getD v undef]) w₂ := by
  simp only [results, h]
  simp [Sem.run_bind, Result.andThen]

set_option maxRecDepth 10000 in
set_option maxHeartbeats 8000000 in
theorem l6Offer (g : Gv) (p n : Int) (w : World) (hok : g.ok = true) :
    Calls Tryz.prog 94 #[g.v, .int .i64 p, .int .i64 n] w fun x w' => x = .returned (offV (offerG g p n)) ∧ Below w.heap.size w w' := by
  have hmix := mix
  obtain ⟨⟨i8, i9⟩, ⟨j1, j2⟩, i3, i4, ⟨j3, j4⟩, i6, i7⟩ := ok_iff.1 hok
  have hE := fun w' => l6End g w' ⟨⟨by omega, by omega⟩, by omega⟩
  have HR : Hid (offerG g p n = if p < g.ba ∨ g.ba + g.bs.size < p ∨ ¬ (0 ≤ n ∧ n ≤ 40) then ((0, ⟨#[]⟩), false, false) else
    if stopG g p n = p ∧ (g.en && decide (stopG g p n = g.ba + g.bs.size)) = false then ((0, ⟨#[]⟩), false, false) else
    ((p, g.bs.extract (p - g.ba).toNat (stopG g p n - g.ba).toNat), (g.en && decide (stopG g p n = g.ba + g.bs.size)), true)) := rfl
  have HS : Hid (stopG g p n = min (p + n) (min (g.ba + g.bs.size) (max p g.lm))) := rfl
  generalize offerG g p n = R at *
  generalize stopG g p n = st at *
  clear hok i7
  obtain ⟨ba, bs, cp, lm, en, dn⟩ := g
  dsimp only [Gv.c, Gv.v] at *
  have BV : Below w.heap.size w (((w.alloc (.cells #[.int .i64 ba, .string bs, .int .i64 cp, .int .i64 lm, .bool en, .bool dn] 25)).alloc (.cells #[.int .i64 0, .string ⟨#[]⟩] 69)).alloc (.cells #[.int .i64 0, .string ⟨#[]⟩] 69)) := (((Below.refl _ _).alloc (Nat.le_refl _) _).alloc (by simp) _).alloc (by simp; omega) _
  have v3 : Var 25 (((w.alloc (.cells #[.int .i64 ba, .string bs, .int .i64 cp, .int .i64 lm, .bool en, .bool dn] 25)).alloc (.cells #[.int .i64 0, .string ⟨#[]⟩] 69)).alloc (.cells #[.int .i64 0, .string ⟨#[]⟩] 69)) w.heap.size [.int .i64 ba, .string bs, .int .i64 cp, .int .i64 lm, .bool en, .bool dn] := ((Var.new w [.int .i64 ba, .string bs, .int .i64 cp, .int .i64 lm, .bool en, .bool dn]).alloc _).alloc _
  have v6 : Var 69 (((w.alloc (.cells #[.int .i64 ba, .string bs, .int .i64 cp, .int .i64 lm, .bool en, .bool dn] 25)).alloc (.cells #[.int .i64 0, .string ⟨#[]⟩] 69)).alloc (.cells #[.int .i64 0, .string ⟨#[]⟩] 69)) (w.heap.size + 1) [.int .i64 0, .string ⟨#[]⟩] := by
    have := (Var.new (T := 69) (w.alloc (.cells #[.int .i64 ba, .string bs, .int .i64 cp, .int .i64 lm, .bool en, .bool dn] 25)) [.int .i64 0, .string ⟨#[]⟩]).alloc (.cells #[.int .i64 0, .string ⟨#[]⟩] 69)
    simpa using this
  have v9 : Var 69 (((w.alloc (.cells #[.int .i64 ba, .string bs, .int .i64 cp, .int .i64 lm, .bool en, .bool dn] 25)).alloc (.cells #[.int .i64 0, .string ⟨#[]⟩] 69)).alloc (.cells #[.int .i64 0, .string ⟨#[]⟩] 69)) (w.heap.size + 1 + 1) [.int .i64 0, .string ⟨#[]⟩] := by
    have := Var.new (T := 69) ((w.alloc (.cells #[.int .i64 ba, .string bs, .int .i64 cp, .int .i64 lm, .bool en, .bool dn] 25)).alloc (.cells #[.int .i64 0, .string ⟨#[]⟩] 69)) [.int .i64 0, .string ⟨#[]⟩]
    simpa using this
  go_enter Tryz.func94, Tryz.ntmps94
  go_upto_region 2 with (fail)
  generalize (((w.alloc (.cells #[.int .i64 ba, .string bs, .int .i64 cp, .int .i64 lm, .bool en, .bool dn] 25)).alloc (.cells #[.int .i64 0, .string ⟨#[]⟩] 69)).alloc (.cells #[.int .i64 0, .string ⟨#[]⟩] 69)) = V at *
  obtain ⟨e0, e1, e2, e3, e4, e5⟩ := v3.c6
  obtain ⟨bad, hbad⟩ : ∃ bad, decide (p < ba ∨ ba + bs.size < p ∨ ¬ (0 ≤ n ∧ n ≤ 40)) = bad := ⟨_, rfl⟩
  have HB : Hid _ := hbad
  clear hbad
  go_cut [27] from 13 (fun v wr => v = .bool bad ∧ Below V.heap.size V wr)
  case first =>
    by_cases h1 : p < ba
    case pos =>
      have hb : bad = true := by rw [← HB.out]; exact decide_eq_true (.inl h1)
      go_wp2_with fail
      go_meet
      exact ⟨by rw [hb], Below.refl _ _⟩
    go_wp2_with fail
    refine (hE _).mono ?_
    rintro x w1 ⟨rfl, b1⟩
    by_cases h2 : ba + bs.size < p
    case pos =>
      have hb : bad = true := by rw [← HB.out]; exact decide_eq_true (.inr (.inl h2))
      go_wp2_with fail
      go_meet
      exact ⟨by rw [hb], b1⟩
    go_wp2_with fail
    refine (Tak.l1In n 0 40 _).mono ?_
    rintro x w2 ⟨rfl, rfl⟩
    have hb : bad = !decide (0 ≤ n ∧ n ≤ 40) := by
      rw [← HB.out]
      by_cases h3 : 0 ≤ n ∧ n ≤ 40
      · rw [decide_eq_true h3, decide_eq_false (by omega)]; rfl
      · rw [decide_eq_false h3, decide_eq_true (by omega)]; rfl
    generalize decide (0 ≤ n ∧ n ≤ 40) = q at *
    go_wp2_with fail
    go_meet
    exact ⟨by rw [hb, decide_eq_false (show ¬ ba + (bs.size : Int) < p by omega), Bool.false_or], b1⟩
  case rest =>
    obtain ⟨rfl, b1⟩ := hcut
    replace v3 := v3.later b1
    replace v6 := v6.later b1
    replace v9 := v9.later b1
    have B1 := BV.trans (b1.mono BV.size)
    clear b1 BV e0 e1 e2 e3 e4 e5
    have r0 := v6.cell (i := 0) rfl
    have r1 := v6.cell (i := 1) rfl
    have x0 := v6.free 0
    have x1 := v6.free 1
    cases bad
    case true =>
      have HZ : Hid (R = ((0, ⟨#[]⟩), false, false)) := by
        show _ = _
        rw [HR.out, if_pos (of_decide_eq_true HB.out)]
      have q0 := v9.cell (i := 0) rfl
      have q1 := v9.cell (i := 1) rfl
      go_wp2_with fail
      refine bodyPost_ret (v := offV ((0, ⟨#[]⟩), false, false)) (by rw [res_cell_tmp2 rfl]; go_simp; try rfl) rfl ⟨by rw [HZ.out], ?_⟩
      iterate 2 (refine Below.setCell ?_ (by dsimp only; omega) _)
      exact B1
    case false =>
      have hb := of_decide_eq_false HB.out
      have h1 : ba ≤ p := by omega
      have h2 : p ≤ ba + bs.size := by omega
      have h3 : 0 ≤ n := by omega
      have h4 : n ≤ 40 := by omega
      replace HR : Hid (R = if st = p ∧ (en && decide (st = ba + bs.size)) = false then ((0, ⟨#[]⟩), false, false) else ((p, bs.extract (p - ba).toNat (st - ba).toNat), (en && decide (st = ba + bs.size)), true)) := by
        have := HR.out
        rw [if_neg hb] at this
        exact this
      have hst := HS.out
      have s1 : p ≤ st := by omega
      have s2 : st ≤ ba + bs.size := by omega
      have hX : ∀ w', Calls Tryz.prog 106 #[.int .i64 p, .int .i64 lm] w' fun e w'' => e = .returned (.int .i64 (max p lm)) ∧ w' = w'' := fun w' => by
        have := Draw.l1Max p lm w'
        rw [show (if lm < p then p else lm) = max p lm by split <;> omega] at this
        exact this
      have hM1 : ∀ w', Calls Tryz.prog 58 #[.int .i64 (ba + bs.size), .int .i64 (max p lm)] w' fun e w'' => e = .returned (.int .i64 (min (ba + bs.size) (max p lm))) ∧ w' = w'' := fun w' => by
        have := Tak.l1Min (ba + bs.size) (max p lm) w'
        rw [show (if ba + (bs.size : Int) < max p lm then ba + (bs.size : Int) else max p lm) = min (ba + (bs.size : Int)) (max p lm) by split <;> omega] at this
        exact this
      have hM2 : ∀ w', Calls Tryz.prog 58 #[.int .i64 (p + n), .int .i64 (min (ba + bs.size) (max p lm))] w' fun e w'' => e = .returned (.int .i64 st) ∧ w' = w'' := fun w' => by
        have := Tak.l1Min (p + n) (min (ba + bs.size) (max p lm)) w'
        rw [show (if p + n < min (ba + (bs.size : Int)) (max p lm) then p + n else min (ba + (bs.size : Int)) (max p lm)) = st by rw [hst]; split <;> omega] at this
        exact this
      clear hst HS HB hb
      generalize min (ba + (bs.size : Int)) (max p lm) = m1 at *
      generalize max p lm = mx at *
      have HE : Hid _ := hE
      have HX : Hid _ := hX
      have H1 : Hid _ := hM1
      have H2 : Hid _ := hM2
      clear hE hX hM1 hM2
      obtain ⟨e0, e1, e2, e3, e4, e5⟩ := v3.c6
      have d0 := Draw.Later.cell e0
      have d1 := Draw.Later.cell e1
      have d2 := Draw.Later.cell e2
      have d3 := Draw.Later.cell e3
      have d4 := Draw.Later.cell e4
      have d5 := Draw.Later.cell e5
      go_wp2_with fail
      refine Draw.wp_region_later hmix (by kernel_rfl) ?_
      repeat (go_big_quiet_step (first | (go_at_call 57; exact Draw.later_of (HE.out _)) | (go_at_call 106; exact Draw.later_same (HX.out _)) | (go_at_call 58; first | (with_reducible exact Draw.later_same (H1.out _)) | (with_reducible exact Draw.later_same (H2.out _)))))
      refine wpQuiet_nil ?_
      intro wq hw'
      obtain ⟨q9, hq⟩ := hw'
      have hBq := q9.h
      rw [← hq] at hBq
      clear hq q9 d0 d1 d2 d3 d4 d5 e0 e1 e2 e3 e4 e5 HX H1 H2 r0 r1 x0 x1
      replace v3 := v3.later hBq
      replace v6 := v6.later hBq
      replace v9 := v9.later hBq
      have B2 := B1.trans (hBq.mono B1.size)
      clear hBq B1
      obtain ⟨E, hE⟩ : ∃ E, (en && decide (st = ba + bs.size)) = E := ⟨_, rfl⟩
      replace HR : Hid (R = if st = p ∧ E = false then ((0, ⟨#[]⟩), false, false) else ((p, bs.extract (p - ba).toNat (st - ba).toNat), E, true)) := by
        have := HR.out
        rw [hE] at this
        exact this
      have HEE : Hid _ := hE
      clear hE
      obtain ⟨e0, e1, e2, e3, e4, e5⟩ := v3.c6
      go_upto_region 5 with (fail)
      go_cut [11] from 40 (fun v wr => v = .bool E ∧ Below wq.heap.size wq wr)
      case first =>
        cases en
        case false =>
          have hb : E = false := HEE.out.symm
          go_wp2_with fail
          go_meet
          exact ⟨by rw [hb], Below.refl _ _⟩
        go_wp2_with fail
        refine (HE.out _).mono ?_
        rintro x w1 ⟨rfl, b1⟩
        have hb : E = decide (st = ba + bs.size) := HEE.out.symm
        generalize ba + (bs.size : Int) = en2 at *
        go_wp2_with fail
        go_meet
        exact ⟨by rw [hb]; rfl, b1⟩
      case rest =>
        obtain ⟨rfl, b1⟩ := hcut
        replace v3 := v3.later b1
        replace v6 := v6.later b1
        replace v9 := v9.later b1
        have B3 := B2.trans (b1.mono B2.size)
        clear b1 B2 e0 e1 e2 e3 e4 e5
        have r0 := v6.cell (i := 0) rfl
        have r1 := v6.cell (i := 1) rfl
        have x0 := v6.free 0
        have x1 := v6.free 1
        by_cases hc : st = p ∧ E = false
        case pos =>
          have HZ : Hid (R = ((0, ⟨#[]⟩), false, false)) := by
            show _ = _
            rw [HR.out, if_pos hc]
          obtain ⟨rfl, rfl⟩ := hc
          have q0 := v9.cell (i := 0) rfl
          have q1 := v9.cell (i := 1) rfl
          go_wp2_with fail
          refine bodyPost_ret (v := offV ((0, ⟨#[]⟩), false, false)) (by rw [res_cell_tmp2 rfl]; go_simp; try rfl) rfl ⟨by rw [HZ.out], ?_⟩
          iterate 2 (refine Below.setCell ?_ (by dsimp only; omega) _)
          exact B3
        have HZ : Hid (R = ((p, bs.extract (p - ba).toNat (st - ba).toNat), E, true)) := by
          show _ = _
          rw [HR.out, if_neg hc]
        have e0 := v3.cell (i := 0) rfl
        have e1 := v3.cell (i := 1) rfl
        have t1 : 0 ≤ p - ba := by omega
        have t2 : p - ba ≤ st - ba := by omega
        have t3 : st - ba ≤ bs.size := by omega
        have t4 : 0 ≤ st - ba := by omega
        have hc' : E = true ∨ (E = false ∧ ¬ st = p) := by cases E <;> simp at hc ⊢; exact hc
        clear hc
        rcases hc' with rfl | ⟨rfl, hc⟩
        all_goals go_wp2_with fail
        all_goals
          refine bodyPost_ret (v := offV R) (by rw [res_cell_tmp2 rfl, HZ.out]; go_simp; try rfl) rfl ⟨rfl, ?_⟩
          iterate 2 (refine Below.setCell ?_ (by dsimp only; omega) _)
          exact B3

end Go.Proofs.YtjnkjeajkmgcmaaGreat.Giv
