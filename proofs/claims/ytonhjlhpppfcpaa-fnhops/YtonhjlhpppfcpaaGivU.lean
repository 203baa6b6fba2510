/- Givers (chapter 6), the program's side: Offers. -/
import Derived.Test.YtonhjlhpppfcpaaMg11
import Derived.Test.YtonhjlhpppfcpaaGivD
import Derived.Laws.Cover1
namespace Go.Proofs.Ytonhjlhpppfcpaa.Giv
open Go.RowKit RowG
set_option linter.unusedVariables false
set_option linter.unusedSimpArgs false

theorem bytes_mid (b : ByteArray) (k m j : Nat) (h : j = k + m) : (⟨((b.data.toList.drop k).take m).toArray⟩ : ByteArray) = b.extract k j := by
  subst h
  apply ByteArray.ext
  rw [ByteArray.data_extract]
  apply Array.ext'
  rw [Array.toList_extract, List.extract_eq_take_drop, Nat.add_sub_cancel_left]

set_option maxRecDepth 10000 in
set_option maxHeartbeats 8000000 in
theorem implOffers (g : Gv) (p n : Int) (w : World) (hg : g.bs.size ≤ 2097152) :
    Calls Try.prog 26 #[g.v, .int .i64 p, .int .i64 n] w fun x w' => x = .returned (offV (offersG g p n)) ∧ Below w.heap.size w w' := by
  have hmix := mix
  have hG := fun w' => implGiverOk g w' hg
  have hK := fun w' hok => keptBy g w' hok
  have HIN : Hid (g.ok = true → _) := fun hok => (ok_iff (g := g)).1 hok
  have HM9 : Hid (g.ok = true → (mostG g).toNat ≤ 400) := fun hok => by
    have := ok_iff.1 hok
    unfold mostG
    omega
  obtain ⟨ok, hok⟩ : ∃ ok, g.ok = ok := ⟨_, rfl⟩
  have HW : Hid (offersG g p n = if ok then (if p < g.ba ∨ g.ba + g.bs.size < p ∨ ¬ (0 ≤ n ∧ n ≤ 40) then ((0, ⟨#[]⟩), false, false) else
    if stopG g p n = p ∧ (g.en && decide (stopG g p n = g.ba + g.bs.size)) = false then ((0, ⟨#[]⟩), false, false) else
    ((p, g.bs.extract (p - g.ba).toNat (stopG g p n - g.ba).toNat), (g.en && decide (stopG g p n = g.ba + g.bs.size)), true)) else ((0, ⟨#[]⟩), false, false)) := by show _ = _; unfold offersG offerG; rw [hok]
  have HS : Hid (stopG g p n = min (p + n) (min (g.ba + g.bs.size) (max p g.lm))) := rfl
  rw [hok] at hG hK
  replace HIN : Hid (ok = true → _) := fun h => HIN.out (hok.trans h)
  have HM : Hid (ok = true → (mostG g).toNat ≤ 400) := fun h => HM9.out (hok.trans h)
  clear hok HM9
  generalize offersG g p n = Q at *
  generalize stopG g p n = st at *
  generalize (mostG g).toNat = nn at *
  obtain ⟨ba, bs, cp, lm, en, dn⟩ := g
  dsimp only [Gv.v, Gv.c] at *
  have v1 : Var 25 ((w.alloc (.cells #[.int .i64 ba, .string bs, .int .i64 cp, .int .i64 lm, .bool en, .bool dn] 25)).alloc (.cells #[.int .i64 0, .string ⟨#[]⟩] 55)) w.heap.size [.int .i64 ba, .string bs, .int .i64 cp, .int .i64 lm, .bool en, .bool dn] := (Var.new w [.int .i64 ba, .string bs, .int .i64 cp, .int .i64 lm, .bool en, .bool dn]).alloc _
  have v2 : Var 55 ((w.alloc (.cells #[.int .i64 ba, .string bs, .int .i64 cp, .int .i64 lm, .bool en, .bool dn] 25)).alloc (.cells #[.int .i64 0, .string ⟨#[]⟩] 55)) (w.heap.size + 1) [.int .i64 0, .string ⟨#[]⟩] := by
    have := Var.new (T := 55) (w.alloc (.cells #[.int .i64 ba, .string bs, .int .i64 cp, .int .i64 lm, .bool en, .bool dn] 25)) [.int .i64 0, .string ⟨#[]⟩]
    simpa using this
  have b1 : Below w.heap.size w ((w.alloc (.cells #[.int .i64 ba, .string bs, .int .i64 cp, .int .i64 lm, .bool en, .bool dn] 25)).alloc (.cells #[.int .i64 0, .string ⟨#[]⟩] 55)) := ((Below.refl _ _).alloc (Nat.le_refl _) _).alloc (by simp) _
  go_enter Try.func26, Try.ntmps26
  go_wp2_with fail
  generalize ((w.alloc (.cells #[.int .i64 ba, .string bs, .int .i64 cp, .int .i64 lm, .bool en, .bool dn] 25)).alloc (.cells #[.int .i64 0, .string ⟨#[]⟩] 55)) = V at *
  refine (hG _).mono ?_
  rintro x w1 ⟨rfl, b2⟩
  have x1 := v1.later b2
  have x2 := v2.later b2
  have B2 := b1.trans (b2.mono b1.size)
  clear v1 v2 b1 b2 hG
  have H1 : Hid (w.heap.size + 1 < w1.heap.size) := x2.lt
  have e0 := x1.cell (i := 0) rfl
  have e1 := x1.cell (i := 1) rfl
  have e2 := x1.cell (i := 2) rfl
  have e3 := x1.cell (i := 3) rfl
  have e4 := x1.cell (i := 4) rfl
  have e5 := x1.cell (i := 5) rfl
  have r0 := x2.cell (i := 0) rfl
  have r1 := x2.cell (i := 1) rfl
  have q0 := x2.free 0
  have q1 := x2.free 1
  cases ok
  · clear hK
    go_wp2_with fail
    refine bodyPost_ret (v := offV ((0, ⟨#[]⟩), false, false)) (by rw [res_cell_tmp2 rfl]; go_simp; try rfl) rfl ⟨by rw [HW.out]; rfl, ?_⟩
    iterate 2 (refine Below.setCell ?_ (by dsimp only; omega) _)
    exact B2

  have hn4 := HM.out rfl
  obtain ⟨⟨i8, i9⟩, ⟨j1, j2⟩, i3, i4, ⟨j3, j4⟩, i6, i7⟩ := HIN.out rfl
  replace HW : Hid (Q = (if p < ba ∨ ba + bs.size < p ∨ ¬ (0 ≤ n ∧ n ≤ 40) then ((0, ⟨#[]⟩), false, false) else
    if st = p ∧ (en && decide (st = ba + bs.size)) = false then ((0, ⟨#[]⟩), false, false) else
    ((p, bs.extract (p - ba).toNat (st - ba).toNat), (en && decide (st = ba + bs.size)), true))) := HW.out
  clear HIN HM i7
  by_cases h3 : n < 0
  case pos =>
    have HZ : Hid (Q = ((0, ⟨#[]⟩), false, false)) := by show _ = _; rw [HW.out, if_pos (.inr (.inr (by omega)))]
    clear hK
    go_wp2_with fail
    refine bodyPost_ret (v := offV ((0, ⟨#[]⟩), false, false)) (by rw [res_cell_tmp2 rfl]; go_simp; try rfl) rfl ⟨by rw [HZ.out], ?_⟩
    iterate 2 (refine Below.setCell ?_ (by dsimp only; omega) _)
    exact B2

  by_cases h4 : 40 < n
  case pos =>
    have HZ : Hid (Q = ((0, ⟨#[]⟩), false, false)) := by show _ = _; rw [HW.out, if_pos (.inr (.inr (by omega)))]
    clear hK
    go_wp2_with fail
    refine bodyPost_ret (v := offV ((0, ⟨#[]⟩), false, false)) (by rw [res_cell_tmp2 rfl]; go_simp; try rfl) rfl ⟨by rw [HZ.out], ?_⟩
    iterate 2 (refine Below.setCell ?_ (by dsimp only; omega) _)
    exact B2

  go_wp2_with fail
  refine (hK _ trivial).mono ?_
  rintro x w2 ⟨r, ks, rfl, R, hr, hk, b2⟩
  replace x1 := x1.later b2
  replace x2 := x2.later b2
  have hB1 := B2.size
  have hlt : w.heap.size + 1 < w1.heap.size := H1.out
  have B3 := B2.trans (b2.mono B2.size)
  have hb2 := b2.size
  have hds : bs.data.toList.length = bs.size := by simp
  have hR := fun p => reaches r ks nn ba bs.data.toList w2 R p
  rw [hds] at hR
  have HDS : Hid _ := hds
  clear hK b2 B2 r0 r1 q0 q1 e0 e1 e2 e3 e4 e5 hds
  have e0 := x1.cell (i := 0) rfl
  have e1 := x1.cell (i := 1) rfl
  have e2 := x1.cell (i := 2) rfl
  have e3 := x1.cell (i := 3) rfl
  have e4 := x1.cell (i := 4) rfl
  have e5 := x1.cell (i := 5) rfl
  have r0 := x2.cell (i := 0) rfl
  have r1 := x2.cell (i := 1) rfl
  have q0 := x2.free 0
  have q1 := x2.free 1
  by_cases hin : p < ba ∨ ba + bs.size < p
  case pos =>
    have hd : decide (ba ≤ p ∧ p ≤ ba + (bs.size : Int)) = false := decide_eq_false (by omega)
    have hR2 := hR p
    rw [hd] at hR2
    have HZ : Hid (Q = ((0, ⟨#[]⟩), false, false)) := by show _ = _; rw [HW.out, if_pos (by omega)]
    clear hd hR
    go_wp2_with fail
    refine hR2.mono ?_
    rintro x w3 ⟨rfl, rfl⟩
    go_wp2_with fail
    refine bodyPost_ret (v := offV ((0, ⟨#[]⟩), false, false)) (by rw [res_cell_tmp2 rfl]; go_simp; try rfl) rfl ⟨by rw [HZ.out], ?_⟩
    iterate 2 (refine Below.setCell ?_ (by dsimp only; omega) _)
    exact B3

  have hd : decide (ba ≤ p ∧ p ≤ ba + (bs.size : Int)) = true := decide_eq_true (by omega)
  have hR2 := hR p
  rw [hd] at hR2
  replace HW : Hid (Q = (if st = p ∧ (en && decide (st = ba + bs.size)) = false then ((0, ⟨#[]⟩), false, false) else
    ((p, bs.extract (p - ba).toNat (st - ba).toNat), (en && decide (st = ba + bs.size)), true))) := by
    have := HW.out
    rw [if_neg (by omega)] at this
    exact this
  have h1 : ba ≤ p := by omega
  have h2 : p ≤ ba + bs.size := by omega
  have hst := HS.out
  have s1 : p ≤ st := by omega
  have s2 : st ≤ ba + bs.size := by omega
  have HSI : Hid (st = max p (min (min (p + n) lm) (ba + bs.size))) := by show _ = _; omega
  have hBt := fun w' (R' : Ring w' r ks nn ba bs.data.toList) => between r ks nn ba bs.data.toList w' R' hn4 j2 (p - ba).toNat (st - p).toNat p st (by omega) (by omega) (by have := HDS.out; omega)
  have c2 := R.var.cell (i := 2) rfl
  rw [HDS.out] at c2
  have HBT : Hid _ := hBt
  clear hd hR hin hst HS hBt
  go_wp2_with fail
  refine hR2.mono ?_
  rintro x w3 ⟨rfl, rfl⟩
  clear hR2
  go_upto_region 6 with (fail)
  have d3 := Draw.Later.cell e3
  have dc := Draw.Later.cell c2
  go_cut [10] from 31 (fun v wr => v = .int .i64 st ∧ Below w2.heap.size w2 wr)
  case first =>
    refine Draw.wp_region_later hmix (by kernel_rfl) ?_
    repeat (go_big_quiet_step (fail))
    refine wpQuiet_nil ?_
    intro wq hw'
    obtain ⟨q9, hq⟩ := hw'
    have hBq := q9.h
    rw [← hq] at hBq
    clear hq q9
    go_wp2_with fail
    all_goals go_meet
    all_goals exact ⟨congrArg (Value.int .i64) (by have := HSI.out; first | omega | ((repeat' split) <;> omega)), hBq⟩
  case rest =>
    obtain ⟨rfl, b4⟩ := hcut
    replace x1 := x1.later b4
    replace x2 := x2.later b4
    replace R := R.later b4
    have B4 := B3.trans (b4.mono B3.size)
    clear b4 B3 d3 dc e0 e1 e2 e3 e4 e5 r0 r1 q0 q1 c2 HSI
    have c2 := R.var.cell (i := 2) rfl
    rw [HDS.out] at c2
    have e4 := x1.cell (i := 4) rfl
    have r0 := x2.cell (i := 0) rfl
    have r1 := x2.cell (i := 1) rfl
    have q0 := x2.free 0
    have q1 := x2.free 1
    obtain ⟨E, hE⟩ : ∃ E, (en && decide (st = ba + bs.size)) = E := ⟨_, rfl⟩
    replace HW : Hid (Q = (if st = p ∧ E = false then ((0, ⟨#[]⟩), false, false) else ((p, bs.extract (p - ba).toNat (st - ba).toNat), E, true))) := by
      have := HW.out
      rw [hE] at this
      exact this
    have HEE : Hid _ := hE
    clear hE
    go_upto_region 7 with (fail)
    go_cut [11] from 43 (fun v wr => v = .bool E ∧ wr = wc)
    case first =>
      cases en
      case false =>
        have hb : E = false := HEE.out.symm
        go_wp2_with fail
        go_meet
        exact ⟨by rw [hb], rfl⟩
      have hb : E = decide (st = ba + bs.size) := HEE.out.symm
      generalize ba + (bs.size : Int) = en2 at *
      go_wp2_with fail
      go_meet
      exact ⟨by rw [hb]; rfl, rfl⟩
    case rest =>
      obtain ⟨rfl, rfl⟩ := hcut
      by_cases hc : st = p ∧ E = false
      case pos =>
        have HZ : Hid (Q = ((0, ⟨#[]⟩), false, false)) := by
          show _ = _
          rw [HW.out, if_pos hc]
        obtain ⟨hc1, rfl⟩ := hc
        go_wp2_with fail
        refine bodyPost_ret (v := offV ((0, ⟨#[]⟩), false, false)) (by rw [res_cell_tmp2 rfl]; go_simp; try rfl) rfl ⟨by rw [HZ.out], ?_⟩
        iterate 2 (refine Below.setCell ?_ (by dsimp only; omega) _)
        exact B4
      have HZ : Hid (Q = ((p, bs.extract (p - ba).toNat (st - ba).toNat), E, true)) := by
        show _ = _
        rw [HW.out, if_neg hc]
      have hc' : E = true ∨ (E = false ∧ ¬ st = p) := by cases E <;> simp at hc ⊢; exact hc
      have hBt := HBT.out _ R
      have HC5 : Hid ((⟨((bs.data.toList.drop (p - ba).toNat).take (st - p).toNat).toArray⟩ : ByteArray) = bs.extract (p - ba).toNat (st - ba).toNat) := bytes_mid _ _ _ _ (by omega)
      have HLN : Hid ((((bs.data.toList.drop (p - ba).toNat).take (st - p).toNat).length : Nat) = (st - p).toNat) := by show _ = _; have := HDS.out; simp; omega
      obtain ⟨m, hm⟩ : ∃ m : Nat, (st - p).toNat = m := ⟨_, rfl⟩
      rw [hm] at hBt HC5 HLN
      clear hm
      generalize (bs.data.toList.drop (p - ba).toNat).take m = C5 at *
      clear hc
      have hc2 : (st = p ∧ E = true) ∨ (E = true ∧ ¬ st = p) ∨ (E = false ∧ ¬ st = p) := by
        rcases hc' with h | h
        · by_cases q : st = p
          · exact .inl ⟨q, h⟩
          · exact .inr (.inl ⟨h, q⟩)
        · exact .inr (.inr h)
      clear hc'
      rcases hc2 with ⟨rfl, rfl⟩ | ⟨rfl, hc⟩ | ⟨rfl, hc⟩
      all_goals go_wp2_with fail
      all_goals
        refine hBt.mono ?_
        rintro x w5 ⟨a5, c5, rfl, o5, b5⟩
        have hcv := conv_own o5
        rw [HC5.out, HLN.out] at hcv
        replace x2 := x2.later b5
        have B5 := B4.trans (b5.mono B4.size)
        clear r0 r1 q0 q1 c2 e4
        have r0 := x2.cell (i := 0) rfl
        have r1 := x2.cell (i := 1) rfl
        have q0 := x2.free 0
        have q1 := x2.free 1
        go_wp2_with fail
        refine bodyPost_ret (v := offV Q) (by rw [res_cell_tmp2 rfl, HZ.out]; go_simp; try rfl) rfl ⟨rfl, ?_⟩
        iterate 2 (refine Below.setCell ?_ (by dsimp only; omega) _)
        exact B5

end Go.Proofs.Ytonhjlhpppfcpaa.Giv
