/- Givers (chapter 6), the program's side: Hears. -/
import Derived.Test.YtjnkjeajkmgcmaaGreatMg12
import Derived.Test.YtjnkjeajkmgcmaaGreatGivC
namespace Go.Proofs.YtjnkjeajkmgcmaaGreat.Giv
open Go.RowKit RowG
set_option linter.unusedVariables false
set_option linter.unusedSimpArgs false

theorem bytes_drop (b : ByteArray) (k : Nat) : (⟨(b.data.toList.drop k).toArray⟩ : ByteArray) = b.extract k b.size := by
  apply ByteArray.ext
  rw [ByteArray.data_extract]
  apply Array.ext'
  rw [Array.toList_extract, List.extract_eq_take_drop, List.take_of_length_le (by simp)]
theorem lm_max {g : Gv} {base limit : Int} : lmT g base limit = if Num.plB limit then max (max g.lm base) limit else max g.lm base := by
  unfold lmT upB
  cases h : Num.plB limit
  · simp only [Bool.false_and, Bool.false_eq_true, if_false]
    split <;> omega
  · by_cases h2 : g.lm < limit
    · simp only [decide_eq_true h2, Bool.true_and, if_true]
      split <;> omega
    · simp only [decide_eq_false h2, Bool.true_and, Bool.false_eq_true, if_false, if_true]
      split <;> omega
theorem drew_heap (w : World) : w.drew.heap = w.heap := rfl
theorem keep12 {w : World} {k a b : Nat} {v0 v1 v2 v3 v4 v5 x0 x1 x2 x3 x4 x5 : Value} (h : w.drew.cell? ⟨k, 0, none⟩ = some v0 ∧ w.drew.cell? ⟨k, 1, none⟩ = some v1 ∧ w.drew.cell? ⟨k, 2, none⟩ = some v2 ∧ w.drew.cell? ⟨k, 3, none⟩ = some v3 ∧ w.drew.cell? ⟨k, 4, none⟩ = some v4 ∧ w.drew.cell? ⟨k, 5, none⟩ = some v5 ∧ w.drew.cell? ⟨a, 0, none⟩ = some x0 ∧ w.drew.cell? ⟨a, 1, none⟩ = some x1 ∧ w.drew.cell? ⟨a, 2, none⟩ = some x2 ∧ w.drew.cell? ⟨a, 3, none⟩ = some x3 ∧ w.drew.cell? ⟨a, 4, none⟩ = some x4 ∧ w.drew.cell? ⟨a, 5, none⟩ = some x5) (hk : k ≠ b) (ha : a ≠ b) (u0 u1 u2 u3 u4 u5 : Value) : (Tak.put6 w b u0 u1 u2 u3 u4 u5).drew.cell? ⟨k, 0, none⟩ = some v0 ∧ (Tak.put6 w b u0 u1 u2 u3 u4 u5).drew.cell? ⟨k, 1, none⟩ = some v1 ∧ (Tak.put6 w b u0 u1 u2 u3 u4 u5).drew.cell? ⟨k, 2, none⟩ = some v2 ∧ (Tak.put6 w b u0 u1 u2 u3 u4 u5).drew.cell? ⟨k, 3, none⟩ = some v3 ∧ (Tak.put6 w b u0 u1 u2 u3 u4 u5).drew.cell? ⟨k, 4, none⟩ = some v4 ∧ (Tak.put6 w b u0 u1 u2 u3 u4 u5).drew.cell? ⟨k, 5, none⟩ = some v5 ∧ (Tak.put6 w b u0 u1 u2 u3 u4 u5).drew.cell? ⟨a, 0, none⟩ = some x0 ∧ (Tak.put6 w b u0 u1 u2 u3 u4 u5).drew.cell? ⟨a, 1, none⟩ = some x1 ∧ (Tak.put6 w b u0 u1 u2 u3 u4 u5).drew.cell? ⟨a, 2, none⟩ = some x2 ∧ (Tak.put6 w b u0 u1 u2 u3 u4 u5).drew.cell? ⟨a, 3, none⟩ = some x3 ∧ (Tak.put6 w b u0 u1 u2 u3 u4 u5).drew.cell? ⟨a, 4, none⟩ = some x4 ∧ (Tak.put6 w b u0 u1 u2 u3 u4 u5).drew.cell? ⟨a, 5, none⟩ = some x5 := by
  have e : ∀ i, (Tak.put6 w b u0 u1 u2 u3 u4 u5).drew.cell? ⟨k, i, none⟩ = w.drew.cell? ⟨k, i, none⟩ := fun i => World.cell?_of_block (by rw [drew_heap, drew_heap]; exact Tak.heap_put6 w b k u0 u1 u2 u3 u4 u5 hk)
  have f : ∀ i, (Tak.put6 w b u0 u1 u2 u3 u4 u5).drew.cell? ⟨a, i, none⟩ = w.drew.cell? ⟨a, i, none⟩ := fun i => World.cell?_of_block (by rw [drew_heap, drew_heap]; exact Tak.heap_put6 w b a u0 u1 u2 u3 u4 u5 ha)
  rw [e, e, e, e, e, e, f, f, f, f, f, f]
  exact h
theorem ext_zero (b : ByteArray) : b.extract 0 b.size = b := by
  apply ByteArray.ext
  rw [ByteArray.data_extract]
  apply Array.ext'
  rw [Array.toList_extract, List.extract_eq_take_drop, List.drop_zero, List.take_of_length_le (by simp)]

set_option maxRecDepth 10000 in
set_option maxHeartbeats 8000000 in
theorem implHears (g : Gv) (base limit : Int) (done : Bool) (w : World) (hg : g.bs.size ≤ 2097152) :
    Calls Tryz.prog 52 #[g.v, .int .i64 base, .int .i64 limit, .bool done] w fun x w' => x = .returned (.tuple #[(hearsG g base limit done).1.v, .bool (hearsG g base limit done).2]) ∧ Below w.heap.size w w' := by
  have hmix := mix
  have hG := fun w' => implGiverOk g w' hg
  have hK := fun w' hok => keptBy g w' hok
  have HIN : Hid (g.ok = true → _) := fun hok => (ok_iff (g := g)).1 hok
  have HM9 : Hid (g.ok = true → (mostG g).toNat ≤ 400) := fun hok => by
    have := ok_iff.1 hok
    unfold mostG
    omega
  obtain ⟨ok, hok⟩ : ∃ ok, g.ok = ok := ⟨_, rfl⟩
  have HW : Hid (hearsG g base limit done = if ok then (if base < g.ba ∨ g.ba + g.bs.size < base then (g, false) else (⟨base, g.bs.extract (base - g.ba).toNat g.bs.size, g.cp, lmT g base limit, g.en, g.dn || dnB g base done⟩, (decide (g.ba < base) || upB g limit) || dnB g base done)) else (zeroG, false)) := by show _ = _; unfold hearsG hearG; rw [hok]
  have HU : Hid (upB g limit = (Num.plB limit && decide (g.lm < limit))) := rfl
  have HL : Hid (lmT g base limit = if Num.plB limit then max (max g.lm base) limit else max g.lm base) := lm_max
  have HD : Hid (dnB g base done = (done && (g.en && (decide ((g.bs.extract (base - g.ba).toNat g.bs.size).size = 0) && !g.dn)))) := rfl
  rw [hok] at hG hK
  replace HIN : Hid (ok = true → _) := fun h => HIN.out (hok.trans h)
  have HM : Hid (ok = true → (mostG g).toNat ≤ 400) := fun h => HM9.out (hok.trans h)
  clear hok HM9
  generalize hearsG g base limit done = Q at *
  generalize upB g limit = up at *
  generalize lmT g base limit = LM at *
  generalize dnB g base done = D at *
  generalize (mostG g).toNat = n at *
  obtain ⟨ba, bs, cp, lm, en, dn⟩ := g
  dsimp only [Gv.v, Gv.c] at *
  have v1 : Var 25 ((w.alloc (.cells #[.int .i64 ba, .string bs, .int .i64 cp, .int .i64 lm, .bool en, .bool dn] 25)).alloc (.cells #[.int .i64 0, .string ⟨#[]⟩, .int .i64 0, .int .i64 0, .bool false, .bool false] 25)) w.heap.size [.int .i64 ba, .string bs, .int .i64 cp, .int .i64 lm, .bool en, .bool dn] := (Var.new w [.int .i64 ba, .string bs, .int .i64 cp, .int .i64 lm, .bool en, .bool dn]).alloc _
  have v2 : Var 25 ((w.alloc (.cells #[.int .i64 ba, .string bs, .int .i64 cp, .int .i64 lm, .bool en, .bool dn] 25)).alloc (.cells #[.int .i64 0, .string ⟨#[]⟩, .int .i64 0, .int .i64 0, .bool false, .bool false] 25)) (w.heap.size + 1) [.int .i64 0, .string ⟨#[]⟩, .int .i64 0, .int .i64 0, .bool false, .bool false] := by
    have := Var.new (T := 25) (w.alloc (.cells #[.int .i64 ba, .string bs, .int .i64 cp, .int .i64 lm, .bool en, .bool dn] 25)) [.int .i64 0, .string ⟨#[]⟩, .int .i64 0, .int .i64 0, .bool false, .bool false]
    simpa using this
  have b1 : Below w.heap.size w ((w.alloc (.cells #[.int .i64 ba, .string bs, .int .i64 cp, .int .i64 lm, .bool en, .bool dn] 25)).alloc (.cells #[.int .i64 0, .string ⟨#[]⟩, .int .i64 0, .int .i64 0, .bool false, .bool false] 25)) := ((Below.refl _ _).alloc (Nat.le_refl _) _).alloc (by simp) _
  go_enter Tryz.func52, Tryz.ntmps52
  go_wp2_with fail
  generalize ((w.alloc (.cells #[.int .i64 ba, .string bs, .int .i64 cp, .int .i64 lm, .bool en, .bool dn] 25)).alloc (.cells #[.int .i64 0, .string ⟨#[]⟩, .int .i64 0, .int .i64 0, .bool false, .bool false] 25)) = V at *
  refine (hG _).mono ?_
  rintro x w1 ⟨rfl, b2⟩
  have x1 := v1.later b2
  have x2 := v2.later b2
  have B2 := b1.trans (b2.mono b1.size)
  clear v1 v2 b1 b2 hG
  have H1 : Hid (w.heap.size + 1 < w1.heap.size) := x2.lt
  obtain ⟨e0, e1, e2, e3, e4, e5⟩ := x1.c6
  obtain ⟨r0, r1, r2, r3, r4, r5⟩ := x2.c6
  obtain ⟨q0, q1, q2, q3, q4, q5⟩ := x2.f6
  cases ok
  · clear hK
    go_wp2_with fail
    refine bodyPost_ret (v := .tuple #[.agg #[.int .i64 0, .string ⟨#[]⟩, .int .i64 0, .int .i64 0, .bool false, .bool false], .bool false]) (by rw [Tak.res_cell_tmp rfl]; go_simp; try rfl) rfl ⟨by rw [HW.out]; rfl, ?_⟩
    iterate 6 (refine Below.setCell ?_ (by dsimp only; omega) _)
    exact B2
  have hn4 := HM.out rfl
  obtain ⟨⟨i8, i9⟩, ⟨j1, j2⟩, i3, i4, ⟨j3, j4⟩, i6, i7⟩ := HIN.out rfl
  clear HIN HM i7
  go_wp2_with fail
  refine (hK _ trivial).mono ?_
  rintro x w2 ⟨r, ks, rfl, R, hr, hk, b2⟩
  replace x1 := x1.later b2
  replace x2 := x2.later b2
  have hB1 := B2.size
  have hlt : w.heap.size + 1 < w1.heap.size := H1.out
  have B3 := B2.trans (b2.mono B2.size)
  have hb2 := b2.size
  have hds : bs.data.toList.length = bs.size := by simp
  have hR := fun p => reaches r ks n ba bs.data.toList w2 R p
  rw [hds] at hR
  have HDS : Hid _ := hds
  clear hK b2 B2 r0 r1 r2 r3 r4 r5 q0 q1 q2 q3 q4 q5 e0 e1 e2 e3 e4 e5 hds
  obtain ⟨e0, e1, e2, e3, e4, e5⟩ := x1.c6
  obtain ⟨r0, r1, r2, r3, r4, r5⟩ := x2.c6
  obtain ⟨q0, q1, q2, q3, q4, q5⟩ := x2.f6
  by_cases hin : base < ba ∨ ba + bs.size < base
  case pos =>
    have hd : decide (ba ≤ base ∧ base ≤ ba + (bs.size : Int)) = false := decide_eq_false (by omega)
    have hR2 := hR base
    rw [hd] at hR2
    clear hd hR
    go_wp2_with fail
    refine hR2.mono ?_
    rintro x w3 ⟨rfl, rfl⟩
    go_wp2_with fail
    refine bodyPost_ret (v := .tuple #[.agg #[.int .i64 ba, .string bs, .int .i64 cp, .int .i64 lm, .bool en, .bool dn], .bool false]) (by rw [Tak.res_cell_tmp rfl]; go_simp; try rfl) rfl ⟨by rw [HW.out]; simp only [if_true]; rw [if_pos hin], ?_⟩
    iterate 6 (refine Below.setCell ?_ (by dsimp only; omega) _)
    exact B3
  have hd : decide (ba ≤ base ∧ base ≤ ba + (bs.size : Int)) = true := decide_eq_true (by omega)
  have hR2 := hR base
  rw [hd] at hR2
  replace HW : Hid (Q = (⟨base, bs.extract (base - ba).toNat bs.size, cp, LM, en, dn || D⟩, (decide (ba < base) || up) || D)) := by
    have := HW.out
    simp only [if_true] at this
    rw [if_neg hin] at this
    exact this
  have h1 : ba ≤ base := by omega
  have h2 : base ≤ ba + bs.size := by omega
  have hD0 := dropsBelow r ks n ba bs.data.toList w2 R (base - ba).toNat base (by omega) (by have := HDS.out; omega)
  clear hd hR hin
  go_wp2_with fail
  refine hR2.mono ?_
  rintro x w3 ⟨rfl, rfl⟩
  go_wp2_with fail
  refine hD0.mono ?_
  rintro x w3 ⟨rfl, R3, K3⟩
  replace x1 := x1.kept K3 (by omega)
  replace x2 := x2.kept K3 (by omega)
  have B4 := B3.trans (K3.below (by omega) B3.size)
  have hb3 := K3.size
  clear hR2 hD0 R K3 B3 r0 r1 r2 r3 r4 r5 q0 q1 q2 q3 q4 q5 e0 e1 e2 e3 e4 e5
  obtain ⟨e0, e1, e2, e3, e4, e5⟩ := x1.c6
  have v11 : Var 25 (w3.alloc (.cells #[.int .i64 ba, .string bs, .int .i64 cp, .int .i64 lm, .bool en, .bool dn] 25)) w3.heap.size [.int .i64 ba, .string bs, .int .i64 cp, .int .i64 lm, .bool en, .bool dn] := Var.new w3 _
  have hR4 : Ring (w3.alloc (.cells #[.int .i64 ba, .string bs, .int .i64 cp, .int .i64 lm, .bool en, .bool dn] 25)) r ks n base (bs.data.toList.drop (base - ba).toNat) := R3.later ((Below.refl _ _).alloc (Nat.le_refl _) _)
  replace x1 := x1.alloc (.cells #[.int .i64 ba, .string bs, .int .i64 cp, .int .i64 lm, .bool en, .bool dn] 25)
  replace x2 := x2.alloc (.cells #[.int .i64 ba, .string bs, .int .i64 cp, .int .i64 lm, .bool en, .bool dn] 25)
  have B5 : Below w.heap.size w (w3.alloc (.cells #[.int .i64 ba, .string bs, .int .i64 cp, .int .i64 lm, .bool en, .bool dn] 25)) := B4.alloc B4.size _
  have hk11 : w.heap.size + 1 < w3.heap.size := by omega
  have hrk : r < w3.heap.size := R3.var.lt
  obtain ⟨C5, hC5⟩ : ∃ C5, bs.data.toList.drop (base - ba).toNat = C5 := ⟨_, rfl⟩
  rw [hC5] at hR4
  have HC5 : Hid ((⟨C5.toArray⟩ : ByteArray) = bs.extract (base - ba).toNat bs.size) := by show _ = _; rw [← hC5, bytes_drop]
  clear B4 hC5 R3
  go_upto_region 8 with (fail)
  generalize w3.alloc (.cells #[.int .i64 ba, .string bs, .int .i64 cp, .int .i64 lm, .bool en, .bool dn] 25) = W5 at *
  generalize w3.heap.size = k11 at *
  clear e0 e1 e2 e3 e4 e5
  have hz2 : Hid (ba = base → bs.extract (base - ba).toNat bs.size = bs) := fun q => by rw [q]; simp only [Int.sub_self, Int.toNat_zero]; exact ext_zero bs
  have hse := isEmpty_eq (bs.extract (base - ba).toNat bs.size)
  generalize bs.extract (base - ba).toNat bs.size = b2 at *
  have hA := allOf r ks n base C5 W5.drew hR4.drew hn4 (by omega)
  obtain ⟨y0, y1, y2, y3, y4, y5⟩ := v11.f6
  obtain ⟨d0, d1, d2, d3, d4, d5⟩ := v11.c6
  have HSE : Hid _ := hse
  clear hse
  have hk12 : k11 < W5.heap.size := v11.lt
  have hk13 : k11 < W5.drew.heap.size := v11.lt
  go_cut [] from 27 (fun wr => Var 25 wr k11 [.int .i64 base, .string b2, .int .i64 cp, .int .i64 lm, .bool en, .bool dn] ∧ Var 25 wr w.heap.size [.int .i64 ba, .string bs, .int .i64 cp, .int .i64 lm, .bool en, .bool dn] ∧ Var 25 wr (w.heap.size + 1) [.int .i64 0, .string ⟨#[]⟩, .int .i64 0, .int .i64 0, .bool false, .bool false] ∧ Below w.heap.size w wr)
  case first =>
    refine wp_region_held_drew (S := (fun w' => True)) (by kernel_rfl) ?_ (fun hHeld => ?_)
    focus ((try dsimp only) <;> (trivial))
    refine wpAnyH_take (i := 0) (v := ?_) rfl (by kernel_rfl) (by kernel_rfl) (by kernel_rfl) (fun _ _ _ h => h) (Or.inl ⟨by rfl, ?_⟩) (by assumption) ?_
    rotate_left 1
    focus (intro wS hSw; (try dsimp only at hSw); go_simp; first | done | (constructor <;> with_reducible rfl) | with_reducible rfl)
    (try simp only [Act.put, List.getElem_toArray, List.getElem_cons_zero, List.getElem_cons_succ, List.setIfInBounds_toArray, List.set_cons_zero, List.set_cons_succ])
    refine wpAnyH_take (i := 1) (v := ?_) rfl (by kernel_rfl) (by kernel_rfl) (by kernel_rfl) (fun _ _ _ h => h) (Or.inl ⟨by rfl, ?_⟩) (by assumption) ?_
    rotate_left 1
    focus (intro wS hSw; (try dsimp only at hSw); go_simp; first | done | (constructor <;> with_reducible rfl) | with_reducible rfl)
    (try simp only [Act.put, List.getElem_toArray, List.getElem_cons_zero, List.getElem_cons_succ, List.setIfInBounds_toArray, List.set_cons_zero, List.set_cons_succ])
    refine wpAnyH_take (i := 4) (v := ?_) rfl (by kernel_rfl) (by kernel_rfl) (by kernel_rfl) (fun _ _ _ h => h) (Or.inl ⟨by rfl, ?_⟩) (by assumption) ?_
    rotate_left 1
    focus (intro wS hSw; (try dsimp only at hSw); go_simp; first | done | (constructor <;> with_reducible rfl) | with_reducible rfl)
    (try simp only [Act.put, List.getElem_toArray, List.getElem_cons_zero, List.getElem_cons_succ, List.setIfInBounds_toArray, List.set_cons_zero, List.set_cons_succ])
    refine wpAnyH_ready (rs := [2]) (by kernel_rfl) (by simp) ?_
    refine AllReadyH.cons rfl (fun K hK => ?_) AllReadyH.nil
    (go_simp; refine hA.mono ?_; rintro x w6 ⟨a6, c6, rfl, o6, b6⟩; have hcv := conv_own o6; rw [HC5.out] at hcv; have hcv2 := conv_own (o6.setCell (p := ⟨k11, 0, none⟩) (fun z e => by have := (o6.lt z e).1; dsimp only; omega) (.int .i64 base)); rw [HC5.out] at hcv2; have v6 := v11.drew.later b6; have z1 := x1.drew.later b6; have z2 := x2.drew.later b6; have B6 := B5.drew.trans (b6.mono B5.size); have s0 := v6.cell (i := 0) rfl; have s1 := v6.cell (i := 1) rfl; have f0 := v6.free 0; have f1 := v6.free 1)
    refine hK.out _ _ ?_ (fun hHeld2 => ?_)
    focus ((try dsimp only) <;> (trivial))
    clear hK K
    replace hHeld := hHeld2
    clear hHeld2
    (try simp only [Act.put, List.getElem_toArray, List.getElem_cons_zero, List.getElem_cons_succ, List.setIfInBounds_toArray, List.set_cons_zero, List.set_cons_succ])
    refine wpAnyH_ready (rs := [3, 5]) (by kernel_rfl) (by simp) ?_
    refine AllReadyH.cons rfl (fun K hK => ?_) (AllReadyH.cons rfl (fun K hK => ?_) (AllReadyH.nil))
    focus
      go_simp
      refine hK.out _ _ ?_ (fun hHeld2 => ?_)
      focus ((try dsimp only) <;> (trivial))
      clear hK K
      replace hHeld := hHeld2
      clear hHeld2
      (try simp only [Act.put, List.getElem_toArray, List.getElem_cons_zero, List.getElem_cons_succ, List.setIfInBounds_toArray, List.set_cons_zero, List.set_cons_succ])
      refine wpAnyH_ready (rs := [5]) (by kernel_rfl) (by simp) ?_
      refine AllReadyH.cons rfl (fun K hK => ?_) AllReadyH.nil
      go_simp
      refine hK.out _ _ ?_ (fun hHeld2 => ?_)
      focus ((try dsimp only) <;> (trivial))
      clear hK K
      replace hHeld := hHeld2
      clear hHeld2
      (try simp only [Act.put, List.getElem_toArray, List.getElem_cons_zero, List.getElem_cons_succ, List.setIfInBounds_toArray, List.set_cons_zero, List.set_cons_succ])
      refine wpAnyH_take (i := 6) (v := ?_) rfl (by kernel_rfl) (by kernel_rfl) (by kernel_rfl) (fun _ _ _ h => h) (Or.inl ⟨by rfl, ?_⟩) (by assumption) ?_
      rotate_left 1
      focus (intro wS hSw; (try dsimp only at hSw); go_simp; first | done | (constructor <;> with_reducible rfl) | with_reducible rfl)
      (try simp only [Act.put, List.getElem_toArray, List.getElem_cons_zero, List.getElem_cons_succ, List.setIfInBounds_toArray, List.set_cons_zero, List.set_cons_succ])
      refine wpAnyH_ready (rs := [7]) (by kernel_rfl) (by simp) ?_
      refine AllReadyH.cons rfl (fun K hK => ?_) AllReadyH.nil
      go_simp
      refine hK.out _ _ ?_ (fun hHeld2 => ?_)
      focus ((try dsimp only) <;> (trivial))
      clear hK K
      replace hHeld := hHeld2
      clear hHeld2
      (try simp only [Act.put, List.getElem_toArray, List.getElem_cons_zero, List.getElem_cons_succ, List.setIfInBounds_toArray, List.set_cons_zero, List.set_cons_succ])
      refine wpAnyH_done (by kernel_rfl) ?_ _
    rotate_left 1
    focus
      go_simp
      refine hK.out _ _ ?_ (fun hHeld2 => ?_)
      focus ((try dsimp only) <;> (trivial))
      clear hK K
      replace hHeld := hHeld2
      clear hHeld2
      (try simp only [Act.put, List.getElem_toArray, List.getElem_cons_zero, List.getElem_cons_succ, List.setIfInBounds_toArray, List.set_cons_zero, List.set_cons_succ])
      refine wpAnyH_ready (rs := [3]) (by kernel_rfl) (by simp) ?_
      refine AllReadyH.cons rfl (fun K hK => ?_) AllReadyH.nil
      go_simp
      refine hK.out _ _ ?_ (fun hHeld2 => ?_)
      focus ((try dsimp only) <;> (trivial))
      clear hK K
      replace hHeld := hHeld2
      clear hHeld2
      (try simp only [Act.put, List.getElem_toArray, List.getElem_cons_zero, List.getElem_cons_succ, List.setIfInBounds_toArray, List.set_cons_zero, List.set_cons_succ])
      refine wpAnyH_take (i := 6) (v := ?_) rfl (by kernel_rfl) (by kernel_rfl) (by kernel_rfl) (fun _ _ _ h => h) (Or.inl ⟨by rfl, ?_⟩) (by assumption) ?_
      rotate_left 1
      focus (intro wS hSw; (try dsimp only at hSw); go_simp; first | done | (constructor <;> with_reducible rfl) | with_reducible rfl)
      (try simp only [Act.put, List.getElem_toArray, List.getElem_cons_zero, List.getElem_cons_succ, List.setIfInBounds_toArray, List.set_cons_zero, List.set_cons_succ])
      refine wpAnyH_ready (rs := [7]) (by kernel_rfl) (by simp) ?_
      refine AllReadyH.cons rfl (fun K hK => ?_) AllReadyH.nil
      go_simp
      refine hK.out _ _ ?_ (fun hHeld2 => ?_)
      focus ((try dsimp only) <;> (trivial))
      clear hK K
      replace hHeld := hHeld2
      clear hHeld2
      (try simp only [Act.put, List.getElem_toArray, List.getElem_cons_zero, List.getElem_cons_succ, List.setIfInBounds_toArray, List.set_cons_zero, List.set_cons_succ])
      refine wpAnyH_done (by kernel_rfl) ?_ _
    rotate_left 1
    all_goals
      go_wp2_with fail
      go_meet
      refine ⟨(v6.set 0 _).set 1 _, (z1.other (by dsimp only; omega) _).other (by dsimp only; omega) _, (z2.other (by dsimp only; omega) _).other (by dsimp only; omega) _, (B6.setCell (by dsimp only; omega) _).setCell (by dsimp only; omega) _⟩
  case rest =>
    obtain ⟨v6, z1, z2, B6⟩ := hcut
    clear hA hR4 x1 x2 v11 B5 d0 d1 d2 d3 d4 d5 y0 y1 y2 y3 y4 y5 HC5
    obtain ⟨M1, hM1⟩ : ∃ M1, max lm base = M1 := ⟨_, rfl⟩
    have HM1 : Hid _ := hM1
    replace HL : Hid (LM = if Num.plB limit then max M1 limit else M1) := by have := HL.out; rw [hM1] at this; exact this
    clear hM1
    have e3 := z1.cell (i := 3) rfl
    have d3 := v6.cell (i := 3) rfl
    have y3 := v6.free 3
    go_upto_region 9 with (fail)
    go_cut [] from 33 (fun wr => Var 25 wr k11 [.int .i64 base, .string b2, .int .i64 cp, .int .i64 M1, .bool en, .bool dn] ∧ Var 25 wr w.heap.size [.int .i64 ba, .string bs, .int .i64 cp, .int .i64 lm, .bool en, .bool dn] ∧ Var 25 wr (w.heap.size + 1) [.int .i64 0, .string ⟨#[]⟩, .int .i64 0, .int .i64 0, .bool false, .bool false] ∧ Below w.heap.size w wr)
    case first =>
      go_wp2_with fail
      all_goals go_meet
      all_goals
        refine ⟨?_, z1.other (by dsimp only; omega) _, z2.other (by dsimp only; omega) _, B6.setCell (by dsimp only; omega) _⟩
        rw [← HM1.out]
        first | (rw [show max lm base = lm by omega]; exact v6.set 3 _) | (rw [show max lm base = base by omega]; exact v6.set 3 _)
    case rest =>
      clear v6 z1 z2 B6 e3 d3 y3
      obtain ⟨v6, z1, z2, B6⟩ := hcut
      obtain ⟨pl, hpl⟩ : ∃ pl, Num.plB limit = pl := ⟨_, rfl⟩
      have hP := fun w' => isPlaceEq hpl w'
      rw [hpl] at HL HU
      clear hpl
      have d3 := v6.cell (i := 3) rfl
      have y3 := v6.free 3
      go_wp2_with fail
      refine (hP _).mono ?_
      rintro x w9 ⟨rfl, rfl⟩
      go_upto_if 39 with (fail)
      go_cut [] from 40 (fun wr => Var 25 wr k11 [.int .i64 base, .string b2, .int .i64 cp, .int .i64 LM, .bool en, .bool dn] ∧ Var 25 wr w.heap.size [.int .i64 ba, .string bs, .int .i64 cp, .int .i64 lm, .bool en, .bool dn] ∧ Var 25 wr (w.heap.size + 1) [.int .i64 0, .string ⟨#[]⟩, .int .i64 0, .int .i64 0, .bool false, .bool false] ∧ Below w.heap.size w wr)
      case first =>
        cases pl
        case false =>
          have hl : LM = M1 := HL.out
          subst hl
          go_wp2_with fail
          go_meet
          exact ⟨v6, z1, z2, B6⟩
        case true =>
          have hl : LM = max M1 limit := HL.out
          have HLM : Hid _ := hl
          clear hl
          go_wp2_with fail
          all_goals go_meet
          all_goals
            refine ⟨?_, z1.other (by dsimp only; omega) _, z2.other (by dsimp only; omega) _, B6.setCell (by dsimp only; omega) _⟩
            rw [HLM.out]
            first | (rw [show max M1 limit = M1 by omega]; exact v6.set 3 _) | (rw [show max M1 limit = limit by omega]; exact v6.set 3 _)
      case rest =>
        clear v6 z1 z2 B6 d3 y3 hP
        obtain ⟨v6, z1, z2, B6⟩ := hcut
        have e4 := z1.cell (i := 4) rfl
        have e5 := z1.cell (i := 5) rfl
        have d1 := v6.cell (i := 1) rfl
        have d5 := v6.cell (i := 5) rfl
        have y5 := v6.free 5
        go_upto_region 12 with (fail)
        go_cut [] from 45 (fun wr => Var 25 wr k11 [.int .i64 base, .string b2, .int .i64 cp, .int .i64 LM, .bool en, .bool (dn || D)] ∧ Var 25 wr w.heap.size [.int .i64 ba, .string bs, .int .i64 cp, .int .i64 lm, .bool en, .bool dn] ∧ Var 25 wr (w.heap.size + 1) [.int .i64 0, .string ⟨#[]⟩, .int .i64 0, .int .i64 0, .bool false, .bool false] ∧ Below w.heap.size w wr)
        case first =>
          have hse := HSE.out
          cases dn
          case true =>
            go_wp2_with fail
            go_meet
            exact ⟨v6.set 5 _, z1.other (by dsimp only; omega) _, z2.other (by dsimp only; omega) _, B6.setCell (by dsimp only; omega) _⟩
          cases done
          case false =>
            have hd : D = false := HD.out
            subst hd
            go_wp2_with fail
            go_meet
            exact ⟨v6.set 5 _, z1.other (by dsimp only; omega) _, z2.other (by dsimp only; omega) _, B6.setCell (by dsimp only; omega) _⟩
          cases en
          case false =>
            have hd : D = false := HD.out
            subst hd
            go_wp2_with fail
            go_meet
            exact ⟨v6.set 5 _, z1.other (by dsimp only; omega) _, z2.other (by dsimp only; omega) _, B6.setCell (by dsimp only; omega) _⟩
          have hd : D = decide (b2.size = 0) := by rw [HD.out]; simp
          generalize decide (b2.size = 0) = em at *
          subst hd
          go_wp2_with fail
          go_meet
          exact ⟨v6.set 5 _, z1.other (by dsimp only; omega) _, z2.other (by dsimp only; omega) _, B6.setCell (by dsimp only; omega) _⟩
        case rest =>
          clear v6 z1 z2 B6 e4 e5 d1 d5 y5
          obtain ⟨v6, z1, z2, B6⟩ := hcut
          have d0 := v6.drew.cell (i := 0) rfl
          have d1 := v6.drew.cell (i := 1) rfl
          have d2 := v6.drew.cell (i := 2) rfl
          have d3 := v6.drew.cell (i := 3) rfl
          have d4 := v6.drew.cell (i := 4) rfl
          have d5 := v6.drew.cell (i := 5) rfl
          have e0 := z1.drew.cell (i := 0) rfl
          have e1 := z1.drew.cell (i := 1) rfl
          have e2 := z1.drew.cell (i := 2) rfl
          have e3 := z1.drew.cell (i := 3) rfl
          have e4 := z1.drew.cell (i := 4) rfl
          have e5 := z1.drew.cell (i := 5) rfl
          obtain ⟨r0, r1, r2, r3, r4, r5⟩ := z2.c6
          obtain ⟨q0, q1, q2, q3, q4, q5⟩ := z2.f6
          go_upto_region 13 with (fail)
          by_cases hbb : base = ba
          case neg =>
            have HFL : Hid ((decide (ba < base) || up || D) = true) := by show _ = _; rw [decide_eq_true (by omega)]; rfl
            refine Draw.wp_region_Y (S := (fun w' => w'.cell? ⟨k11, 0, none⟩ = some (.int .i64 base) ∧ w'.cell? ⟨k11, 1, none⟩ = some (.string b2) ∧ w'.cell? ⟨k11, 2, none⟩ = some (.int .i64 cp) ∧ w'.cell? ⟨k11, 3, none⟩ = some (.int .i64 LM) ∧ w'.cell? ⟨k11, 4, none⟩ = some (.bool en) ∧ w'.cell? ⟨k11, 5, none⟩ = some (.bool (dn || D)) ∧ w'.cell? ⟨w.heap.size, 0, none⟩ = some (.int .i64 ba) ∧ w'.cell? ⟨w.heap.size, 1, none⟩ = some (.string bs) ∧ w'.cell? ⟨w.heap.size, 2, none⟩ = some (.int .i64 cp) ∧ w'.cell? ⟨w.heap.size, 3, none⟩ = some (.int .i64 lm) ∧ w'.cell? ⟨w.heap.size, 4, none⟩ = some (.bool en) ∧ w'.cell? ⟨w.heap.size, 5, none⟩ = some (.bool dn))) 5 (by kernel_rfl) ?_ (fun hHeld => ?_)
            focus ((try dsimp only) <;> (first | with_reducible exact hHeld | with_reducible exact keep12 hHeld (by omega) (by omega) _ _ _ _ _ _ | with_reducible exact ⟨d0, d1, d2, d3, d4, d5, e0, e1, e2, e3, e4, e5⟩))
            refine Draw.wpAnyY_take (i := 0) (v := ?_) rfl (by kernel_rfl) (by kernel_rfl) (by kernel_rfl) (by kernel_rfl) (fun _ _ _ h => h) (Or.inl ⟨by rfl, ?_⟩) (by assumption) ?_
            rotate_left 1
            focus (intro wS hSw; (try dsimp only at hSw); go_simp; first | done | (constructor <;> with_reducible rfl) | with_reducible rfl)
            (try simp only [Act.put, List.getElem_toArray, List.getElem_cons_zero, List.getElem_cons_succ, List.setIfInBounds_toArray, List.set_cons_zero, List.set_cons_succ])
            refine Draw.wpAnyY_take (i := 1) (v := ?_) rfl (by kernel_rfl) (by kernel_rfl) (by kernel_rfl) (by kernel_rfl) (fun _ _ _ h => h) (Or.inl ⟨by rfl, ?_⟩) (by assumption) ?_
            rotate_left 1
            focus (intro wS hSw; (try dsimp only at hSw); go_simp; first | done | (constructor <;> with_reducible rfl) | with_reducible rfl)
            (try simp only [Act.put, List.getElem_toArray, List.getElem_cons_zero, List.getElem_cons_succ, List.setIfInBounds_toArray, List.set_cons_zero, List.set_cons_succ])
            refine Draw.wpAnyY_take (i := 2) (v := ?_) rfl (by kernel_rfl) (by kernel_rfl) (by kernel_rfl) (by kernel_rfl) (fun _ _ _ h => h) (Or.inl ⟨by rfl, ?_⟩) (by assumption) ?_
            rotate_left 1
            focus (intro wS hSw; (try dsimp only at hSw); go_simp; first | done | (constructor <;> with_reducible rfl) | with_reducible rfl)
            (try simp only [Act.put, List.getElem_toArray, List.getElem_cons_zero, List.getElem_cons_succ, List.setIfInBounds_toArray, List.set_cons_zero, List.set_cons_succ])
            refine Draw.wpAnyY_take (i := 3) (v := ?_) rfl (by kernel_rfl) (by kernel_rfl) (by kernel_rfl) (by kernel_rfl) (fun _ _ _ h => h) (Or.inl ⟨by rfl, ?_⟩) (by assumption) ?_
            rotate_left 1
            focus (intro wS hSw; (try dsimp only at hSw); go_simp; first | done | (constructor <;> with_reducible rfl) | with_reducible rfl)
            (try simp only [Act.put, List.getElem_toArray, List.getElem_cons_zero, List.getElem_cons_succ, List.setIfInBounds_toArray, List.set_cons_zero, List.set_cons_succ])
            refine Draw.wpAnyY_ready (rs := [4]) (by kernel_rfl) (by simp) ?_
            refine Draw.AllReadyY.cons rfl (fun K hK => ?_) Draw.AllReadyY.nil
            go_simp
            refine hK.out _ _ ?_ (fun hHeld2 => ?_)
            focus (intro _ _; (try dsimp only) <;> (first | with_reducible exact hHeld | with_reducible exact keep12 hHeld (by omega) (by omega) _ _ _ _ _ _ | with_reducible exact ⟨d0, d1, d2, d3, d4, d5, e0, e1, e2, e3, e4, e5⟩))
            clear hK K
            replace hHeld := hHeld2 (by decide) hHeld
            clear hHeld2
            (try simp only [Act.put, List.getElem_toArray, List.getElem_cons_zero, List.getElem_cons_succ, List.setIfInBounds_toArray, List.set_cons_zero, List.set_cons_succ])
            refine Draw.wpAnyY_ready (rs := [5]) (by kernel_rfl) (by simp) ?_
            refine Draw.AllReadyY.cons rfl (fun K hK => ?_) Draw.AllReadyY.nil
            go_simp
            refine hK.out _ _ (fun h => absurd rfl h) (fun hHeld2 => ?_)
            clear hK K hHeld hHeld2
            (try simp only [Act.put, List.getElem_toArray, List.getElem_cons_zero, List.getElem_cons_succ, List.setIfInBounds_toArray, List.set_cons_zero, List.set_cons_succ])
            refine Draw.wpAnyY_done (by kernel_rfl) ?_ _
            go_wp2_with fail
            refine bodyPost_ret (v := .tuple #[.agg #[.int .i64 base, .string b2, .int .i64 cp, .int .i64 LM, .bool en, .bool (dn || D)], .bool true]) (by rw [Tak.res_cell_tmp rfl]; go_simp; try rfl) rfl ⟨by rw [HW.out, HFL.out], ?_⟩
            refine Below.drew ?_
            iterate 6 (refine Below.setCell ?_ (by dsimp only; omega) _)
            exact B6
          have hbs2 : b2 = bs := hz2.out hbb.symm
          have hLL : (up = true → ¬ LM = lm) ∧ (up = false → LM = lm) := by
            have h5 := HL.out
            have h6 := HM1.out
            have h7 := HU.out
            refine ⟨fun hu => ?_, fun hu => ?_⟩
            · rw [hu] at h7
              simp at h7
              rw [h7.1] at h5
              simp at h5
              omega
            · rw [hu] at h7
              cases pl
              · simp at h5
                omega
              · simp at h7 h5
                omega
          have hDD : D = true → dn = false := fun hd => by
            have := HD.out
            rw [hd] at this
            simp at this
            exact this.2.2.2
          have hb3 : b2.toList = bs.toList := by rw [hbs2]
          have hd0 : decide (ba < base) = false := decide_eq_false (by omega)
          have HD0 : Hid _ := hd0
          clear hd0
          cases up
          case true =>
            have hLM : ¬ LM = lm := hLL.1 rfl
            have HFL : Hid ((decide (ba < base) || true || D) = true) := by show _ = _; rw [HD0.out]; rfl
            clear hLL hDD
            refine Draw.wp_region_Y (S := (fun w' => w'.cell? ⟨k11, 0, none⟩ = some (.int .i64 base) ∧ w'.cell? ⟨k11, 1, none⟩ = some (.string b2) ∧ w'.cell? ⟨k11, 2, none⟩ = some (.int .i64 cp) ∧ w'.cell? ⟨k11, 3, none⟩ = some (.int .i64 LM) ∧ w'.cell? ⟨k11, 4, none⟩ = some (.bool en) ∧ w'.cell? ⟨k11, 5, none⟩ = some (.bool (dn || D)) ∧ w'.cell? ⟨w.heap.size, 0, none⟩ = some (.int .i64 ba) ∧ w'.cell? ⟨w.heap.size, 1, none⟩ = some (.string bs) ∧ w'.cell? ⟨w.heap.size, 2, none⟩ = some (.int .i64 cp) ∧ w'.cell? ⟨w.heap.size, 3, none⟩ = some (.int .i64 lm) ∧ w'.cell? ⟨w.heap.size, 4, none⟩ = some (.bool en) ∧ w'.cell? ⟨w.heap.size, 5, none⟩ = some (.bool dn))) 5 (by kernel_rfl) ?_ (fun hHeld => ?_)
            focus ((try dsimp only) <;> (first | with_reducible exact hHeld | with_reducible exact keep12 hHeld (by omega) (by omega) _ _ _ _ _ _ | with_reducible exact ⟨d0, d1, d2, d3, d4, d5, e0, e1, e2, e3, e4, e5⟩))
            refine Draw.wpAnyY_take (i := 0) (v := ?_) rfl (by kernel_rfl) (by kernel_rfl) (by kernel_rfl) (by kernel_rfl) (fun _ _ _ h => h) (Or.inl ⟨by rfl, ?_⟩) (by assumption) ?_
            rotate_left 1
            focus (intro wS hSw; (try dsimp only at hSw); go_simp; first | done | (constructor <;> with_reducible rfl) | with_reducible rfl)
            (try simp only [Act.put, List.getElem_toArray, List.getElem_cons_zero, List.getElem_cons_succ, List.setIfInBounds_toArray, List.set_cons_zero, List.set_cons_succ])
            refine Draw.wpAnyY_take (i := 1) (v := ?_) rfl (by kernel_rfl) (by kernel_rfl) (by kernel_rfl) (by kernel_rfl) (fun _ _ _ h => h) (Or.inl ⟨by rfl, ?_⟩) (by assumption) ?_
            rotate_left 1
            focus (intro wS hSw; (try dsimp only at hSw); go_simp; first | done | (constructor <;> with_reducible rfl) | with_reducible rfl)
            (try simp only [Act.put, List.getElem_toArray, List.getElem_cons_zero, List.getElem_cons_succ, List.setIfInBounds_toArray, List.set_cons_zero, List.set_cons_succ])
            refine Draw.wpAnyY_take (i := 2) (v := ?_) rfl (by kernel_rfl) (by kernel_rfl) (by kernel_rfl) (by kernel_rfl) (fun _ _ _ h => h) (Or.inl ⟨by rfl, ?_⟩) (by assumption) ?_
            rotate_left 1
            focus (intro wS hSw; (try dsimp only at hSw); go_simp; first | done | (constructor <;> with_reducible rfl) | with_reducible rfl)
            (try simp only [Act.put, List.getElem_toArray, List.getElem_cons_zero, List.getElem_cons_succ, List.setIfInBounds_toArray, List.set_cons_zero, List.set_cons_succ])
            refine Draw.wpAnyY_take (i := 3) (v := ?_) rfl (by kernel_rfl) (by kernel_rfl) (by kernel_rfl) (by kernel_rfl) (fun _ _ _ h => h) (Or.inl ⟨by rfl, ?_⟩) (by assumption) ?_
            rotate_left 1
            focus (intro wS hSw; (try dsimp only at hSw); go_simp; first | done | (constructor <;> with_reducible rfl) | with_reducible rfl)
            (try simp only [Act.put, List.getElem_toArray, List.getElem_cons_zero, List.getElem_cons_succ, List.setIfInBounds_toArray, List.set_cons_zero, List.set_cons_succ])
            refine Draw.wpAnyY_ready (rs := [4]) (by kernel_rfl) (by simp) ?_
            refine Draw.AllReadyY.cons rfl (fun K hK => ?_) Draw.AllReadyY.nil
            go_simp
            refine hK.out _ _ ?_ (fun hHeld2 => ?_)
            focus (intro _ _; (try dsimp only) <;> (first | with_reducible exact hHeld | with_reducible exact keep12 hHeld (by omega) (by omega) _ _ _ _ _ _ | with_reducible exact ⟨d0, d1, d2, d3, d4, d5, e0, e1, e2, e3, e4, e5⟩))
            clear hK K
            replace hHeld := hHeld2 (by decide) hHeld
            clear hHeld2
            (try simp only [Act.put, List.getElem_toArray, List.getElem_cons_zero, List.getElem_cons_succ, List.setIfInBounds_toArray, List.set_cons_zero, List.set_cons_succ])
            refine Draw.wpAnyY_ready (rs := [5]) (by kernel_rfl) (by simp) ?_
            refine Draw.AllReadyY.cons rfl (fun K hK => ?_) Draw.AllReadyY.nil
            go_simp
            refine hK.out _ _ (fun h => absurd rfl h) (fun hHeld2 => ?_)
            clear hK K hHeld hHeld2
            (try simp only [Act.put, List.getElem_toArray, List.getElem_cons_zero, List.getElem_cons_succ, List.setIfInBounds_toArray, List.set_cons_zero, List.set_cons_succ])
            refine Draw.wpAnyY_done (by kernel_rfl) ?_ _
            go_wp2_with fail
            refine bodyPost_ret (v := .tuple #[.agg #[.int .i64 base, .string b2, .int .i64 cp, .int .i64 LM, .bool en, .bool (dn || D)], .bool true]) (by rw [Tak.res_cell_tmp rfl]; go_simp; try rfl) rfl ⟨by rw [HW.out, HFL.out], ?_⟩
            refine Below.drew ?_
            iterate 6 (refine Below.setCell ?_ (by dsimp only; omega) _)
            exact B6
          have hLM : LM = lm := hLL.2 rfl
          have hDc : D = true ∨ D = false := by cases D <;> simp
          rcases hDc with hDc | hDc
          focus
            have hdn : dn = false := hDD hDc
            have HFL : Hid ((decide (ba < base) || false || D) = true) := by show _ = _; rw [HD0.out, hDc]; rfl
            clear hLL hDD
            refine Draw.wp_region_Y (S := (fun w' => w'.cell? ⟨k11, 0, none⟩ = some (.int .i64 base) ∧ w'.cell? ⟨k11, 1, none⟩ = some (.string b2) ∧ w'.cell? ⟨k11, 2, none⟩ = some (.int .i64 cp) ∧ w'.cell? ⟨k11, 3, none⟩ = some (.int .i64 LM) ∧ w'.cell? ⟨k11, 4, none⟩ = some (.bool en) ∧ w'.cell? ⟨k11, 5, none⟩ = some (.bool (dn || D)) ∧ w'.cell? ⟨w.heap.size, 0, none⟩ = some (.int .i64 ba) ∧ w'.cell? ⟨w.heap.size, 1, none⟩ = some (.string bs) ∧ w'.cell? ⟨w.heap.size, 2, none⟩ = some (.int .i64 cp) ∧ w'.cell? ⟨w.heap.size, 3, none⟩ = some (.int .i64 lm) ∧ w'.cell? ⟨w.heap.size, 4, none⟩ = some (.bool en) ∧ w'.cell? ⟨w.heap.size, 5, none⟩ = some (.bool dn))) 5 (by kernel_rfl) ?_ (fun hHeld => ?_)
            focus ((try dsimp only) <;> (first | with_reducible exact hHeld | with_reducible exact keep12 hHeld (by omega) (by omega) _ _ _ _ _ _ | with_reducible exact ⟨d0, d1, d2, d3, d4, d5, e0, e1, e2, e3, e4, e5⟩))
            refine Draw.wpAnyY_take (i := 0) (v := ?_) rfl (by kernel_rfl) (by kernel_rfl) (by kernel_rfl) (by kernel_rfl) (fun _ _ _ h => h) (Or.inl ⟨by rfl, ?_⟩) (by assumption) ?_
            rotate_left 1
            focus (intro wS hSw; (try dsimp only at hSw); go_simp; first | done | (constructor <;> with_reducible rfl) | with_reducible rfl)
            (try simp only [Act.put, List.getElem_toArray, List.getElem_cons_zero, List.getElem_cons_succ, List.setIfInBounds_toArray, List.set_cons_zero, List.set_cons_succ])
            refine Draw.wpAnyY_take (i := 1) (v := ?_) rfl (by kernel_rfl) (by kernel_rfl) (by kernel_rfl) (by kernel_rfl) (fun _ _ _ h => h) (Or.inl ⟨by rfl, ?_⟩) (by assumption) ?_
            rotate_left 1
            focus (intro wS hSw; (try dsimp only at hSw); go_simp; first | done | (constructor <;> with_reducible rfl) | with_reducible rfl)
            (try simp only [Act.put, List.getElem_toArray, List.getElem_cons_zero, List.getElem_cons_succ, List.setIfInBounds_toArray, List.set_cons_zero, List.set_cons_succ])
            refine Draw.wpAnyY_take (i := 2) (v := ?_) rfl (by kernel_rfl) (by kernel_rfl) (by kernel_rfl) (by kernel_rfl) (fun _ _ _ h => h) (Or.inl ⟨by rfl, ?_⟩) (by assumption) ?_
            rotate_left 1
            focus (intro wS hSw; (try dsimp only at hSw); go_simp; first | done | (constructor <;> with_reducible rfl) | with_reducible rfl)
            (try simp only [Act.put, List.getElem_toArray, List.getElem_cons_zero, List.getElem_cons_succ, List.setIfInBounds_toArray, List.set_cons_zero, List.set_cons_succ])
            refine Draw.wpAnyY_take (i := 3) (v := ?_) rfl (by kernel_rfl) (by kernel_rfl) (by kernel_rfl) (by kernel_rfl) (fun _ _ _ h => h) (Or.inl ⟨by rfl, ?_⟩) (by assumption) ?_
            rotate_left 1
            focus (intro wS hSw; (try dsimp only at hSw); go_simp; first | done | (constructor <;> with_reducible rfl) | with_reducible rfl)
            (try simp only [Act.put, List.getElem_toArray, List.getElem_cons_zero, List.getElem_cons_succ, List.setIfInBounds_toArray, List.set_cons_zero, List.set_cons_succ])
            refine Draw.wpAnyY_ready (rs := [4]) (by kernel_rfl) (by simp) ?_
            refine Draw.AllReadyY.cons rfl (fun K hK => ?_) Draw.AllReadyY.nil
            go_simp
            refine hK.out _ _ ?_ (fun hHeld2 => ?_)
            focus (intro _ _; (try dsimp only) <;> (first | with_reducible exact hHeld | with_reducible exact keep12 hHeld (by omega) (by omega) _ _ _ _ _ _ | with_reducible exact ⟨d0, d1, d2, d3, d4, d5, e0, e1, e2, e3, e4, e5⟩))
            clear hK K
            replace hHeld := hHeld2 (by decide) hHeld
            clear hHeld2
            (try simp only [Act.put, List.getElem_toArray, List.getElem_cons_zero, List.getElem_cons_succ, List.setIfInBounds_toArray, List.set_cons_zero, List.set_cons_succ])
            refine Draw.wpAnyY_ready (rs := [5]) (by kernel_rfl) (by simp) ?_
            refine Draw.AllReadyY.cons rfl (fun K hK => ?_) Draw.AllReadyY.nil
            go_simp
            refine hK.out _ _ (fun h => absurd rfl h) (fun hHeld2 => ?_)
            clear hK K hHeld hHeld2
            (try simp only [Act.put, List.getElem_toArray, List.getElem_cons_zero, List.getElem_cons_succ, List.setIfInBounds_toArray, List.set_cons_zero, List.set_cons_succ])
            refine Draw.wpAnyY_done (by kernel_rfl) ?_ _
            go_wp2_with fail
            refine bodyPost_ret (v := .tuple #[.agg #[.int .i64 base, .string b2, .int .i64 cp, .int .i64 LM, .bool en, .bool (dn || D)], .bool true]) (by rw [Tak.res_cell_tmp rfl]; go_simp; try rfl) rfl ⟨by rw [HW.out, HFL.out], ?_⟩
            refine Below.drew ?_
            iterate 6 (refine Below.setCell ?_ (by dsimp only; omega) _)
            exact B6
          have HFL : Hid ((decide (ba < base) || false || D) = false) := by show _ = _; rw [HD0.out, hDc]; rfl
          clear hLL hDD
          refine Draw.wp_region_Y (S := (fun w' => w'.cell? ⟨k11, 0, none⟩ = some (.int .i64 base) ∧ w'.cell? ⟨k11, 1, none⟩ = some (.string b2) ∧ w'.cell? ⟨k11, 2, none⟩ = some (.int .i64 cp) ∧ w'.cell? ⟨k11, 3, none⟩ = some (.int .i64 LM) ∧ w'.cell? ⟨k11, 4, none⟩ = some (.bool en) ∧ w'.cell? ⟨k11, 5, none⟩ = some (.bool (dn || D)) ∧ w'.cell? ⟨w.heap.size, 0, none⟩ = some (.int .i64 ba) ∧ w'.cell? ⟨w.heap.size, 1, none⟩ = some (.string bs) ∧ w'.cell? ⟨w.heap.size, 2, none⟩ = some (.int .i64 cp) ∧ w'.cell? ⟨w.heap.size, 3, none⟩ = some (.int .i64 lm) ∧ w'.cell? ⟨w.heap.size, 4, none⟩ = some (.bool en) ∧ w'.cell? ⟨w.heap.size, 5, none⟩ = some (.bool dn))) 5 (by kernel_rfl) ?_ (fun hHeld => ?_)
          focus ((try dsimp only) <;> (first | with_reducible exact hHeld | with_reducible exact keep12 hHeld (by omega) (by omega) _ _ _ _ _ _ | with_reducible exact ⟨d0, d1, d2, d3, d4, d5, e0, e1, e2, e3, e4, e5⟩))
          refine Draw.wpAnyY_take (i := 0) (v := ?_) rfl (by kernel_rfl) (by kernel_rfl) (by kernel_rfl) (by kernel_rfl) (fun _ _ _ h => h) (Or.inl ⟨by rfl, ?_⟩) (by assumption) ?_
          rotate_left 1
          focus (intro wS hSw; (try dsimp only at hSw); go_simp; first | done | (constructor <;> with_reducible rfl) | with_reducible rfl)
          (try simp only [Act.put, List.getElem_toArray, List.getElem_cons_zero, List.getElem_cons_succ, List.setIfInBounds_toArray, List.set_cons_zero, List.set_cons_succ])
          refine Draw.wpAnyY_take (i := 1) (v := ?_) rfl (by kernel_rfl) (by kernel_rfl) (by kernel_rfl) (by kernel_rfl) (fun _ _ _ h => h) (Or.inl ⟨by rfl, ?_⟩) (by assumption) ?_
          rotate_left 1
          focus (intro wS hSw; (try dsimp only at hSw); go_simp; first | done | (constructor <;> with_reducible rfl) | with_reducible rfl)
          (try simp only [Act.put, List.getElem_toArray, List.getElem_cons_zero, List.getElem_cons_succ, List.setIfInBounds_toArray, List.set_cons_zero, List.set_cons_succ])
          refine Draw.wpAnyY_take (i := 2) (v := ?_) rfl (by kernel_rfl) (by kernel_rfl) (by kernel_rfl) (by kernel_rfl) (fun _ _ _ h => h) (Or.inl ⟨by rfl, ?_⟩) (by assumption) ?_
          rotate_left 1
          focus (intro wS hSw; (try dsimp only at hSw); go_simp; first | done | (constructor <;> with_reducible rfl) | with_reducible rfl)
          (try simp only [Act.put, List.getElem_toArray, List.getElem_cons_zero, List.getElem_cons_succ, List.setIfInBounds_toArray, List.set_cons_zero, List.set_cons_succ])
          refine Draw.wpAnyY_take (i := 3) (v := ?_) rfl (by kernel_rfl) (by kernel_rfl) (by kernel_rfl) (by kernel_rfl) (fun _ _ _ h => h) (Or.inl ⟨by rfl, ?_⟩) (by assumption) ?_
          rotate_left 1
          focus (intro wS hSw; (try dsimp only at hSw); go_simp; first | done | (constructor <;> with_reducible rfl) | with_reducible rfl)
          (try simp only [Act.put, List.getElem_toArray, List.getElem_cons_zero, List.getElem_cons_succ, List.setIfInBounds_toArray, List.set_cons_zero, List.set_cons_succ])
          refine Draw.wpAnyY_ready (rs := [4]) (by kernel_rfl) (by simp) ?_
          refine Draw.AllReadyY.cons rfl (fun K hK => ?_) Draw.AllReadyY.nil
          go_simp
          refine hK.out _ _ ?_ (fun hHeld2 => ?_)
          focus (intro _ _; (try dsimp only) <;> (first | with_reducible exact hHeld | with_reducible exact keep12 hHeld (by omega) (by omega) _ _ _ _ _ _ | with_reducible exact ⟨d0, d1, d2, d3, d4, d5, e0, e1, e2, e3, e4, e5⟩))
          clear hK K
          replace hHeld := hHeld2 (by decide) hHeld
          clear hHeld2
          (try simp only [Act.put, List.getElem_toArray, List.getElem_cons_zero, List.getElem_cons_succ, List.setIfInBounds_toArray, List.set_cons_zero, List.set_cons_succ])
          refine Draw.wpAnyY_ready (rs := [5]) (by kernel_rfl) (by simp) ?_
          refine Draw.AllReadyY.cons rfl (fun K hK => ?_) Draw.AllReadyY.nil
          go_simp
          refine hK.out _ _ (fun h => absurd rfl h) (fun hHeld2 => ?_)
          clear hK K hHeld hHeld2
          (try simp only [Act.put, List.getElem_toArray, List.getElem_cons_zero, List.getElem_cons_succ, List.setIfInBounds_toArray, List.set_cons_zero, List.set_cons_succ])
          refine Draw.wpAnyY_done (by kernel_rfl) ?_ _
          go_wp2_with fail
          refine bodyPost_ret (v := .tuple #[.agg #[.int .i64 base, .string b2, .int .i64 cp, .int .i64 LM, .bool en, .bool (dn || D)], .bool false]) (by rw [Tak.res_cell_tmp rfl]; go_simp; try rfl) rfl ⟨by rw [HW.out, HFL.out], ?_⟩
          refine Below.drew ?_
          iterate 6 (refine Below.setCell ?_ (by dsimp only; omega) _)
          exact B6

end Go.Proofs.YtjnkjeajkmgcmaaGreat.Giv
