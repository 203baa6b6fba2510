/- Draws of chapter 6: DrawGiverOk, DrawEnds, DrawNewGiver, DrawWrites; at most 4096 bytes. -/
import Derived.Test.YtagpgjojfglkjaaDrawF
namespace Go.Proofs.Ytagpgjojfglkjaa.Giv
open Go.RowKit RowG
set_option linter.unusedVariables false
set_option linter.unusedSimpArgs false

theorem keep6 {w : World} {k b : Nat} {v0 v1 v2 v3 v4 v5 : Value} (h : w.cell? ⟨k, 0, none⟩ = some v0 ∧ w.cell? ⟨k, 1, none⟩ = some v1 ∧ w.cell? ⟨k, 2, none⟩ = some v2 ∧ w.cell? ⟨k, 3, none⟩ = some v3 ∧ w.cell? ⟨k, 4, none⟩ = some v4 ∧ w.cell? ⟨k, 5, none⟩ = some v5) (hk : k ≠ b) (u0 u1 u2 u3 u4 u5 : Value) : (Tak.put6 w b u0 u1 u2 u3 u4 u5).cell? ⟨k, 0, none⟩ = some v0 ∧ (Tak.put6 w b u0 u1 u2 u3 u4 u5).cell? ⟨k, 1, none⟩ = some v1 ∧ (Tak.put6 w b u0 u1 u2 u3 u4 u5).cell? ⟨k, 2, none⟩ = some v2 ∧ (Tak.put6 w b u0 u1 u2 u3 u4 u5).cell? ⟨k, 3, none⟩ = some v3 ∧ (Tak.put6 w b u0 u1 u2 u3 u4 u5).cell? ⟨k, 4, none⟩ = some v4 ∧ (Tak.put6 w b u0 u1 u2 u3 u4 u5).cell? ⟨k, 5, none⟩ = some v5 := by
  have e : ∀ i, (Tak.put6 w b u0 u1 u2 u3 u4 u5).cell? ⟨k, i, none⟩ = w.cell? ⟨k, i, none⟩ := fun i => World.cell?_of_block (Tak.heap_put6 w b k u0 u1 u2 u3 u4 u5 hk)
  rw [e, e, e, e, e, e]
  exact h

set_option maxRecDepth 10000 in
set_option maxHeartbeats 4000000 in
theorem drawGiverOk (a : Option Addr) (len cap : Nat) (w : World) (hb : Draw.Bytes w a len) (hl : len ≤ 4096) :
    Calls Try.prog 36 #[.slice a len cap] w fun x w' => ∃ g : Gv, g.bs.size ≤ 400 ∧ x = .returned g.v ∧ Below w.heap.size w w' := by
  have z2 : Var 25 (w.alloc (.cells #[.int .i64 0, .string ⟨#[]⟩, .int .i64 0, .int .i64 0, .bool false, .bool false] 25)) w.heap.size [.int .i64 0, .string ⟨#[]⟩, .int .i64 0, .int .i64 0, .bool false, .bool false] := Var.new w _
  have b0 : Below w.heap.size w (w.alloc (.cells #[.int .i64 0, .string ⟨#[]⟩, .int .i64 0, .int .i64 0, .bool false, .bool false] 25)) := (Below.refl _ _).alloc (Nat.le_refl _) _
  have hs0 : (w.alloc (.cells #[.int .i64 0, .string ⟨#[]⟩, .int .i64 0, .int .i64 0, .bool false, .bool false] 25)).heap.size = w.heap.size + 1 := by simp
  have hb0 := hb.below b0 (Nat.le_refl _)
  go_enter Try.func36, Try.ntmps36
  go_wp2_with fail
  generalize w.alloc (.cells #[.int .i64 0, .string ⟨#[]⟩, .int .i64 0, .int .i64 0, .bool false, .bool false] 25) = W0 at *
  refine (Draw.l1New a len cap _ hb0 hl).mono ?_
  rintro x w1 ⟨rfl, hh, hw1⟩
  have c1 : Draw.Cur w1 W0.heap.size := by rw [hw1]; exact Draw.cur_new hb0 hl hh _
  have b1 : Below W0.heap.size W0 w1 := by rw [hw1]; exact (Below.refl _ _).alloc (Nat.le_refl _) _
  have h1 : W0.heap.size < w1.heap.size := by rw [hw1]; simp
  have z1 := z2.later b1
  have B1 := b0.trans (b1.mono b0.size)
  clear hw1 z2 b1 hb0
  rw [hs0] at c1 h1
  rw [hs0]
  clear hs0 b0
  go_wp2_with fail
  refine (l6DrawAny _ _ c1).mono ?_
  rintro x w2 ⟨g, hg, rfl, cu2, k2⟩
  have z2 := z1.kept k2 (by omega)
  have B2 : Below w.heap.size w w2 := B1.trans (k2.below (by omega) B1.size)
  dsimp only [Gv.v]
  have r0 := z2.cell (i := 0) rfl
  have r1 := z2.cell (i := 1) rfl
  have r2 := z2.cell (i := 2) rfl
  have r3 := z2.cell (i := 3) rfl
  have r4 := z2.cell (i := 4) rfl
  have r5 := z2.cell (i := 5) rfl
  have x0 := z2.free 0
  have x1 := z2.free 1
  have x2 := z2.free 2
  have x3 := z2.free 3
  have x4 := z2.free 4
  have x5 := z2.free 5
  go_wp2_with fail
  refine bodyPost_ret (v := .agg #[.int .i64 g.ba, .string g.bs, .int .i64 g.cp, .int .i64 g.lm, .bool g.en, .bool g.dn]) (by rw [Tak.res_cell rfl]; go_simp) rfl ⟨g, hg, rfl, ?_⟩
  iterate 6 (refine Below.setCell ?_ (by dsimp only; omega) _)
  exact B2

set_option maxRecDepth 10000 in
set_option maxHeartbeats 4000000 in
theorem drawEnds (a : Option Addr) (len cap : Nat) (w : World) (hb : Draw.Bytes w a len) (hl : len ≤ 4096) :
    Calls Try.prog 12 #[.slice a len cap] w fun x w' => ∃ g : Gv, g.bs.size ≤ 400 ∧ x = .returned g.v ∧ Below w.heap.size w w' := by
  have z2 : Var 25 (w.alloc (.cells #[.int .i64 0, .string ⟨#[]⟩, .int .i64 0, .int .i64 0, .bool false, .bool false] 25)) w.heap.size [.int .i64 0, .string ⟨#[]⟩, .int .i64 0, .int .i64 0, .bool false, .bool false] := Var.new w _
  have b0 : Below w.heap.size w (w.alloc (.cells #[.int .i64 0, .string ⟨#[]⟩, .int .i64 0, .int .i64 0, .bool false, .bool false] 25)) := (Below.refl _ _).alloc (Nat.le_refl _) _
  have hb0 := hb.below b0 (Nat.le_refl _)
  go_enter Try.func12, Try.ntmps12
  go_wp2_with fail
  generalize w.alloc (.cells #[.int .i64 0, .string ⟨#[]⟩, .int .i64 0, .int .i64 0, .bool false, .bool false] 25) = W0 at *
  refine (drawGiverOk a len cap _ hb0 hl).mono ?_
  rintro x w2 ⟨g, hg, rfl, b2⟩
  replace z2 := z2.later b2
  have B2 := b0.trans (b2.mono b0.size)
  dsimp only [Gv.v]
  have r0 := z2.cell (i := 0) rfl
  have r1 := z2.cell (i := 1) rfl
  have r2 := z2.cell (i := 2) rfl
  have r3 := z2.cell (i := 3) rfl
  have r4 := z2.cell (i := 4) rfl
  have r5 := z2.cell (i := 5) rfl
  have x0 := z2.free 0
  have x1 := z2.free 1
  have x2 := z2.free 2
  have x3 := z2.free 3
  have x4 := z2.free 4
  have x5 := z2.free 5
  go_wp2_with fail
  refine bodyPost_ret (v := .agg #[.int .i64 g.ba, .string g.bs, .int .i64 g.cp, .int .i64 g.lm, .bool g.en, .bool g.dn]) (by rw [Tak.res_cell rfl]; go_simp) rfl ⟨g, hg, rfl, ?_⟩
  iterate 6 (refine Below.setCell ?_ (by dsimp only; omega) _)
  exact B2

set_option maxHeartbeats 1000000 in
theorem drawNewTaker (a : Option Addr) (len cap : Nat) (w : World) (hb : Draw.Bytes w a len) (hl : len ≤ 4096) :
    Calls Try.prog 37 #[.slice a len cap] w fun x w' => ∃ v : Int, x = .returned (.int .i64 v) ∧ Below w.heap.size w w' := by
  go_enter Try.func37, Try.ntmps37
  go_wp2_with fail
  refine (Draw.l1New a len cap _ hb hl).mono ?_
  rintro x w1 ⟨rfl, hh, hw1⟩
  have c1 : Draw.Cur w1 w.heap.size := by rw [hw1]; exact Draw.cur_new hb hl hh _
  have b1 : Below w.heap.size w w1 := by rw [hw1]; exact (Below.refl _ _).alloc (Nat.le_refl _) _
  have h1 : w.heap.size < w1.heap.size := by rw [hw1]; simp
  clear hw1
  go_wp2_with fail
  refine (Draw.l1Below w.heap.size 6 _ (c1.alloc _)).mono ?_
  rintro e w2 ⟨y, y0, y1, rfl, c2, k2⟩
  have y2 : y < 6 := by omega
  clear y1
  obtain ⟨v, hv⟩ := six (-1) 0 1 20 400 401 y y0 y2
  have hc := (k2.cell (p := ⟨w1.heap.size, y.toNat, none⟩) (by simp) (show w1.heap.size ≠ w.heap.size by omega)).trans ((World.cell?_alloc_new _ _ _ _).trans hv)
  have B2 : Below w.heap.size w w2 := (b1.alloc b1.size _).trans (k2.below (Nat.le_refl _) (by have := b1.size; simp; omega))
  have HV : Hid _ := hv
  clear k2 hv
  go_wp2_with fail
  go_ret
  exact ⟨v, rfl, B2⟩

set_option maxHeartbeats 1000000 in
theorem drawNewGiver (a : Option Addr) (len cap : Nat) (w : World) (hb : Draw.Bytes w a len) (hl : len ≤ 4096) :
    Calls Try.prog 14 #[.slice a len cap] w fun x w' => ∃ v : Int, x = .returned (.int .i64 v) ∧ Below w.heap.size w w' := by
  go_enter Try.func14, Try.ntmps14
  go_wp2_with fail
  refine (drawNewTaker a len cap _ hb hl).mono ?_
  rintro x w1 ⟨v, rfl, b1⟩
  go_wp2_with fail
  go_ret
  exact ⟨v, rfl, b1⟩

set_option maxRecDepth 10000 in
set_option maxHeartbeats 4000000 in
theorem drawWrites (a : Option Addr) (len cap : Nat) (w : World) (hb : Draw.Bytes w a len) (hl : len ≤ 4096) :
    Calls Try.prog 10 #[.slice a len cap] w fun x w' => ∃ (g : Gv) (s : ByteArray), g.bs.size ≤ 400 ∧ s.size ≤ 4096 ∧ x = .returned (.tuple #[g.v, .string s]) ∧ Below w.heap.size w w' := by
  have hmix := mix
  have z2 : Var 25 (w.alloc (.cells #[.int .i64 0, .string ⟨#[]⟩, .int .i64 0, .int .i64 0, .bool false, .bool false] 25)) w.heap.size [.int .i64 0, .string ⟨#[]⟩, .int .i64 0, .int .i64 0, .bool false, .bool false] := Var.new w _
  have b0 : Below w.heap.size w (w.alloc (.cells #[.int .i64 0, .string ⟨#[]⟩, .int .i64 0, .int .i64 0, .bool false, .bool false] 25)) := (Below.refl _ _).alloc (Nat.le_refl _) _
  have hs0 : (w.alloc (.cells #[.int .i64 0, .string ⟨#[]⟩, .int .i64 0, .int .i64 0, .bool false, .bool false] 25)).heap.size = w.heap.size + 1 := by simp
  have hb0 := hb.below b0 (Nat.le_refl _)
  go_enter Try.func10, Try.ntmps10
  go_wp2_with fail
  generalize w.alloc (.cells #[.int .i64 0, .string ⟨#[]⟩, .int .i64 0, .int .i64 0, .bool false, .bool false] 25) = W0 at *
  refine (Draw.l1New a len cap _ hb0 hl).mono ?_
  rintro x w1 ⟨rfl, hh, hw1⟩
  have c1 : Draw.Cur w1 W0.heap.size := by rw [hw1]; exact Draw.cur_new hb0 hl hh _
  have b1 : Below W0.heap.size W0 w1 := by rw [hw1]; exact (Below.refl _ _).alloc (Nat.le_refl _) _
  have h1 : W0.heap.size < w1.heap.size := by rw [hw1]; simp
  have z1 := z2.later b1
  have B1 := b0.trans (b1.mono b0.size)
  clear hw1 z2 b1 hb0
  rw [hs0] at c1 h1
  rw [hs0]
  clear hs0 b0
  go_wp2_with fail
  refine (l6DrawAny _ _ c1).mono ?_
  rintro x w2 ⟨g, hg, rfl, cu2, k2⟩
  have z2 := z1.kept k2 (by omega)
  have B2 : Below w.heap.size w w2 := B1.trans (k2.below (by omega) B1.size)
  dsimp only [Gv.v]
  have v3 : Var 25 (w2.alloc (.cells #[.int .i64 g.ba, .string g.bs, .int .i64 g.cp, .int .i64 g.lm, .bool g.en, .bool g.dn] 25)) w2.heap.size [.int .i64 g.ba, .string g.bs, .int .i64 g.cp, .int .i64 g.lm, .bool g.en, .bool g.dn] := Var.new w2 _
  have z3 := z2.alloc (.cells #[.int .i64 g.ba, .string g.bs, .int .i64 g.cp, .int .i64 g.lm, .bool g.en, .bool g.dn] 25)
  have cu3 := cu2.alloc (.cells #[.int .i64 g.ba, .string g.bs, .int .i64 g.cp, .int .i64 g.lm, .bool g.en, .bool g.dn] 25)
  have B3 : Below w.heap.size w (w2.alloc (.cells #[.int .i64 g.ba, .string g.bs, .int .i64 g.cp, .int .i64 g.lm, .bool g.en, .bool g.dn] 25)) := B2.alloc B2.size _
  have hk3 : w.heap.size + 1 < w2.heap.size := cu2.lt
  clear z1 z2 B1 B2 k2 cu2 c1
  go_upto_region 3 with (fail)
  generalize w2.alloc (.cells #[.int .i64 g.ba, .string g.bs, .int .i64 g.cp, .int .i64 g.lm, .bool g.en, .bool g.dn] 25) = W at *
  generalize w2.heap.size = k3 at *
  have hk3l : k3 < W.heap.size := v3.lt
  have e0 := v3.cell (i := 0) rfl
  have e1 := v3.cell (i := 1) rfl
  have e2 := v3.cell (i := 2) rfl
  have e3 := v3.cell (i := 3) rfl
  have e4 := v3.cell (i := 4) rfl
  have e5 := v3.cell (i := 5) rfl
  go_wp2_with fail
  refine Draw.wp_region_Y (S := (fun w' => w'.cell? ⟨k3, 0, none⟩ = some (.int .i64 g.ba) ∧ w'.cell? ⟨k3, 1, none⟩ = some (.string g.bs) ∧ w'.cell? ⟨k3, 2, none⟩ = some (.int .i64 g.cp) ∧ w'.cell? ⟨k3, 3, none⟩ = some (.int .i64 g.lm) ∧ w'.cell? ⟨k3, 4, none⟩ = some (.bool g.en) ∧ w'.cell? ⟨k3, 5, none⟩ = some (.bool g.dn))) 4 (by kernel_rfl) ?_ (fun hHeld => ?_)
  focus ((try dsimp only) <;> (first | with_reducible exact hHeld | with_reducible exact ⟨s0, s1, s2, s3, s4, s5⟩ | with_reducible exact keep6 hHeld (by omega) _ _ _ _ _ _ | exact ⟨e0, e1, e2, e3, e4, e5⟩))
  refine Draw.wpAnyY_take (i := 0) (v := ?_) rfl (by kernel_rfl) (by kernel_rfl) (by kernel_rfl) (by kernel_rfl) (fun _ _ _ h => h) (Or.inl ⟨by rfl, ?_⟩) (by assumption) ?_
  rotate_left 1
  focus (intro wS hSw; (try dsimp only at hSw); go_simp; first | done | (constructor <;> with_reducible rfl) | with_reducible rfl)
  (try simp only [Act.put, List.getElem_toArray, List.getElem_cons_zero, List.getElem_cons_succ, List.setIfInBounds_toArray, List.set_cons_zero, List.set_cons_succ])
  refine Draw.wpAnyY_takeT (i := 1) (v := ?_) rfl (by kernel_rfl) (by kernel_rfl) (by kernel_rfl) (fun _ _ _ h => h) (Or.inl ⟨by rfl, ?_⟩) ?_
  rotate_left 1
  focus (intro wS hSw; (try dsimp only at hSw); go_simp; first | done | (constructor <;> with_reducible rfl) | with_reducible rfl)
  (try simp only [Act.put, List.getElem_toArray, List.getElem_cons_zero, List.getElem_cons_succ, List.setIfInBounds_toArray, List.set_cons_zero, List.set_cons_succ])
  refine Draw.wpAnyY_ready (rs := [2]) (by kernel_rfl) (by simp) ?_
  refine Draw.AllReadyY.cons rfl (fun K hK => ?_) Draw.AllReadyY.nil
  (go_simp; refine (Draw.l1DrawText _ _ _ _ cu3.drew (by decide) (by decide) (by decide) (by decide)).mono ?_; rintro x wa ⟨s, hs, rfl, cua, ka⟩; have va := v3.drew.kept ka (by omega); have za := z3.drew.kept ka (by omega); have Ba := B3.drew.trans (ka.below (by omega) B3.size); have s0 := va.cell (i := 0) rfl; have s1 := va.cell (i := 1) rfl; have s2 := va.cell (i := 2) rfl; have s3 := va.cell (i := 3) rfl; have s4 := va.cell (i := 4) rfl; have s5 := va.cell (i := 5) rfl; have q0 := za.cell (i := 0) rfl; have q1 := za.cell (i := 1) rfl; have q2 := za.cell (i := 2) rfl; have q3 := za.cell (i := 3) rfl; have q4 := za.cell (i := 4) rfl; have q5 := za.cell (i := 5) rfl; have x0 := za.free 0; have x1 := za.free 1; have x2 := za.free 2; have x3 := za.free 3; have x4 := za.free 4; have x5 := za.free 5)
  refine hK.out _ _ ?_ (fun hHeld2 => ?_)
  focus (intro _ _; (try dsimp only) <;> (first | with_reducible exact hHeld | with_reducible exact ⟨s0, s1, s2, s3, s4, s5⟩ | with_reducible exact keep6 hHeld (by omega) _ _ _ _ _ _ | exact ⟨e0, e1, e2, e3, e4, e5⟩))
  clear hK K
  replace hHeld := hHeld2 (by decide) hHeld
  clear hHeld2
  (try simp only [Act.put, List.getElem_toArray, List.getElem_cons_zero, List.getElem_cons_succ, List.setIfInBounds_toArray, List.set_cons_zero, List.set_cons_succ])
  refine Draw.wpAnyY_ready (rs := [3]) (by kernel_rfl) (by simp) ?_
  refine Draw.AllReadyY.cons rfl (fun K hK => ?_) Draw.AllReadyY.nil
  go_simp
  refine hK.out _ _ ?_ (fun hHeld2 => ?_)
  focus (intro _ _; (try dsimp only) <;> (first | with_reducible exact hHeld | with_reducible exact ⟨s0, s1, s2, s3, s4, s5⟩ | with_reducible exact keep6 hHeld (by omega) _ _ _ _ _ _ | exact ⟨e0, e1, e2, e3, e4, e5⟩))
  clear hK K
  replace hHeld := hHeld2 (by decide) hHeld
  clear hHeld2
  (try simp only [Act.put, List.getElem_toArray, List.getElem_cons_zero, List.getElem_cons_succ, List.setIfInBounds_toArray, List.set_cons_zero, List.set_cons_succ])
  refine Draw.wpAnyY_ready (rs := [4]) (by kernel_rfl) (by simp) ?_
  refine Draw.AllReadyY.cons rfl (fun K hK => ?_) Draw.AllReadyY.nil
  go_simp
  refine hK.out _ _ (fun h => absurd rfl h) (fun hHeld2 => ?_)
  clear hK K hHeld hHeld2
  (try simp only [Act.put, List.getElem_toArray, List.getElem_cons_zero, List.getElem_cons_succ, List.setIfInBounds_toArray, List.set_cons_zero, List.set_cons_succ])
  refine Draw.wpAnyY_done (by kernel_rfl) ?_ _
  clear e0 e1 e2 e3 e4 e5 s0 s1 s2 s3 s4 s5
  go_wp2_with fail
  refine bodyPost_ret (v := .tuple #[.agg #[.int .i64 g.ba, .string g.bs, .int .i64 g.cp, .int .i64 g.lm, .bool g.en, .bool g.dn], .string s]) (by rw [Tak.res_cell_tmp rfl]; go_simp) rfl ⟨g, s, hg, by omega, rfl, ?_⟩
  iterate 6 (refine Below.setCell ?_ (by dsimp only; omega) _)
  exact Ba

end Go.Proofs.Ytagpgjojfglkjaa.Giv
