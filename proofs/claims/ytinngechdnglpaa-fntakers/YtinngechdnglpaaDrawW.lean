/- Draws of chapter 5: DrawTakenAway, DrawTakerOk, DrawLimitOf, DrawNewTaker; at most 4096 bytes. -/
import Derived.Test.YtinngechdnglpaaDrawV
namespace Go.Proofs.Ytinngechdnglpaa.Tak
open Go.RowKit RowG
set_option linter.unusedVariables false
set_option linter.unusedSimpArgs false

theorem keep6 {w : World} {k b : Nat} {v0 v1 v2 v3 v4 v5 : Value} (h : w.cell? ⟨k, 0, none⟩ = some v0 ∧ w.cell? ⟨k, 1, none⟩ = some v1 ∧ w.cell? ⟨k, 2, none⟩ = some v2 ∧ w.cell? ⟨k, 3, none⟩ = some v3 ∧ w.cell? ⟨k, 4, none⟩ = some v4 ∧ w.cell? ⟨k, 5, none⟩ = some v5) (hk : k ≠ b) (u0 u1 u2 u3 u4 u5 : Value) : (put6 w b u0 u1 u2 u3 u4 u5).cell? ⟨k, 0, none⟩ = some v0 ∧ (put6 w b u0 u1 u2 u3 u4 u5).cell? ⟨k, 1, none⟩ = some v1 ∧ (put6 w b u0 u1 u2 u3 u4 u5).cell? ⟨k, 2, none⟩ = some v2 ∧ (put6 w b u0 u1 u2 u3 u4 u5).cell? ⟨k, 3, none⟩ = some v3 ∧ (put6 w b u0 u1 u2 u3 u4 u5).cell? ⟨k, 4, none⟩ = some v4 ∧ (put6 w b u0 u1 u2 u3 u4 u5).cell? ⟨k, 5, none⟩ = some v5 := by
  have e : ∀ i, (put6 w b u0 u1 u2 u3 u4 u5).cell? ⟨k, i, none⟩ = w.cell? ⟨k, i, none⟩ := fun i => World.cell?_of_block (heap_put6 w b k u0 u1 u2 u3 u4 u5 hk)
  rw [e, e, e, e, e, e]
  exact h

set_option maxRecDepth 10000 in
set_option maxHeartbeats 4000000 in
theorem drawTakenAway (a : Option Addr) (len cap : Nat) (w : World) (hb : Draw.Bytes w a len) (hl : len ≤ 4096) :
    Calls Try.prog 18 #[.slice a len cap] w fun x w' => ∃ t : Tk, good t ∧ ∃ (a' : Option Addr) (c' : Nat) (n : Int), x = .returned (.tuple #[t.v a' c', .int .i64 n]) ∧ partE.Own 53 w' w.heap.size a' c' t.l ∧ Below w.heap.size w w' := by
  have hmix := mix
  have z2 : Var 26 (w.alloc (.cells #[.int .i64 0, .string ⟨#[]⟩, .slice none 0 0, .int .i64 0, .int .i64 0, .bool false] 26)) w.heap.size [.int .i64 0, .string ⟨#[]⟩, .slice none 0 0, .int .i64 0, .int .i64 0, .bool false] := Var.new w _
  have b0 : Below w.heap.size w (w.alloc (.cells #[.int .i64 0, .string ⟨#[]⟩, .slice none 0 0, .int .i64 0, .int .i64 0, .bool false] 26)) := (Below.refl _ _).alloc (Nat.le_refl _) _
  have hs0 : (w.alloc (.cells #[.int .i64 0, .string ⟨#[]⟩, .slice none 0 0, .int .i64 0, .int .i64 0, .bool false] 26)).heap.size = w.heap.size + 1 := by simp
  have hb0 := hb.below b0 (Nat.le_refl _)
  go_enter Try.func18, Try.ntmps18
  go_wp2_with fail
  generalize hW0 : w.alloc (.cells #[.int .i64 0, .string ⟨#[]⟩, .slice none 0 0, .int .i64 0, .int .i64 0, .bool false] 26) = W0 at *
  clear hW0
  refine (Draw.l1New a len cap _ hb0 hl).mono ?_
  rintro x w1 ⟨rfl, hh, hw1⟩
  have c1 : Draw.Cur w1 W0.heap.size := by rw [hw1]; exact Draw.cur_new hb0 hl hh _
  have b1 : Below W0.heap.size W0 w1 := by rw [hw1]; exact (Below.refl _ _).alloc (Nat.le_refl _) _
  have h1 : W0.heap.size < w1.heap.size := by rw [hw1]; simp
  have z1 := z2.later b1
  have B1 := b0.trans (b1.mono b0.size)
  clear hw1 z2 b1 hb0
  rw [hs0] at c1 h1
  rw [hs0]
  clear hs0 b0
  go_wp2_with fail
  refine (l5DrawAny _ _ c1).mono ?_
  rintro x w2 ⟨t, hg, a1, c1', rfl, o2, cu2, k2⟩
  have z2 := z1.kept k2 (by omega)
  have B2 : Below w.heap.size w w2 := B1.trans (k2.below (by omega) B1.size)
  have hx1 : Hid (∀ x, a1 = some x → w.heap.size + 1 < x.block) := fun x e => Nat.lt_of_lt_of_le h1 (o2.lt x e).1
  have o2 := o2.mono (Nat.le_of_lt (Nat.lt_trans (Nat.lt_succ_self _) h1))
  have HG : Hid _ := hg
  have v3 : Var 26 (w2.alloc (.cells #[.int .i64 t.nx, .string t.bs, .slice a1 t.l.length c1', .int .i64 t.cp, .int .i64 t.fi, .bool t.en] 26)) w2.heap.size [.int .i64 t.nx, .string t.bs, .slice a1 t.l.length c1', .int .i64 t.cp, .int .i64 t.fi, .bool t.en] := Var.new w2 _
  have o3 := o2.alloc (.cells #[.int .i64 t.nx, .string t.bs, .slice a1 t.l.length c1', .int .i64 t.cp, .int .i64 t.fi, .bool t.en] 26)
  have z3 := z2.alloc (.cells #[.int .i64 t.nx, .string t.bs, .slice a1 t.l.length c1', .int .i64 t.cp, .int .i64 t.fi, .bool t.en] 26)
  have cu3 := cu2.alloc (.cells #[.int .i64 t.nx, .string t.bs, .slice a1 t.l.length c1', .int .i64 t.cp, .int .i64 t.fi, .bool t.en] 26)
  have B3 : Below w.heap.size w (w2.alloc (.cells #[.int .i64 t.nx, .string t.bs, .slice a1 t.l.length c1', .int .i64 t.cp, .int .i64 t.fi, .bool t.en] 26)) := B2.alloc B2.size _
  have hk3 : w.heap.size + 1 < w2.heap.size := cu2.lt
  obtain ⟨g1, g2, g3, g4, g5⟩ := hg
  clear z1 z2 B1 B2 k2 cu2 c1 o2 g1
  dsimp only [Tk.v]
  go_upto_region 3 with (fail)
  generalize w2.alloc (.cells #[.int .i64 t.nx, .string t.bs, .slice a1 t.l.length c1', .int .i64 t.cp, .int .i64 t.fi, .bool t.en] 26) = W at *
  generalize w2.heap.size = k3 at *
  have hk3l : k3 < W.heap.size := v3.lt
  have e0 := v3.cell (i := 0) rfl
  have e1 := v3.cell (i := 1) rfl
  have e2 := v3.cell (i := 2) rfl
  have e3 := v3.cell (i := 3) rfl
  have e4 := v3.cell (i := 4) rfl
  have e5 := v3.cell (i := 5) rfl
  go_wp2_with fail
  refine Draw.wp_region_Y (S := (fun w' => w'.cell? ⟨k3, 0, none⟩ = some (.int .i64 t.nx) ∧ w'.cell? ⟨k3, 1, none⟩ = some (.string t.bs) ∧ w'.cell? ⟨k3, 2, none⟩ = some (.slice a1 t.l.length c1') ∧ w'.cell? ⟨k3, 3, none⟩ = some (.int .i64 t.cp) ∧ w'.cell? ⟨k3, 4, none⟩ = some (.int .i64 t.fi) ∧ w'.cell? ⟨k3, 5, none⟩ = some (.bool t.en))) 9 (by kernel_rfl) ?_ (fun hHeld => ?_)
  focus ((try dsimp only) <;> (first | with_reducible exact hHeld | with_reducible exact ⟨s0, s1, s2, s3, s4, s5⟩ | with_reducible exact keep6 hHeld (by omega) _ _ _ _ _ _ | exact ⟨e0, e1, e2, e3, e4, e5⟩))
  refine Draw.wpAnyY_take (i := 0) (v := ?_) rfl (by kernel_rfl) (by kernel_rfl) (by kernel_rfl) (by kernel_rfl) (fun _ _ _ h => h) (Or.inl ⟨by rfl, ?_⟩) (by assumption) ?_
  rotate_left 1
  focus (intro wS hSw; (try dsimp only at hSw); go_simp; first | done | (constructor <;> with_reducible rfl) | with_reducible rfl)
  (try simp only [Act.put, List.getElem_toArray, List.getElem_cons_zero, List.getElem_cons_succ, List.setIfInBounds_toArray, List.set_cons_zero, List.set_cons_succ])
  refine Draw.wpAnyY_take (i := 1) (v := ?_) rfl (by kernel_rfl) (by kernel_rfl) (by kernel_rfl) (by kernel_rfl) (fun _ _ _ h => h) (Or.inl ⟨by rfl, ?_⟩) (by assumption) ?_
  rotate_left 1
  focus (intro wS hSw; (try dsimp only at hSw); go_simp; first | done | (constructor <;> with_reducible rfl) | with_reducible rfl)
  (try simp only [Act.put, List.getElem_toArray, List.getElem_cons_zero, List.getElem_cons_succ, List.setIfInBounds_toArray, List.set_cons_zero, List.set_cons_succ])
  refine Draw.wpAnyY_take (i := 2) (v := ?_) rfl (by kernel_rfl) (by kernel_rfl) (by kernel_rfl) (by kernel_rfl) (fun _ _ _ h => h) (Or.inl ⟨by rfl, ?_⟩) (by assumption) ?_
  rotate_left 1
  focus (intro wS hSw; (try dsimp only at hSw); go_simp; first | done | (constructor <;> with_reducible rfl) | with_reducible rfl)
  (try simp only [Act.put, List.getElem_toArray, List.getElem_cons_zero, List.getElem_cons_succ, List.setIfInBounds_toArray, List.set_cons_zero, List.set_cons_succ])
  refine Draw.wpAnyY_take (i := 3) (v := ?_) rfl (by kernel_rfl) (by kernel_rfl) (by kernel_rfl) (by kernel_rfl) (fun _ _ _ h => h) (Or.inl ⟨by rfl, ?_⟩) (by assumption) ?_
  rotate_left 1
  focus (intro wS hSw; (try dsimp only at hSw); go_simp; first | done | (constructor <;> with_reducible rfl) | with_reducible rfl)
  (try simp only [Act.put, List.getElem_toArray, List.getElem_cons_zero, List.getElem_cons_succ, List.setIfInBounds_toArray, List.set_cons_zero, List.set_cons_succ])
  refine Draw.wpAnyY_take (i := 4) (v := ?_) rfl (by kernel_rfl) (by kernel_rfl) (by kernel_rfl) (by kernel_rfl) (fun _ _ _ h => h) (Or.inl ⟨by rfl, ?_⟩) (by assumption) ?_
  rotate_left 1
  focus (intro wS hSw; (try dsimp only at hSw); go_simp; first | done | (constructor <;> with_reducible rfl) | with_reducible rfl)
  (try simp only [Act.put, List.getElem_toArray, List.getElem_cons_zero, List.getElem_cons_succ, List.setIfInBounds_toArray, List.set_cons_zero, List.set_cons_succ])
  refine Draw.wpAnyY_take (i := 5) (v := ?_) rfl (by kernel_rfl) (by kernel_rfl) (by kernel_rfl) (by kernel_rfl) (fun _ _ _ h => h) (Or.inl ⟨by rfl, ?_⟩) (by assumption) ?_
  rotate_left 1
  focus (intro wS hSw; (try dsimp only at hSw); go_simp; first | done | (constructor <;> with_reducible rfl) | with_reducible rfl)
  (try simp only [Act.put, List.getElem_toArray, List.getElem_cons_zero, List.getElem_cons_succ, List.setIfInBounds_toArray, List.set_cons_zero, List.set_cons_succ])
  refine Draw.wpAnyY_ready (rs := [6]) (by kernel_rfl) (by simp) ?_
  refine Draw.AllReadyY.cons rfl (fun K hK => ?_) Draw.AllReadyY.nil
  (go_simp; refine (Draw.l1Below _ _ _ cu3.drew).mono ?_; rintro x wa ⟨j, j0, j1, rfl, cua, ka⟩; have va := v3.drew.kept ka (by omega); have oa := (El.Own.drew o3).kept ka (fun x e => by have := hx1.out x e; omega); have za := z3.drew.kept ka (by omega); have Ba := B3.drew.trans (ka.below (by omega) B3.size); have s0 := va.cell (i := 0) rfl; have s1 := va.cell (i := 1) rfl; have s2 := va.cell (i := 2) rfl; have s3 := va.cell (i := 3) rfl; have s4 := va.cell (i := 4) rfl; have s5 := va.cell (i := 5) rfl; have q0 := za.cell (i := 0) rfl; have q1 := za.cell (i := 1) rfl; have q2 := za.cell (i := 2) rfl; have q3 := za.cell (i := 3) rfl; have q4 := za.cell (i := 4) rfl; have q5 := za.cell (i := 5) rfl; have x0 := za.free 0; have x1 := za.free 1; have x2 := za.free 2; have x3 := za.free 3; have x4 := za.free 4; have x5 := za.free 5)
  refine hK.out _ _ ?_ (fun hHeld2 => ?_)
  focus (intro _ _; (try dsimp only) <;> (first | with_reducible exact hHeld | with_reducible exact ⟨s0, s1, s2, s3, s4, s5⟩ | with_reducible exact keep6 hHeld (by omega) _ _ _ _ _ _ | exact ⟨e0, e1, e2, e3, e4, e5⟩))
  clear hK K
  replace hHeld := hHeld2 (by decide) hHeld
  clear hHeld2
  (try simp only [Act.put, List.getElem_toArray, List.getElem_cons_zero, List.getElem_cons_succ, List.setIfInBounds_toArray, List.set_cons_zero, List.set_cons_succ])
  refine Draw.wpAnyY_takeT (i := 7) (v := ?_) rfl (by kernel_rfl) (by kernel_rfl) (by kernel_rfl) (fun _ _ _ h => h) (Or.inl ⟨by rfl, ?_⟩) ?_
  rotate_left 1
  focus (intro wS hSw; (try dsimp only at hSw); go_simp; first | done | (constructor <;> with_reducible rfl) | with_reducible rfl)
  (try simp only [Act.put, List.getElem_toArray, List.getElem_cons_zero, List.getElem_cons_succ, List.setIfInBounds_toArray, List.set_cons_zero, List.set_cons_succ])
  refine Draw.wpAnyY_ready (rs := [8]) (by kernel_rfl) (by simp) ?_
  refine Draw.AllReadyY.cons rfl (fun K hK => ?_) Draw.AllReadyY.nil
  go_simp
  refine hK.out _ _ ?_ (fun hHeld2 => ?_)
  focus (intro _ _; (try dsimp only) <;> (first | with_reducible exact hHeld | with_reducible exact ⟨s0, s1, s2, s3, s4, s5⟩ | with_reducible exact keep6 hHeld (by omega) _ _ _ _ _ _ | exact ⟨e0, e1, e2, e3, e4, e5⟩))
  clear hK K
  replace hHeld := hHeld2 (by decide) hHeld
  clear hHeld2
  (try simp only [Act.put, List.getElem_toArray, List.getElem_cons_zero, List.getElem_cons_succ, List.setIfInBounds_toArray, List.set_cons_zero, List.set_cons_succ])
  refine Draw.wpAnyY_ready (rs := [9]) (by kernel_rfl) (by simp) ?_
  refine Draw.AllReadyY.cons rfl (fun K hK => ?_) Draw.AllReadyY.nil
  go_simp
  refine hK.out _ _ (fun h => absurd rfl h) (fun hHeld2 => ?_)
  clear hK K hHeld hHeld2
  (try simp only [Act.put, List.getElem_toArray, List.getElem_cons_zero, List.getElem_cons_succ, List.setIfInBounds_toArray, List.set_cons_zero, List.set_cons_succ])
  refine Draw.wpAnyY_done (by kernel_rfl) ?_ _
  clear e0 e1 e2 e3 e4 e5 s0 s1 s2 s3 s4 s5
  go_wp2_with fail
  refine bodyPost_ret (v := .tuple #[.agg #[.int .i64 t.nx, .string t.bs, .slice a1 t.l.length c1', .int .i64 t.cp, .int .i64 t.fi, .bool t.en], .int .i64 (IntKind.i64.wrap (j - 1))]) (by rw [Tak.res_cell_tmp rfl]; go_simp) rfl ⟨t, HG.out, a1, c1', _, rfl, ?_, ?_⟩
  · iterate 6 (refine El.Own.setCell ?_ (fun x hx' => by have := hx1.out x hx'; dsimp only; omega) _)
    exact oa
  · iterate 6 (refine Below.setCell ?_ (by dsimp only; omega) _)
    exact Ba

end Go.Proofs.Ytinngechdnglpaa.Tak
