/- Draws of chapter 6: DrawHears; at most 4096 bytes. -/
import Derived.Test.YtagpgjojfglkjaaDrawK
namespace Go.Proofs.Ytagpgjojfglkjaa.Giv
open Go.RowKit RowG
set_option linter.unusedVariables false
set_option linter.unusedSimpArgs false

theorem res_cell_tmp3 {fn : Func} {p u v x : Tmp} {ty : TypeId} (h : fn.results = #[.cell p ty, .tmp u, .tmp v, .tmp x]) (tmps : Array Value) (P : Program) (w : World) :
    (results fn tmps).run P w = ((asAddr (tmps.getD p undef)).run P w).andThen fun a w₁ => ((loadVar ty a).run P w₁).andThen fun r w₂ => .ok (.tuple #[r, tmps.getD u undef, tmps.getD v undef, tmps.getD x undef]) w₂ := by
  simp only [results, h]
  simp [Sem.run_bind, Result.andThen]

set_option maxRecDepth 10000 in
set_option maxHeartbeats 4000000 in
theorem drawHears (a : Option Addr) (len cap : Nat) (w : World) (hb : Draw.Bytes w a len) (hl : len ≤ 4096) :
    Calls Try.prog 24 #[.slice a len cap] w fun x w' => ∃ (g : Gv) (p q : Int) (d : Bool), g.bs.size ≤ 400 ∧ x = .returned (.tuple #[g.v, .int .i64 p, .int .i64 q, .bool d]) ∧ Below w.heap.size w w' := by
  have hmix := mix
  have z2 : Var 25 (w.alloc (.cells #[.int .i64 0, .string ⟨#[]⟩, .int .i64 0, .int .i64 0, .bool false, .bool false] 25)) w.heap.size [.int .i64 0, .string ⟨#[]⟩, .int .i64 0, .int .i64 0, .bool false, .bool false] := Var.new w _
  have b0 : Below w.heap.size w (w.alloc (.cells #[.int .i64 0, .string ⟨#[]⟩, .int .i64 0, .int .i64 0, .bool false, .bool false] 25)) := (Below.refl _ _).alloc (Nat.le_refl _) _
  have hs0 : (w.alloc (.cells #[.int .i64 0, .string ⟨#[]⟩, .int .i64 0, .int .i64 0, .bool false, .bool false] 25)).heap.size = w.heap.size + 1 := by simp
  have hb0 := hb.below b0 (Nat.le_refl _)
  go_enter Try.func24, Try.ntmps24
  go_wp2_with fail
  generalize w.alloc (.cells #[.int .i64 0, .string ⟨#[]⟩, .int .i64 0, .int .i64 0, .bool false, .bool false] 25) = W0 at *
  refine (Draw.l1New a len cap _ hb0 hl).mono ?_
  rintro x w1 ⟨rfl, hh, hw1⟩
  have c1 : Draw.Cur w1 W0.heap.size := by rw [hw1]; exact Draw.cur_new hb0 hl hh _
  have b1 : Below W0.heap.size W0 w1 := by rw [hw1]; exact (Below.refl _ _).alloc (Nat.le_refl _) _
  have h1 : W0.heap.size < w1.heap.size := by rw [hw1]; simp
  have z1 := z2.later b1
  have B1 := b0.trans (b1.mono b0.size)
  clear hw1 z2 b1 hb0
  rw [hs0] at c1 h1
  rw [hs0]
  clear hs0 b0
  go_wp2_with fail
  refine (l6DrawAny _ _ c1).mono ?_
  rintro x w2 ⟨g, hg, rfl, cu2, k2⟩
  have z2 := z1.kept k2 (by omega)
  have B2 : Below w.heap.size w w2 := B1.trans (k2.below (by omega) B1.size)
  dsimp only [Gv.v]
  have v3 : Var 25 (w2.alloc (.cells #[.int .i64 g.ba, .string g.bs, .int .i64 g.cp, .int .i64 g.lm, .bool g.en, .bool g.dn] 25)) w2.heap.size [.int .i64 g.ba, .string g.bs, .int .i64 g.cp, .int .i64 g.lm, .bool g.en, .bool g.dn] := Var.new w2 _
  have z3 := z2.alloc (.cells #[.int .i64 g.ba, .string g.bs, .int .i64 g.cp, .int .i64 g.lm, .bool g.en, .bool g.dn] 25)
  have cu3 := cu2.alloc (.cells #[.int .i64 g.ba, .string g.bs, .int .i64 g.cp, .int .i64 g.lm, .bool g.en, .bool g.dn] 25)
  have B3 : Below w.heap.size w (w2.alloc (.cells #[.int .i64 g.ba, .string g.bs, .int .i64 g.cp, .int .i64 g.lm, .bool g.en, .bool g.dn] 25)) := B2.alloc B2.size _
  have hk3 : w.heap.size + 1 < w2.heap.size := cu2.lt
  clear z1 z2 B1 B2 k2 cu2 c1
  go_upto_region 3 with (fail)
  generalize w2.alloc (.cells #[.int .i64 g.ba, .string g.bs, .int .i64 g.cp, .int .i64 g.lm, .bool g.en, .bool g.dn] 25) = W at *
  generalize w2.heap.size = k3 at *
  have hk3l : k3 < W.heap.size := v3.lt
  have e0 := v3.cell (i := 0) rfl
  have e1 := v3.cell (i := 1) rfl
  have e2 := v3.cell (i := 2) rfl
  have e3 := v3.cell (i := 3) rfl
  have e4 := v3.cell (i := 4) rfl
  have e5 := v3.cell (i := 5) rfl
  go_wp2_with fail
  refine wp_region_held_drew (S := (fun w' => w'.cell? ⟨k3, 0, none⟩ = some (.int .i64 g.ba) ∧ w'.cell? ⟨k3, 1, none⟩ = some (.string g.bs) ∧ w'.cell? ⟨k3, 2, none⟩ = some (.int .i64 g.cp) ∧ w'.cell? ⟨k3, 3, none⟩ = some (.int .i64 g.lm) ∧ w'.cell? ⟨k3, 4, none⟩ = some (.bool g.en) ∧ w'.cell? ⟨k3, 5, none⟩ = some (.bool g.dn))) (by kernel_rfl) ?_ (fun hHeld => ?_)
  focus ((try dsimp only) <;> (first | with_reducible exact hHeld | with_reducible exact ⟨s0, s1, s2, s3, s4, s5⟩ | exact ⟨e0, e1, e2, e3, e4, e5⟩))
  refine wpAnyH_take (i := 0) (v := ?_) rfl (by kernel_rfl) (by kernel_rfl) (by kernel_rfl) (fun _ _ _ h => h) (Or.inl ⟨by rfl, ?_⟩) (by assumption) ?_
  rotate_left 1
  focus (intro wS hSw; (try dsimp only at hSw); go_simp; first | done | (constructor <;> with_reducible rfl) | with_reducible rfl)
  (try simp only [Act.put, List.getElem_toArray, List.getElem_cons_zero, List.getElem_cons_succ, List.setIfInBounds_toArray, List.set_cons_zero, List.set_cons_succ])
  refine wpAnyH_take (i := 1) (v := ?_) rfl (by kernel_rfl) (by kernel_rfl) (by kernel_rfl) (fun _ _ _ h => h) (Or.inl ⟨by rfl, ?_⟩) (by assumption) ?_
  rotate_left 1
  focus (intro wS hSw; (try dsimp only at hSw); go_simp; first | done | (constructor <;> with_reducible rfl) | with_reducible rfl)
  (try simp only [Act.put, List.getElem_toArray, List.getElem_cons_zero, List.getElem_cons_succ, List.setIfInBounds_toArray, List.set_cons_zero, List.set_cons_succ])
  refine wpAnyH_take (i := 2) (v := ?_) rfl (by kernel_rfl) (by kernel_rfl) (by kernel_rfl) (fun _ _ _ h => h) (Or.inl ⟨by rfl, ?_⟩) (by assumption) ?_
  rotate_left 1
  focus (intro wS hSw; (try dsimp only at hSw); go_simp; first | done | (constructor <;> with_reducible rfl) | with_reducible rfl)
  (try simp only [Act.put, List.getElem_toArray, List.getElem_cons_zero, List.getElem_cons_succ, List.setIfInBounds_toArray, List.set_cons_zero, List.set_cons_succ])
  refine wpAnyH_take (i := 3) (v := ?_) rfl (by kernel_rfl) (by kernel_rfl) (by kernel_rfl) (fun _ _ _ h => h) (Or.inl ⟨by rfl, ?_⟩) (by assumption) ?_
  rotate_left 1
  focus (intro wS hSw; (try dsimp only at hSw); go_simp; first | done | (constructor <;> with_reducible rfl) | with_reducible rfl)
  (try simp only [Act.put, List.getElem_toArray, List.getElem_cons_zero, List.getElem_cons_succ, List.setIfInBounds_toArray, List.set_cons_zero, List.set_cons_succ])
  refine wpAnyH_take (i := 4) (v := ?_) rfl (by kernel_rfl) (by kernel_rfl) (by kernel_rfl) (fun _ _ _ h => h) (Or.inl ⟨by rfl, ?_⟩) (by assumption) ?_
  rotate_left 1
  focus (intro wS hSw; (try dsimp only at hSw); go_simp; first | done | (constructor <;> with_reducible rfl) | with_reducible rfl)
  (try simp only [Act.put, List.getElem_toArray, List.getElem_cons_zero, List.getElem_cons_succ, List.setIfInBounds_toArray, List.set_cons_zero, List.set_cons_succ])
  refine wpAnyH_take (i := 5) (v := ?_) rfl (by kernel_rfl) (by kernel_rfl) (by kernel_rfl) (fun _ _ _ h => h) (Or.inl ⟨by rfl, ?_⟩) (by assumption) ?_
  rotate_left 1
  focus (intro wS hSw; (try dsimp only at hSw); go_simp; first | done | (constructor <;> with_reducible rfl) | with_reducible rfl)
  (try simp only [Act.put, List.getElem_toArray, List.getElem_cons_zero, List.getElem_cons_succ, List.setIfInBounds_toArray, List.set_cons_zero, List.set_cons_succ])
  refine wpAnyH_take (i := 6) (v := ?_) rfl (by kernel_rfl) (by kernel_rfl) (by kernel_rfl) (fun _ _ _ h => h) (Or.inl ⟨by rfl, ?_⟩) (by assumption) ?_
  rotate_left 1
  focus (intro wS hSw; (try dsimp only at hSw); go_simp; first | done | (constructor <;> with_reducible rfl) | with_reducible rfl)
  (try simp only [Act.put, List.getElem_toArray, List.getElem_cons_zero, List.getElem_cons_succ, List.setIfInBounds_toArray, List.set_cons_zero, List.set_cons_succ])
  refine wpAnyH_ready (rs := [7]) (by kernel_rfl) (by simp) ?_
  refine AllReadyH.cons rfl (fun K hK => ?_) AllReadyH.nil
  (go_simp; refine (Draw.l1Below _ _ _ cu3.drew).mono ?_; rintro x wa ⟨j, j0, j1, rfl, cua, ka⟩; have va := v3.drew.kept ka (by omega); have za := z3.drew.kept ka (by omega); have Ba := B3.drew.trans (ka.below (by omega) B3.size); have s0 := va.cell (i := 0) rfl; have s1 := va.cell (i := 1) rfl; have s2 := va.cell (i := 2) rfl; have s3 := va.cell (i := 3) rfl; have s4 := va.cell (i := 4) rfl; have s5 := va.cell (i := 5) rfl)
  refine hK.out _ _ ?_ (fun hHeld => ?_)
  focus ((try dsimp only) <;> (first | with_reducible exact hHeld | with_reducible exact ⟨s0, s1, s2, s3, s4, s5⟩ | exact ⟨e0, e1, e2, e3, e4, e5⟩))
  clear hK K
  (try simp only [Act.put, List.getElem_toArray, List.getElem_cons_zero, List.getElem_cons_succ, List.setIfInBounds_toArray, List.set_cons_zero, List.set_cons_succ])
  refine wpAnyH_take (i := 8) (v := ?_) rfl (by kernel_rfl) (by kernel_rfl) (by kernel_rfl) (fun _ _ _ h => h) (Or.inl ⟨by rfl, ?_⟩) (by assumption) ?_
  rotate_left 1
  focus (intro wS hSw; (try dsimp only at hSw); go_simp; first | done | (constructor <;> with_reducible rfl) | with_reducible rfl)
  (try simp only [Act.put, List.getElem_toArray, List.getElem_cons_zero, List.getElem_cons_succ, List.setIfInBounds_toArray, List.set_cons_zero, List.set_cons_succ])
  refine wpAnyH_take (i := 9) (v := ?_) rfl (by kernel_rfl) (by kernel_rfl) (by kernel_rfl) (fun _ _ _ h => h) (Or.inl ⟨by rfl, ?_⟩) (by assumption) ?_
  rotate_left 1
  focus (intro wS hSw; (try dsimp only at hSw); go_simp; first | done | (constructor <;> with_reducible rfl) | with_reducible rfl)
  (try simp only [Act.put, List.getElem_toArray, List.getElem_cons_zero, List.getElem_cons_succ, List.setIfInBounds_toArray, List.set_cons_zero, List.set_cons_succ])
  refine wpAnyH_ready (rs := [10]) (by kernel_rfl) (by simp) ?_
  refine AllReadyH.cons rfl (fun K hK => ?_) AllReadyH.nil
  go_simp
  refine hK.out _ _ ?_ (fun hHeld => ?_)
  focus ((try dsimp only) <;> (first | with_reducible exact hHeld | with_reducible exact ⟨s0, s1, s2, s3, s4, s5⟩ | exact ⟨e0, e1, e2, e3, e4, e5⟩))
  clear hK K
  (try simp only [Act.put, List.getElem_toArray, List.getElem_cons_zero, List.getElem_cons_succ, List.setIfInBounds_toArray, List.set_cons_zero, List.set_cons_succ])
  refine wpAnyH_done (by kernel_rfl) ?_ _
  have v4 := va
  have z4 := za
  have B4 := Ba
  have cu4 := cua
  clear va za Ba cua e0 e1 e2 e3 e4 e5 s0 s1 s2 s3 s4 s5 ka
  have e0 := v4.cell (i := 0) rfl
  have e1 := v4.cell (i := 1) rfl
  have e2 := v4.cell (i := 2) rfl
  have e3 := v4.cell (i := 3) rfl
  have e4 := v4.cell (i := 4) rfl
  have e5 := v4.cell (i := 5) rfl
  obtain ⟨p, hp⟩ : ∃ p : Int, IntKind.i64.wrap (IntKind.i64.wrap (g.ba + j) - 1) = p := ⟨_, rfl⟩
  (try rw [hp])
  clear hp j0 j1
  go_wp2_with fail
  refine wp_region_held_drew (S := (fun w' => w'.cell? ⟨k3, 0, none⟩ = some (.int .i64 g.ba) ∧ w'.cell? ⟨k3, 1, none⟩ = some (.string g.bs) ∧ w'.cell? ⟨k3, 2, none⟩ = some (.int .i64 g.cp) ∧ w'.cell? ⟨k3, 3, none⟩ = some (.int .i64 g.lm) ∧ w'.cell? ⟨k3, 4, none⟩ = some (.bool g.en) ∧ w'.cell? ⟨k3, 5, none⟩ = some (.bool g.dn))) (by kernel_rfl) ?_ (fun hHeld => ?_)
  focus ((try dsimp only) <;> (first | with_reducible exact hHeld | with_reducible exact ⟨s0, s1, s2, s3, s4, s5⟩ | exact ⟨e0, e1, e2, e3, e4, e5⟩))
  refine wpAnyH_take (i := 0) (v := ?_) rfl (by kernel_rfl) (by kernel_rfl) (by kernel_rfl) (fun _ _ _ h => h) (Or.inl ⟨by rfl, ?_⟩) (by assumption) ?_
  rotate_left 1
  focus (intro wS hSw; (try dsimp only at hSw); go_simp; first | done | (constructor <;> with_reducible rfl) | with_reducible rfl)
  (try simp only [Act.put, List.getElem_toArray, List.getElem_cons_zero, List.getElem_cons_succ, List.setIfInBounds_toArray, List.set_cons_zero, List.set_cons_succ])
  refine wpAnyH_take (i := 1) (v := ?_) rfl (by kernel_rfl) (by kernel_rfl) (by kernel_rfl) (fun _ _ _ h => h) (Or.inl ⟨by rfl, ?_⟩) (by assumption) ?_
  rotate_left 1
  focus (intro wS hSw; (try dsimp only at hSw); go_simp; first | done | (constructor <;> with_reducible rfl) | with_reducible rfl)
  (try simp only [Act.put, List.getElem_toArray, List.getElem_cons_zero, List.getElem_cons_succ, List.setIfInBounds_toArray, List.set_cons_zero, List.set_cons_succ])
  refine wpAnyH_take (i := 2) (v := ?_) rfl (by kernel_rfl) (by kernel_rfl) (by kernel_rfl) (fun _ _ _ h => h) (Or.inl ⟨by rfl, ?_⟩) (by assumption) ?_
  rotate_left 1
  focus (intro wS hSw; (try dsimp only at hSw); go_simp; first | done | (constructor <;> with_reducible rfl) | with_reducible rfl)
  (try simp only [Act.put, List.getElem_toArray, List.getElem_cons_zero, List.getElem_cons_succ, List.setIfInBounds_toArray, List.set_cons_zero, List.set_cons_succ])
  refine wpAnyH_ready (rs := [3]) (by kernel_rfl) (by simp) ?_
  refine AllReadyH.cons rfl (fun K hK => ?_) AllReadyH.nil
  (go_simp; refine (Draw.l1Below _ _ _ cu4.drew).mono ?_; rintro x wa ⟨i, i0, i1, rfl, cua, ka⟩; have va := v4.drew.kept ka (by omega); have za := z4.drew.kept ka (by omega); have Ba := B4.drew.trans (ka.below (by omega) B4.size); have s0 := va.cell (i := 0) rfl; have s1 := va.cell (i := 1) rfl; have s2 := va.cell (i := 2) rfl; have s3 := va.cell (i := 3) rfl; have s4 := va.cell (i := 4) rfl; have s5 := va.cell (i := 5) rfl)
  refine hK.out _ _ ?_ (fun hHeld => ?_)
  focus ((try dsimp only) <;> (first | with_reducible exact hHeld | with_reducible exact ⟨s0, s1, s2, s3, s4, s5⟩ | exact ⟨e0, e1, e2, e3, e4, e5⟩))
  clear hK K
  (try simp only [Act.put, List.getElem_toArray, List.getElem_cons_zero, List.getElem_cons_succ, List.setIfInBounds_toArray, List.set_cons_zero, List.set_cons_succ])
  refine wpAnyH_take (i := 4) (v := ?_) rfl (by kernel_rfl) (by kernel_rfl) (by kernel_rfl) (fun _ _ _ h => h) (Or.inl ⟨by rfl, ?_⟩) (by assumption) ?_
  rotate_left 1
  focus (intro wS hSw; (try dsimp only at hSw); go_simp; first | done | (constructor <;> with_reducible rfl) | with_reducible rfl)
  (try simp only [Act.put, List.getElem_toArray, List.getElem_cons_zero, List.getElem_cons_succ, List.setIfInBounds_toArray, List.set_cons_zero, List.set_cons_succ])
  refine wpAnyH_ready (rs := [5]) (by kernel_rfl) (by simp) ?_
  refine AllReadyH.cons rfl (fun K hK => ?_) AllReadyH.nil
  go_simp
  refine hK.out _ _ ?_ (fun hHeld => ?_)
  focus ((try dsimp only) <;> (first | with_reducible exact hHeld | with_reducible exact ⟨s0, s1, s2, s3, s4, s5⟩ | exact ⟨e0, e1, e2, e3, e4, e5⟩))
  clear hK K
  (try simp only [Act.put, List.getElem_toArray, List.getElem_cons_zero, List.getElem_cons_succ, List.setIfInBounds_toArray, List.set_cons_zero, List.set_cons_succ])
  refine wpAnyH_done (by kernel_rfl) ?_ _
  have v5 := va
  have z5 := za
  have B5 := Ba
  have cu5 := cua
  clear va za Ba cua e0 e1 e2 e3 e4 e5 s0 s1 s2 s3 s4 s5 ka
  have e0 := v5.cell (i := 0) rfl
  have e1 := v5.cell (i := 1) rfl
  have e2 := v5.cell (i := 2) rfl
  have e3 := v5.cell (i := 3) rfl
  have e4 := v5.cell (i := 4) rfl
  have e5 := v5.cell (i := 5) rfl
  clear i0 i1
  go_wp2_with fail
  refine (Draw.l1Once _ _ _ cu5).mono ?_
  rintro x w6 ⟨b, rfl, cu6, k6⟩
  have v6 := v5.kept k6 (by omega)
  have z6 := z5.kept k6 (by omega)
  have B6 := B5.trans (k6.below (by omega) B5.size)
  clear v5 z5 B5 cu5 k6 e0 e1 e2 e3 e4 e5
  cases b
  focus
    go_wp2_with fail
  rotate_left
  focus
    go_wp2_with fail
    refine (Draw.l1DrawPlace _ _ cu6).mono ?_
    rintro x w7 ⟨q, rfl, cu7, k7⟩
    replace v6 := v6.kept k7 (by omega)
    replace z6 := z6.kept k7 (by omega)
    replace B6 := B6.trans (k7.below (by omega) B6.size)
    replace cu6 := cu7
    clear k7 cu7
    go_wp2_with fail
  all_goals
    have e0 := v6.cell (i := 0) rfl
    have e1 := v6.cell (i := 1) rfl
    have e2 := v6.cell (i := 2) rfl
    have e3 := v6.cell (i := 3) rfl
    have e4 := v6.cell (i := 4) rfl
    have e5 := v6.cell (i := 5) rfl
    refine Draw.wp_region_Y (S := (fun w' => w'.cell? ⟨k3, 0, none⟩ = some (.int .i64 g.ba) ∧ w'.cell? ⟨k3, 1, none⟩ = some (.string g.bs) ∧ w'.cell? ⟨k3, 2, none⟩ = some (.int .i64 g.cp) ∧ w'.cell? ⟨k3, 3, none⟩ = some (.int .i64 g.lm) ∧ w'.cell? ⟨k3, 4, none⟩ = some (.bool g.en) ∧ w'.cell? ⟨k3, 5, none⟩ = some (.bool g.dn))) 8 (by kernel_rfl) ?_ (fun hHeld => ?_)
    focus ((try dsimp only) <;> (first | with_reducible exact hHeld | with_reducible exact ⟨s0, s1, s2, s3, s4, s5⟩ | with_reducible exact keep6 hHeld (by omega) _ _ _ _ _ _ | exact ⟨e0, e1, e2, e3, e4, e5⟩))
    refine Draw.wpAnyY_take (i := 0) (v := ?_) rfl (by kernel_rfl) (by kernel_rfl) (by kernel_rfl) (by kernel_rfl) (fun _ _ _ h => h) (Or.inl ⟨by rfl, ?_⟩) (by assumption) ?_
    rotate_left 1
    focus (intro wS hSw; (try dsimp only at hSw); go_simp; first | done | (constructor <;> with_reducible rfl) | with_reducible rfl)
    (try simp only [Act.put, List.getElem_toArray, List.getElem_cons_zero, List.getElem_cons_succ, List.setIfInBounds_toArray, List.set_cons_zero, List.set_cons_succ])
    refine Draw.wpAnyY_take (i := 1) (v := ?_) rfl (by kernel_rfl) (by kernel_rfl) (by kernel_rfl) (by kernel_rfl) (fun _ _ _ h => h) (Or.inl ⟨by rfl, ?_⟩) (by assumption) ?_
    rotate_left 1
    focus (intro wS hSw; (try dsimp only at hSw); go_simp; first | done | (constructor <;> with_reducible rfl) | with_reducible rfl)
    (try simp only [Act.put, List.getElem_toArray, List.getElem_cons_zero, List.getElem_cons_succ, List.setIfInBounds_toArray, List.set_cons_zero, List.set_cons_succ])
    refine Draw.wpAnyY_take (i := 2) (v := ?_) rfl (by kernel_rfl) (by kernel_rfl) (by kernel_rfl) (by kernel_rfl) (fun _ _ _ h => h) (Or.inl ⟨by rfl, ?_⟩) (by assumption) ?_
    rotate_left 1
    focus (intro wS hSw; (try dsimp only at hSw); go_simp; first | done | (constructor <;> with_reducible rfl) | with_reducible rfl)
    (try simp only [Act.put, List.getElem_toArray, List.getElem_cons_zero, List.getElem_cons_succ, List.setIfInBounds_toArray, List.set_cons_zero, List.set_cons_succ])
    refine Draw.wpAnyY_take (i := 3) (v := ?_) rfl (by kernel_rfl) (by kernel_rfl) (by kernel_rfl) (by kernel_rfl) (fun _ _ _ h => h) (Or.inl ⟨by rfl, ?_⟩) (by assumption) ?_
    rotate_left 1
    focus (intro wS hSw; (try dsimp only at hSw); go_simp; first | done | (constructor <;> with_reducible rfl) | with_reducible rfl)
    (try simp only [Act.put, List.getElem_toArray, List.getElem_cons_zero, List.getElem_cons_succ, List.setIfInBounds_toArray, List.set_cons_zero, List.set_cons_succ])
    refine Draw.wpAnyY_ready (rs := [4]) (by kernel_rfl) (by simp) ?_
    refine Draw.AllReadyY.cons rfl (fun K hK => ?_) Draw.AllReadyY.nil
    (go_simp; refine (Draw.l1Once _ _ _ cu6.drew).mono ?_; rintro x wa ⟨d, rfl, cua, ka⟩; have va := v6.drew.kept ka (by omega); have za := z6.drew.kept ka (by omega); have Ba := B6.drew.trans (ka.below (by omega) B6.size); have s0 := va.cell (i := 0) rfl; have s1 := va.cell (i := 1) rfl; have s2 := va.cell (i := 2) rfl; have s3 := va.cell (i := 3) rfl; have s4 := va.cell (i := 4) rfl; have s5 := va.cell (i := 5) rfl; have q0 := za.cell (i := 0) rfl; have q1 := za.cell (i := 1) rfl; have q2 := za.cell (i := 2) rfl; have q3 := za.cell (i := 3) rfl; have q4 := za.cell (i := 4) rfl; have q5 := za.cell (i := 5) rfl; have x0 := za.free 0; have x1 := za.free 1; have x2 := za.free 2; have x3 := za.free 3; have x4 := za.free 4; have x5 := za.free 5)
    refine hK.out _ _ ?_ (fun hHeld2 => ?_)
    focus (intro _ _; (try dsimp only) <;> (first | with_reducible exact hHeld | with_reducible exact ⟨s0, s1, s2, s3, s4, s5⟩ | with_reducible exact keep6 hHeld (by omega) _ _ _ _ _ _ | exact ⟨e0, e1, e2, e3, e4, e5⟩))
    clear hK K
    replace hHeld := hHeld2 (by decide) hHeld
    clear hHeld2
    (try simp only [Act.put, List.getElem_toArray, List.getElem_cons_zero, List.getElem_cons_succ, List.setIfInBounds_toArray, List.set_cons_zero, List.set_cons_succ])
    refine Draw.wpAnyY_ready (rs := [5]) (by kernel_rfl) (by simp) ?_
    refine Draw.AllReadyY.cons rfl (fun K hK => ?_) Draw.AllReadyY.nil
    go_simp
    refine hK.out _ _ ?_ (fun hHeld2 => ?_)
    focus (intro _ _; (try dsimp only) <;> (first | with_reducible exact hHeld | with_reducible exact ⟨s0, s1, s2, s3, s4, s5⟩ | with_reducible exact keep6 hHeld (by omega) _ _ _ _ _ _ | exact ⟨e0, e1, e2, e3, e4, e5⟩))
    clear hK K
    replace hHeld := hHeld2 (by decide) hHeld
    clear hHeld2
    (try simp only [Act.put, List.getElem_toArray, List.getElem_cons_zero, List.getElem_cons_succ, List.setIfInBounds_toArray, List.set_cons_zero, List.set_cons_succ])
    refine Draw.wpAnyY_ready (rs := [6]) (by kernel_rfl) (by simp) ?_
    refine Draw.AllReadyY.cons rfl (fun K hK => ?_) Draw.AllReadyY.nil
    go_simp
    refine hK.out _ _ ?_ (fun hHeld2 => ?_)
    focus (intro _ _; (try dsimp only) <;> (first | with_reducible exact hHeld | with_reducible exact ⟨s0, s1, s2, s3, s4, s5⟩ | with_reducible exact keep6 hHeld (by omega) _ _ _ _ _ _ | exact ⟨e0, e1, e2, e3, e4, e5⟩))
    clear hK K
    replace hHeld := hHeld2 (by decide) hHeld
    clear hHeld2
    (try simp only [Act.put, List.getElem_toArray, List.getElem_cons_zero, List.getElem_cons_succ, List.setIfInBounds_toArray, List.set_cons_zero, List.set_cons_succ])
    refine Draw.wpAnyY_ready (rs := [7]) (by kernel_rfl) (by simp) ?_
    refine Draw.AllReadyY.cons rfl (fun K hK => ?_) Draw.AllReadyY.nil
    go_simp
    refine hK.out _ _ ?_ (fun hHeld2 => ?_)
    focus (intro _ _; (try dsimp only) <;> (first | with_reducible exact hHeld | with_reducible exact ⟨s0, s1, s2, s3, s4, s5⟩ | with_reducible exact keep6 hHeld (by omega) _ _ _ _ _ _ | exact ⟨e0, e1, e2, e3, e4, e5⟩))
    clear hK K
    replace hHeld := hHeld2 (by decide) hHeld
    clear hHeld2
    (try simp only [Act.put, List.getElem_toArray, List.getElem_cons_zero, List.getElem_cons_succ, List.setIfInBounds_toArray, List.set_cons_zero, List.set_cons_succ])
    refine Draw.wpAnyY_ready (rs := [8]) (by kernel_rfl) (by simp) ?_
    refine Draw.AllReadyY.cons rfl (fun K hK => ?_) Draw.AllReadyY.nil
    go_simp
    refine hK.out _ _ (fun h => absurd rfl h) (fun hHeld2 => ?_)
    clear hK K hHeld hHeld2
    (try simp only [Act.put, List.getElem_toArray, List.getElem_cons_zero, List.getElem_cons_succ, List.setIfInBounds_toArray, List.set_cons_zero, List.set_cons_succ])
    refine Draw.wpAnyY_done (by kernel_rfl) ?_ _
    clear e0 e1 e2 e3 e4 e5 s0 s1 s2 s3 s4 s5
    go_wp2_with fail
    first
      | refine bodyPost_ret (v := .tuple #[.agg #[.int .i64 g.ba, .string g.bs, .int .i64 g.cp, .int .i64 g.lm, .bool g.en, .bool g.dn], .int .i64 p, .int .i64 q, .bool d]) (by rw [res_cell_tmp3 rfl]; go_simp) rfl ⟨g, p, q, d, hg, rfl, ?_⟩
      | refine bodyPost_ret (v := .tuple #[.agg #[.int .i64 g.ba, .string g.bs, .int .i64 g.cp, .int .i64 g.lm, .bool g.en, .bool g.dn], .int .i64 p, .int .i64 (IntKind.i64.wrap (g.ba + i)), .bool d]) (by rw [res_cell_tmp3 rfl]; go_simp) rfl ⟨g, p, _, d, hg, rfl, ?_⟩
    iterate 6 (refine Below.setCell ?_ (by dsimp only; omega) _)
    exact Ba

end Go.Proofs.Ytagpgjojfglkjaa.Giv
