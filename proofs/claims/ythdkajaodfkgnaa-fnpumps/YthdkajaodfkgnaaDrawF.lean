/- Draws of chapter 6: l6DrawAny, DrawGiverOk, DrawEnds, DrawNewGiver. -/
import Derived.Test.YthdkajaodfkgnaaDrawG
namespace Go.Proofs.Ythdkajaodfkgnaa.Giv
open Go.RowKit RowG
set_option linter.unusedVariables false
set_option linter.unusedSimpArgs false

theorem four (a b c d : Int) (x : Int) (h0 : 0 ≤ x) (h1 : x < 4) : ∃ v : Int, (#[.int .i64 a, .int .i64 b, .int .i64 c, .int .i64 d] : Array Value)[x.toNat]? = some (.int .i64 v) := by
  have h : x = 0 ∨ x = 1 ∨ x = 2 ∨ x = 3 := by omega
  rcases h with rfl | rfl | rfl | rfl <;> exact ⟨_, rfl⟩
theorem six (a b c d e f : Int) (x : Int) (h0 : 0 ≤ x) (h1 : x < 6) : ∃ v : Int, (#[.int .i64 a, .int .i64 b, .int .i64 c, .int .i64 d, .int .i64 e, .int .i64 f] : Array Value)[x.toNat]? = some (.int .i64 v) := by
  have h : x = 0 ∨ x = 1 ∨ x = 2 ∨ x = 3 ∨ x = 4 ∨ x = 5 := by omega
  rcases h with rfl | rfl | rfl | rfl | rfl | rfl <;> exact ⟨_, rfl⟩

set_option maxRecDepth 10000 in
set_option maxHeartbeats 4000000 in
theorem l6DrawAny (c : Nat) (w : World) (h : Draw.Cur w c) :
    Calls Try.prog 28 #[.pointer (some ⟨c, 0, none⟩)] w fun x w' => ∃ g : Gv, g.bs.size ≤ 400 ∧ x = .returned g.v ∧ Draw.Cur w' c ∧ Draw.Kept c w w' := by
  have hlt := h.lt
  have z1 : Var 28 (w.alloc (.cells #[.int .i64 0, .string ⟨#[]⟩, .int .i64 0, .int .i64 0, .bool false, .bool false] 28)) w.heap.size [.int .i64 0, .string ⟨#[]⟩, .int .i64 0, .int .i64 0, .bool false, .bool false] := Var.new w _
  have cu1 : Draw.Cur (w.alloc (.cells #[.int .i64 0, .string ⟨#[]⟩, .int .i64 0, .int .i64 0, .bool false, .bool false] 28)) c := h.alloc _
  have p1 : Draw.Kept c w (w.alloc (.cells #[.int .i64 0, .string ⟨#[]⟩, .int .i64 0, .int .i64 0, .bool false, .bool false] 28)) := (Draw.Kept.refl c w).alloc _
  go_enter Try.func28, Try.ntmps28
  go_wp2_with fail
  generalize w.alloc (.cells #[.int .i64 0, .string ⟨#[]⟩, .int .i64 0, .int .i64 0, .bool false, .bool false] 28) = W1 at *
  refine (l6Draw c _ cu1).mono ?_
  rintro e w2 ⟨g, hok, rfl, cu2, k2⟩
  have hsz : g.bs.size ≤ 400 := by have := ok_iff.1 hok; omega
  have z2 := z1.kept k2 (by omega)
  have p2 := p1.trans k2
  have v3 : Var 28 (w2.alloc (.cells #[.int .i64 g.ba, .string g.bs, .int .i64 g.cp, .int .i64 g.lm, .bool g.en, .bool g.dn] 28)) w2.heap.size [.int .i64 g.ba, .string g.bs, .int .i64 g.cp, .int .i64 g.lm, .bool g.en, .bool g.dn] := Var.new w2 _
  have z3 := z2.alloc (.cells #[.int .i64 g.ba, .string g.bs, .int .i64 g.cp, .int .i64 g.lm, .bool g.en, .bool g.dn] 28)
  have cu3 := cu2.alloc (.cells #[.int .i64 g.ba, .string g.bs, .int .i64 g.cp, .int .i64 g.lm, .bool g.en, .bool g.dn] 28)
  have p3 := p2.alloc (.cells #[.int .i64 g.ba, .string g.bs, .int .i64 g.cp, .int .i64 g.lm, .bool g.en, .bool g.dn] 28)
  have hk3 : w.heap.size < w2.heap.size := z2.lt
  clear z1 z2 cu1 cu2 p1 p2 k2 hok
  dsimp only [Gv.v]
  go_upto_region 2 with (fail)
  generalize w2.alloc (.cells #[.int .i64 g.ba, .string g.bs, .int .i64 g.cp, .int .i64 g.lm, .bool g.en, .bool g.dn] 28) = W3 at *
  generalize w2.heap.size = k3 at *
  go_wp2_with fail
  refine (Draw.l1Once c 8 _ cu3).mono ?_
  rintro e w4 ⟨b, rfl, cu4, k4⟩
  have v4 := v3.kept k4 (by omega)
  have z4 := z3.kept k4 (by omega)
  have p4 := p3.trans k4
  clear v3 z3 cu3 p3 k4
  cases b
  case false =>
    have v9 := v4
    have z9 := z4
    have cu9 := cu4
    have p9 := p4
    clear v4 z4 cu4 p4
    have d0 := v9.cell (i := 0) rfl
    have d1 := v9.cell (i := 1) rfl
    have d2 := v9.cell (i := 2) rfl
    have d3 := v9.cell (i := 3) rfl
    have d4 := v9.cell (i := 4) rfl
    have d5 := v9.cell (i := 5) rfl
    have r0 := z9.cell (i := 0) rfl
    have r1 := z9.cell (i := 1) rfl
    have r2 := z9.cell (i := 2) rfl
    have r3 := z9.cell (i := 3) rfl
    have r4 := z9.cell (i := 4) rfl
    have r5 := z9.cell (i := 5) rfl
    have y0 := z9.free 0
    have y1 := z9.free 1
    have y2 := z9.free 2
    have y3 := z9.free 3
    have y4 := z9.free 4
    have y5 := z9.free 5
    go_wp2_with fail
    refine bodyPost_ret (v := .agg #[.int .i64 g.ba, .string g.bs, .int .i64 g.cp, .int .i64 g.lm, .bool g.en, .bool g.dn]) (by rw [Tak.res_cell rfl]; go_simp) rfl ⟨g, hsz, rfl, ?_, ?_⟩
    · iterate 6 (refine Draw.Cur.upto ?_ (fun i hi => Below.heap_setCell _ _ _ _ (by dsimp only; omega)))
      exact cu9
    · iterate 6 (refine Draw.Kept.setCell ?_ (.inr (by dsimp only; omega)) _)
      exact p9
  go_wp2_with fail
  refine (Draw.l1Below c 5 _ cu4).mono ?_
  rintro e w5 ⟨j, q0, q1, rfl, cu5, k5⟩
  have v5 := v4.kept k5 (by omega)
  have z5 := z4.kept k5 (by omega)
  have p5 := p4.trans k5
  have hj : j = 0 ∨ j = 1 ∨ j = 2 ∨ j = 3 ∨ j = 4 := by omega
  have hck : c < k3 := by omega
  clear v4 z4 cu4 p4 k5 q0 q1
  rcases hj with rfl | rfl | rfl | rfl | rfl
  focus
    go_wp2_with fail
    refine (Draw.l1Below c 4 _ (cu5.alloc _)).mono ?_
    rintro e w6 ⟨x, x0, x1, rfl, cu6, k6⟩
    have x2 : x < 4 := by omega
    clear x1
    obtain ⟨v, hv⟩ := four 0 1 400 401 x x0 x2
    have hcl := cu5.lt
    have hc := (k6.cell (p := ⟨w5.heap.size, x.toNat, none⟩) (by simp) (show w5.heap.size ≠ c by omega)).trans ((World.cell?_alloc_new _ _ _ _).trans hv)
    have v6 := (v5.alloc (.cells #[.int .i64 0, .int .i64 1, .int .i64 400, .int .i64 401] 2)).kept k6 (by omega)
    have z6 := (z5.alloc (.cells #[.int .i64 0, .int .i64 1, .int .i64 400, .int .i64 401] 2)).kept k6 (by omega)
    have p6 := (p5.alloc (.cells #[.int .i64 0, .int .i64 1, .int .i64 400, .int .i64 401] 2)).trans k6
    have f2 := v6.free 2
    have e2 := v6.cell (i := 2) rfl
    have HV : Hid _ := hv
    clear hv v5 z5 p5 cu5 k6
    go_upto_region 15 with (fail)
    have v9 : Var 28 (w6.setCell ⟨k3, 2, none⟩ (.int .i64 v)) k3 [.int .i64 g.ba, .string g.bs, .int .i64 v, .int .i64 g.lm, .bool g.en, .bool g.dn] := v6.set 2 _
    have z9 : Var 28 (w6.setCell ⟨k3, 2, none⟩ (.int .i64 v)) w.heap.size [.int .i64 0, .string ⟨#[]⟩, .int .i64 0, .int .i64 0, .bool false, .bool false] := z6.other (by dsimp only; omega) _
    have cu9 : Draw.Cur (w6.setCell ⟨k3, 2, none⟩ (.int .i64 v)) c := cu6.upto (fun i hi => Below.heap_setCell _ _ _ _ (by dsimp only; omega))
    have p9 : Draw.Kept c w (w6.setCell ⟨k3, 2, none⟩ (.int .i64 v)) := p6.setCell (.inr (by dsimp only; omega)) _
    generalize w6.setCell ⟨k3, 2, none⟩ (.int .i64 v) = W9 at *
    clear f2 e2 hc
    have d0 := v9.cell (i := 0) rfl
    have d1 := v9.cell (i := 1) rfl
    have d2 := v9.cell (i := 2) rfl
    have d3 := v9.cell (i := 3) rfl
    have d4 := v9.cell (i := 4) rfl
    have d5 := v9.cell (i := 5) rfl
    have r0 := z9.cell (i := 0) rfl
    have r1 := z9.cell (i := 1) rfl
    have r2 := z9.cell (i := 2) rfl
    have r3 := z9.cell (i := 3) rfl
    have r4 := z9.cell (i := 4) rfl
    have r5 := z9.cell (i := 5) rfl
    have y0 := z9.free 0
    have y1 := z9.free 1
    have y2 := z9.free 2
    have y3 := z9.free 3
    have y4 := z9.free 4
    have y5 := z9.free 5
    go_wp2_with fail
    refine bodyPost_ret (v := .agg #[.int .i64 g.ba, .string g.bs, .int .i64 v, .int .i64 g.lm, .bool g.en, .bool g.dn]) (by rw [Tak.res_cell rfl]; go_simp) rfl ⟨⟨g.ba, g.bs, v, g.lm, g.en, g.dn⟩, hsz, rfl, ?_, ?_⟩
    · iterate 6 (refine Draw.Cur.upto ?_ (fun i hi => Below.heap_setCell _ _ _ _ (by dsimp only; omega)))
      exact cu9
    · iterate 6 (refine Draw.Kept.setCell ?_ (.inr (by dsimp only; omega)) _)
      exact p9
  focus
    go_wp2_with fail
    refine (Draw.l1DrawPlace c _ cu5).mono ?_
    rintro e w6 ⟨v, rfl, cu6, k6⟩
    have v6 := v5.kept k6 (by omega)
    have z6 := z5.kept k6 (by omega)
    have p6 := p5.trans k6
    have f2 := v6.free 0
    have e2 := v6.cell (i := 0) rfl
    clear v5 z5 p5 cu5 k6
    go_upto_region 15 with (fail)
    have v9 : Var 28 (w6.setCell ⟨k3, 0, none⟩ (.int .i64 v)) k3 [.int .i64 v, .string g.bs, .int .i64 g.cp, .int .i64 g.lm, .bool g.en, .bool g.dn] := v6.set 0 _
    have z9 : Var 28 (w6.setCell ⟨k3, 0, none⟩ (.int .i64 v)) w.heap.size [.int .i64 0, .string ⟨#[]⟩, .int .i64 0, .int .i64 0, .bool false, .bool false] := z6.other (by dsimp only; omega) _
    have cu9 : Draw.Cur (w6.setCell ⟨k3, 0, none⟩ (.int .i64 v)) c := cu6.upto (fun i hi => Below.heap_setCell _ _ _ _ (by dsimp only; omega))
    have p9 : Draw.Kept c w (w6.setCell ⟨k3, 0, none⟩ (.int .i64 v)) := p6.setCell (.inr (by dsimp only; omega)) _
    generalize w6.setCell ⟨k3, 0, none⟩ (.int .i64 v) = W9 at *
    clear f2 e2
    have d0 := v9.cell (i := 0) rfl
    have d1 := v9.cell (i := 1) rfl
    have d2 := v9.cell (i := 2) rfl
    have d3 := v9.cell (i := 3) rfl
    have d4 := v9.cell (i := 4) rfl
    have d5 := v9.cell (i := 5) rfl
    have r0 := z9.cell (i := 0) rfl
    have r1 := z9.cell (i := 1) rfl
    have r2 := z9.cell (i := 2) rfl
    have r3 := z9.cell (i := 3) rfl
    have r4 := z9.cell (i := 4) rfl
    have r5 := z9.cell (i := 5) rfl
    have y0 := z9.free 0
    have y1 := z9.free 1
    have y2 := z9.free 2
    have y3 := z9.free 3
    have y4 := z9.free 4
    have y5 := z9.free 5
    go_wp2_with fail
    refine bodyPost_ret (v := .agg #[.int .i64 v, .string g.bs, .int .i64 g.cp, .int .i64 g.lm, .bool g.en, .bool g.dn]) (by rw [Tak.res_cell rfl]; go_simp) rfl ⟨⟨v, g.bs, g.cp, g.lm, g.en, g.dn⟩, hsz, rfl, ?_, ?_⟩
    · iterate 6 (refine Draw.Cur.upto ?_ (fun i hi => Below.heap_setCell _ _ _ _ (by dsimp only; omega)))
      exact cu9
    · iterate 6 (refine Draw.Kept.setCell ?_ (.inr (by dsimp only; omega)) _)
      exact p9
  focus
    go_wp2_with fail
    refine (Draw.l1DrawPlace c _ cu5).mono ?_
    rintro e w6 ⟨v, rfl, cu6, k6⟩
    have v6 := v5.kept k6 (by omega)
    have z6 := z5.kept k6 (by omega)
    have p6 := p5.trans k6
    have f2 := v6.free 3
    have e2 := v6.cell (i := 3) rfl
    clear v5 z5 p5 cu5 k6
    go_upto_region 15 with (fail)
    have v9 : Var 28 (w6.setCell ⟨k3, 3, none⟩ (.int .i64 v)) k3 [.int .i64 g.ba, .string g.bs, .int .i64 g.cp, .int .i64 v, .bool g.en, .bool g.dn] := v6.set 3 _
    have z9 : Var 28 (w6.setCell ⟨k3, 3, none⟩ (.int .i64 v)) w.heap.size [.int .i64 0, .string ⟨#[]⟩, .int .i64 0, .int .i64 0, .bool false, .bool false] := z6.other (by dsimp only; omega) _
    have cu9 : Draw.Cur (w6.setCell ⟨k3, 3, none⟩ (.int .i64 v)) c := cu6.upto (fun i hi => Below.heap_setCell _ _ _ _ (by dsimp only; omega))
    have p9 : Draw.Kept c w (w6.setCell ⟨k3, 3, none⟩ (.int .i64 v)) := p6.setCell (.inr (by dsimp only; omega)) _
    generalize w6.setCell ⟨k3, 3, none⟩ (.int .i64 v) = W9 at *
    clear f2 e2
    have d0 := v9.cell (i := 0) rfl
    have d1 := v9.cell (i := 1) rfl
    have d2 := v9.cell (i := 2) rfl
    have d3 := v9.cell (i := 3) rfl
    have d4 := v9.cell (i := 4) rfl
    have d5 := v9.cell (i := 5) rfl
    have r0 := z9.cell (i := 0) rfl
    have r1 := z9.cell (i := 1) rfl
    have r2 := z9.cell (i := 2) rfl
    have r3 := z9.cell (i := 3) rfl
    have r4 := z9.cell (i := 4) rfl
    have r5 := z9.cell (i := 5) rfl
    have y0 := z9.free 0
    have y1 := z9.free 1
    have y2 := z9.free 2
    have y3 := z9.free 3
    have y4 := z9.free 4
    have y5 := z9.free 5
    go_wp2_with fail
    refine bodyPost_ret (v := .agg #[.int .i64 g.ba, .string g.bs, .int .i64 g.cp, .int .i64 v, .bool g.en, .bool g.dn]) (by rw [Tak.res_cell rfl]; go_simp) rfl ⟨⟨g.ba, g.bs, g.cp, v, g.en, g.dn⟩, hsz, rfl, ?_, ?_⟩
    · iterate 6 (refine Draw.Cur.upto ?_ (fun i hi => Below.heap_setCell _ _ _ _ (by dsimp only; omega)))
      exact cu9
    · iterate 6 (refine Draw.Kept.setCell ?_ (.inr (by dsimp only; omega)) _)
      exact p9
  focus
    have f5 := v5.free 5
    have e5 := v5.cell (i := 5) rfl
    go_upto_region 15 with (fail)
    have v9 : Var 28 (w5.setCell ⟨k3, 5, none⟩ (.bool (!g.dn))) k3 [.int .i64 g.ba, .string g.bs, .int .i64 g.cp, .int .i64 g.lm, .bool g.en, .bool (!g.dn)] := v5.set 5 _
    have z9 : Var 28 (w5.setCell ⟨k3, 5, none⟩ (.bool (!g.dn))) w.heap.size [.int .i64 0, .string ⟨#[]⟩, .int .i64 0, .int .i64 0, .bool false, .bool false] := z5.other (by dsimp only; omega) _
    have cu9 : Draw.Cur (w5.setCell ⟨k3, 5, none⟩ (.bool (!g.dn))) c := cu5.upto (fun i hi => Below.heap_setCell _ _ _ _ (by dsimp only; omega))
    have p9 : Draw.Kept c w (w5.setCell ⟨k3, 5, none⟩ (.bool (!g.dn))) := p5.setCell (.inr (by dsimp only; omega)) _
    generalize (w5.setCell ⟨k3, 5, none⟩ (.bool (!g.dn))) = W9 at *
    clear f5 e5 v5 z5 cu5 p5
    have d0 := v9.cell (i := 0) rfl
    have d1 := v9.cell (i := 1) rfl
    have d2 := v9.cell (i := 2) rfl
    have d3 := v9.cell (i := 3) rfl
    have d4 := v9.cell (i := 4) rfl
    have d5 := v9.cell (i := 5) rfl
    have r0 := z9.cell (i := 0) rfl
    have r1 := z9.cell (i := 1) rfl
    have r2 := z9.cell (i := 2) rfl
    have r3 := z9.cell (i := 3) rfl
    have r4 := z9.cell (i := 4) rfl
    have r5 := z9.cell (i := 5) rfl
    have y0 := z9.free 0
    have y1 := z9.free 1
    have y2 := z9.free 2
    have y3 := z9.free 3
    have y4 := z9.free 4
    have y5 := z9.free 5
    go_wp2_with fail
    refine bodyPost_ret (v := .agg #[.int .i64 g.ba, .string g.bs, .int .i64 g.cp, .int .i64 g.lm, .bool g.en, .bool (!g.dn)]) (by rw [Tak.res_cell rfl]; go_simp) rfl ⟨⟨g.ba, g.bs, g.cp, g.lm, g.en, !g.dn⟩, hsz, rfl, ?_, ?_⟩
    · iterate 6 (refine Draw.Cur.upto ?_ (fun i hi => Below.heap_setCell _ _ _ _ (by dsimp only; omega)))
      exact cu9
    · iterate 6 (refine Draw.Kept.setCell ?_ (.inr (by dsimp only; omega)) _)
      exact p9
  focus
    have f0 := v5.free 0
    have e0 := v5.cell (i := 0) rfl
    have f3 := v5.free 3
    have e3 := v5.cell (i := 3) rfl
    go_upto_region 15 with (fail)
    have v9 : Var 28 ((w5.setCell ⟨k3, 0, none⟩ (.int .i64 999999997)).setCell ⟨k3, 3, none⟩ (.int .i64 1000000000)) k3 [.int .i64 999999997, .string g.bs, .int .i64 g.cp, .int .i64 1000000000, .bool g.en, .bool g.dn] := (v5.set 0 _).set 3 _
    have z9 : Var 28 ((w5.setCell ⟨k3, 0, none⟩ (.int .i64 999999997)).setCell ⟨k3, 3, none⟩ (.int .i64 1000000000)) w.heap.size [.int .i64 0, .string ⟨#[]⟩, .int .i64 0, .int .i64 0, .bool false, .bool false] := (z5.other (by dsimp only; omega) _).other (by dsimp only; omega) _
    have cu9 : Draw.Cur ((w5.setCell ⟨k3, 0, none⟩ (.int .i64 999999997)).setCell ⟨k3, 3, none⟩ (.int .i64 1000000000)) c := (cu5.upto (fun i hi => Below.heap_setCell _ _ _ _ (by dsimp only; omega))).upto (fun i hi => Below.heap_setCell _ _ _ _ (by dsimp only; omega))
    have p9 : Draw.Kept c w ((w5.setCell ⟨k3, 0, none⟩ (.int .i64 999999997)).setCell ⟨k3, 3, none⟩ (.int .i64 1000000000)) := (p5.setCell (.inr (by dsimp only; omega)) _).setCell (.inr (by dsimp only; omega)) _
    generalize ((w5.setCell ⟨k3, 0, none⟩ (.int .i64 999999997)).setCell ⟨k3, 3, none⟩ (.int .i64 1000000000)) = W9 at *
    clear f0 e0 f3 e3 v5 z5 cu5 p5
    have d0 := v9.cell (i := 0) rfl
    have d1 := v9.cell (i := 1) rfl
    have d2 := v9.cell (i := 2) rfl
    have d3 := v9.cell (i := 3) rfl
    have d4 := v9.cell (i := 4) rfl
    have d5 := v9.cell (i := 5) rfl
    have r0 := z9.cell (i := 0) rfl
    have r1 := z9.cell (i := 1) rfl
    have r2 := z9.cell (i := 2) rfl
    have r3 := z9.cell (i := 3) rfl
    have r4 := z9.cell (i := 4) rfl
    have r5 := z9.cell (i := 5) rfl
    have y0 := z9.free 0
    have y1 := z9.free 1
    have y2 := z9.free 2
    have y3 := z9.free 3
    have y4 := z9.free 4
    have y5 := z9.free 5
    go_wp2_with fail
    refine bodyPost_ret (v := .agg #[.int .i64 999999997, .string g.bs, .int .i64 g.cp, .int .i64 1000000000, .bool g.en, .bool g.dn]) (by rw [Tak.res_cell rfl]; go_simp) rfl ⟨⟨999999997, g.bs, g.cp, 1000000000, g.en, g.dn⟩, hsz, rfl, ?_, ?_⟩
    · iterate 6 (refine Draw.Cur.upto ?_ (fun i hi => Below.heap_setCell _ _ _ _ (by dsimp only; omega)))
      exact cu9
    · iterate 6 (refine Draw.Kept.setCell ?_ (.inr (by dsimp only; omega)) _)
      exact p9

end Go.Proofs.Ythdkajaodfkgnaa.Giv
