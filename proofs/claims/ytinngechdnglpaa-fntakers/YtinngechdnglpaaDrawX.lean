/- Draws of chapter 5: DrawTakerOk, DrawLimitOf, DrawNewTaker; at most 4096 bytes. -/
import Derived.Test.YtinngechdnglpaaDrawW
namespace Go.Proofs.Ytinngechdnglpaa.Tak
open Go.RowKit RowG
set_option linter.unusedVariables false
set_option linter.unusedSimpArgs false

set_option maxHeartbeats 1000000 in
theorem drawTakerOk (a : Option Addr) (len cap : Nat) (w : World) (hb : Draw.Bytes w a len) (hl : len ≤ 4096) :
    Calls Try.prog 38 #[.slice a len cap] w fun x w' => ∃ t : Tk, good t ∧ ∃ (a' : Option Addr) (c' : Nat), x = .returned (t.v a' c') ∧ partE.Own 53 w' w.heap.size a' c' t.l ∧ Below w.heap.size w w' := by
  have b0 : Below w.heap.size w (w.alloc (.cells #[.int .i64 0, .string ⟨#[]⟩, .slice none 0 0, .int .i64 0, .int .i64 0, .bool false] 26)) := (Below.refl _ _).alloc (Nat.le_refl _) _
  have z0 : Var 26 (w.alloc (.cells #[.int .i64 0, .string ⟨#[]⟩, .slice none 0 0, .int .i64 0, .int .i64 0, .bool false] 26)) w.heap.size [.int .i64 0, .string ⟨#[]⟩, .slice none 0 0, .int .i64 0, .int .i64 0, .bool false] := Var.new _ _
  have hb0 := hb.below b0 (Nat.le_refl _)
  go_enter Try.func38, Try.ntmps38
  go_wp2_with fail
  have hs0 : (w.alloc (.cells #[.int .i64 0, .string ⟨#[]⟩, .slice none 0 0, .int .i64 0, .int .i64 0, .bool false] 26)).heap.size = w.heap.size + 1 := by simp
  generalize hW0 : w.alloc (.cells #[.int .i64 0, .string ⟨#[]⟩, .slice none 0 0, .int .i64 0, .int .i64 0, .bool false] 26) = W0 at *
  clear hW0
  refine (Draw.l1New a len cap _ hb0 hl).mono ?_
  rintro x w1 ⟨rfl, hh, hw1⟩
  have c1 : Draw.Cur w1 W0.heap.size := by rw [hw1]; exact Draw.cur_new hb0 hl hh _
  have b1 : Below W0.heap.size W0 w1 := by rw [hw1]; exact (Below.refl _ _).alloc (Nat.le_refl _) _
  have h1 : W0.heap.size < w1.heap.size := by rw [hw1]; simp
  have z1 := z0.later b1
  have B1 := b0.trans (b1.mono b0.size)
  clear hw1 z0 b1 hb0
  rw [hs0] at c1 h1
  rw [hs0]
  clear hs0 b0
  go_wp2_with fail
  refine (l5DrawAny _ _ c1).mono ?_
  rintro x w2 ⟨t, hg, a1, c1', rfl, o2, cu2, k2⟩
  have z2 := z1.kept k2 (by omega)
  have B2 : Below w.heap.size w w2 := B1.trans (k2.below (by omega) B1.size)
  have HX : Hid (∀ x, a1 = some x → w.heap.size + 1 < x.block) := fun x e => Nat.lt_of_lt_of_le h1 (o2.lt x e).1
  have o2 := o2.mono (Nat.le_of_lt (Nat.lt_trans (Nat.lt_succ_self _) h1))
  have HG : Hid (good t) := hg
  clear z1 B1 k2 cu2 c1 hg
  have r0 := z2.cell (i := 0) rfl
  have f0 := z2.free 0
  have r1 := z2.cell (i := 1) rfl
  have f1 := z2.free 1
  have r2 := z2.cell (i := 2) rfl
  have f2 := z2.free 2
  have r3 := z2.cell (i := 3) rfl
  have f3 := z2.free 3
  have r4 := z2.cell (i := 4) rfl
  have f4 := z2.free 4
  have r5 := z2.cell (i := 5) rfl
  have f5 := z2.free 5
  clear z2
  dsimp only [Tk.v]
  go_wp2_with fail
  refine bodyPost_ret (v := .agg #[.int .i64 t.nx, .string t.bs, .slice a1 t.l.length c1', .int .i64 t.cp, .int .i64 t.fi, .bool t.en]) (by rw [Tak.res_cell rfl]; go_simp) rfl ⟨t, HG.out, a1, c1', rfl, ?_, ?_⟩
  · iterate 6 (refine El.Own.setCell ?_ (fun x hx' => by have := HX.out x hx'; dsimp only; omega) _)
    exact o2
  · iterate 6 (refine Below.setCell ?_ (by dsimp only; omega) _)
    exact B2

set_option maxHeartbeats 1000000 in
theorem drawLimitOf (a : Option Addr) (len cap : Nat) (w : World) (hb : Draw.Bytes w a len) (hl : len ≤ 4096) :
    Calls Try.prog 10 #[.slice a len cap] w fun x w' => ∃ t : Tk, good t ∧ ∃ (a' : Option Addr) (c' : Nat), x = .returned (t.v a' c') ∧ partE.Own 53 w' w.heap.size a' c' t.l ∧ Below w.heap.size w w' := by
  have b0 : Below w.heap.size w (w.alloc (.cells #[.int .i64 0, .string ⟨#[]⟩, .slice none 0 0, .int .i64 0, .int .i64 0, .bool false] 26)) := (Below.refl _ _).alloc (Nat.le_refl _) _
  have z0 : Var 26 (w.alloc (.cells #[.int .i64 0, .string ⟨#[]⟩, .slice none 0 0, .int .i64 0, .int .i64 0, .bool false] 26)) w.heap.size [.int .i64 0, .string ⟨#[]⟩, .slice none 0 0, .int .i64 0, .int .i64 0, .bool false] := Var.new _ _
  have hb0 := hb.below b0 (Nat.le_refl _)
  have hs0 : w.heap.size < (w.alloc (.cells #[.int .i64 0, .string ⟨#[]⟩, .slice none 0 0, .int .i64 0, .int .i64 0, .bool false] 26)).heap.size := by simp
  go_enter Try.func10, Try.ntmps10
  go_wp2_with fail
  refine (drawTakerOk a len cap _ hb0 hl).mono ?_
  rintro x w2 ⟨t, hg, a1, c1', rfl, o2, b2⟩
  have z2 := z0.later b2
  have B2 := b0.trans (b2.mono b0.size)
  have HX : Hid (∀ x, a1 = some x → w.heap.size < x.block) := fun x e => Nat.lt_of_lt_of_le hs0 (o2.lt x e).1
  have o2 := o2.mono (Nat.le_of_lt hs0)
  have HG : Hid (good t) := hg
  clear z0 b0 b2 hb0 hg hs0
  have r0 := z2.cell (i := 0) rfl
  have f0 := z2.free 0
  have r1 := z2.cell (i := 1) rfl
  have f1 := z2.free 1
  have r2 := z2.cell (i := 2) rfl
  have f2 := z2.free 2
  have r3 := z2.cell (i := 3) rfl
  have f3 := z2.free 3
  have r4 := z2.cell (i := 4) rfl
  have f4 := z2.free 4
  have r5 := z2.cell (i := 5) rfl
  have f5 := z2.free 5
  clear z2
  dsimp only [Tk.v]
  go_wp2_with fail
  refine bodyPost_ret (v := .agg #[.int .i64 t.nx, .string t.bs, .slice a1 t.l.length c1', .int .i64 t.cp, .int .i64 t.fi, .bool t.en]) (by rw [Tak.res_cell rfl]; go_simp) rfl ⟨t, HG.out, a1, c1', rfl, ?_, ?_⟩
  · iterate 6 (refine El.Own.setCell ?_ (fun x hx' => by have := HX.out x hx'; dsimp only; omega) _)
    exact o2
  · iterate 6 (refine Below.setCell ?_ (by dsimp only; omega) _)
    exact B2

theorem news6 (x : Int) (h0 : 0 ≤ x) (h1 : x < 6) : ∃ v : Int, (#[.int .i64 (-1), .int .i64 0, .int .i64 1, .int .i64 20, .int .i64 400, .int .i64 401] : Array Value)[x.toNat]? = some (.int .i64 v) := by
  have h : x = 0 ∨ x = 1 ∨ x = 2 ∨ x = 3 ∨ x = 4 ∨ x = 5 := by omega
  rcases h with rfl | rfl | rfl | rfl | rfl | rfl <;> exact ⟨_, rfl⟩

set_option maxHeartbeats 1000000 in
theorem drawNewTaker (a : Option Addr) (len cap : Nat) (w : World) (hb : Draw.Bytes w a len) (hl : len ≤ 4096) :
    Calls Try.prog 8 #[.slice a len cap] w fun x w' => ∃ v : Int, x = .returned (.int .i64 v) ∧ Below w.heap.size w w' := by
  go_enter Try.func8, Try.ntmps8
  go_wp2_with fail
  refine (Draw.l1New a len cap _ hb hl).mono ?_
  rintro x w1 ⟨rfl, hh, hw1⟩
  have c1 : Draw.Cur w1 w.heap.size := by rw [hw1]; exact Draw.cur_new hb hl hh _
  have b1 : Below w.heap.size w w1 := by rw [hw1]; exact (Below.refl _ _).alloc (Nat.le_refl _) _
  have h1 : w.heap.size < w1.heap.size := by rw [hw1]; simp
  clear hw1
  go_wp2_with fail
  refine (Draw.l1Below w.heap.size 6 _ (c1.alloc _)).mono ?_
  rintro e w2 ⟨y, y0, y1, rfl, c2, k2⟩
  have y2 : y < 6 := by omega
  clear y1
  obtain ⟨v, hv⟩ := news6 y y0 y2
  have hc := (k2.cell (p := ⟨w1.heap.size, y.toNat, none⟩) (by simp) (show w1.heap.size ≠ w.heap.size by omega)).trans ((World.cell?_alloc_new _ _ _ _).trans hv)
  have B2 : Below w.heap.size w w2 := (b1.alloc b1.size _).trans (k2.below (Nat.le_refl _) (by have := b1.size; simp; omega))
  have HV : Hid _ := hv
  clear k2 hv
  go_wp2_with fail
  go_ret
  exact ⟨v, rfl, B2⟩

end Go.Proofs.Ytinngechdnglpaa.Tak
