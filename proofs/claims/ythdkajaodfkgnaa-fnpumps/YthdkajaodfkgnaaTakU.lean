/- Contract of the program's TakenAway; lists of at most 2^21 parts, none beyond 2^62. -/
import Derived.Test.YthdkajaodfkgnaaTakT
import Derived.Deep.Cut
namespace Go.Proofs.Ythdkajaodfkgnaa.Tak
open Go.RowKit RowG Rng
set_option linter.unusedVariables false
set_option linter.unusedSimpArgs false

set_option maxHeartbeats 8000000 in
theorem implTakenAway (nx : Int) (bs : ByteArray) (a : Option Addr) (n0 c : Nat) (cp fi : Int) (en : Bool) (l : List Pt) (n : Int) (w : World) (hn : n0 = l.length) (h : partE.Lies w a l) (hl : l.length ≤ 2097152) (hbs : bs.size ≤ 2097152) (hp : Bd l) (ha : a = none → c = 0) :
    Calls Try.prog 33 #[.agg #[.int .i64 nx, .string bs, .slice a n0 c, .int .i64 cp, .int .i64 fi, .bool en], .int .i64 n] w fun x w' => ∃ a' c', x = .returned (.tuple #[(takenAway ⟨nx, bs, l, cp, fi, en⟩ n).1.v a' c', .string (takenAway ⟨nx, bs, l, cp, fi, en⟩ n).2]) ∧ partE.Own 69 w' w.heap.size a' c' (takenAway ⟨nx, bs, l, cp, fi, en⟩ n).1.l ∧ Below w.heap.size w w' := by
  subst hn
  have B2 : Below w.heap.size w ((w.alloc (.cells #[.int .i64 nx, .string bs, .slice a l.length c, .int .i64 cp, .int .i64 fi, .bool en] 26)).alloc (.cells #[.int .i64 0, .string ⟨#[]⟩, .slice none 0 0, .int .i64 0, .int .i64 0, .bool false] 26)) := ((Below.refl _ _).alloc (Nat.le_refl _) _).alloc (by simp) _
  have v1 : Var 26 ((w.alloc (.cells #[.int .i64 nx, .string bs, .slice a l.length c, .int .i64 cp, .int .i64 fi, .bool en] 26)).alloc (.cells #[.int .i64 0, .string ⟨#[]⟩, .slice none 0 0, .int .i64 0, .int .i64 0, .bool false] 26)) w.heap.size [.int .i64 nx, .string bs, .slice a l.length c, .int .i64 cp, .int .i64 fi, .bool en] := (Var.new w [.int .i64 nx, .string bs, .slice a l.length c, .int .i64 cp, .int .i64 fi, .bool en]).alloc _
  have v2 : Var 26 ((w.alloc (.cells #[.int .i64 nx, .string bs, .slice a l.length c, .int .i64 cp, .int .i64 fi, .bool en] 26)).alloc (.cells #[.int .i64 0, .string ⟨#[]⟩, .slice none 0 0, .int .i64 0, .int .i64 0, .bool false] 26)) (w.heap.size + 1) [.int .i64 0, .string ⟨#[]⟩, .slice none 0 0, .int .i64 0, .int .i64 0, .bool false] := by
    have := Var.new (T := 26) (w.alloc (.cells #[.int .i64 nx, .string bs, .slice a l.length c, .int .i64 cp, .int .i64 fi, .bool en] 26)) [.int .i64 0, .string ⟨#[]⟩, .slice none 0 0, .int .i64 0, .int .i64 0, .bool false]
    simpa using this
  go_enter Try.func33, Try.ntmps33
  go_wp2_with fail
  generalize hV : ((w.alloc (.cells #[.int .i64 nx, .string bs, .slice a l.length c, .int .i64 cp, .int .i64 fi, .bool en] 26)).alloc (.cells #[.int .i64 0, .string ⟨#[]⟩, .slice none 0 0, .int .i64 0, .int .i64 0, .bool false] 26)) = V at *
  clear hV
  refine (implTakerOk nx bs a _ c cp fi en l V rfl (h.later B2) hl hbs hp).mono ?_
  rintro x w1 ⟨rfl, b1⟩
  have B1 := B2.trans (b1.mono B2.size)
  have x1 := v1.later b1
  have x2 := v2.later b1
  clear b1 B2 v1 v2
  cases hok : takerB nx bs l cp fi en
  · have e : takenAway ⟨nx, bs, l, cp, fi, en⟩ n = (zeroK, ⟨#[]⟩) := by simp [takenAway, Tk.ok, hok]
    have r0 := x2.cell (i := 0) rfl
    have r1 := x2.cell (i := 1) rfl
    have r2 := x2.cell (i := 2) rfl
    have r3 := x2.cell (i := 3) rfl
    have r4 := x2.cell (i := 4) rfl
    have r5 := x2.cell (i := 5) rfl
    have z0 := x2.free 0
    have z1 := x2.free 1
    have z2 := x2.free 2
    have z3 := x2.free 3
    have z4 := x2.free 4
    have z5 := x2.free 5
    clear x1 x2
    go_wp2_with fail
    refine bodyPost_ret (v := .tuple #[zeroK.v none 0, .string ⟨#[]⟩]) (by rw [res_cell_tmp rfl]; go_simp; rfl) rfl ⟨none, 0, by rw [e], by rw [e]; exact El.Own.none _ _, ?_⟩
    iterate 6 (refine Below.setCell ?_ (by dsimp only; omega) _)
    exact B1
  · have HE : Hid _ := hok
    have c0 := x1.cell (i := 0) rfl
    have c1 := x1.cell (i := 1) rfl
    have c2 := x1.cell (i := 2) rfl
    have c3 := x1.cell (i := 3) rfl
    have c4 := x1.cell (i := 4) rfl
    have c5 := x1.cell (i := 5) rfl
    clear hok
    go_wp2_with fail
    refine (ownTaker nx bs a _ c cp fi en l w1 rfl (h.later B1) hl ha).mono ?_
    rintro x w3 ⟨a', c', rfl, o3, b3⟩
    have y1 := x1.later b3
    have y2 := x2.later b3
    have B3 := B1.trans (b3.mono B1.size)
    have hx : ∀ x, a' = some x → w.heap.size + 1 < x.block := fun x e => by have := (o3.lt x e).1; have := x2.lt; omega
    have o3 := o3.mono B1.size
    clear c0 c1 c2 c3 c4 c5 x1 x2 b3
    have y1' : Var 26 (put6 w3 w.heap.size (.int .i64 nx) (.string bs) (.slice a' l.length c') (.int .i64 cp) (.int .i64 fi) (.bool en)) w.heap.size [.int .i64 nx, .string bs, .slice a' l.length c', .int .i64 cp, .int .i64 fi, .bool en] := (((((y1.set 0 _).set 1 _).set 2 _).set 3 _).set 4 _).set 5 _
    have y2' : Var 26 (put6 w3 w.heap.size (.int .i64 nx) (.string bs) (.slice a' l.length c') (.int .i64 cp) (.int .i64 fi) (.bool en)) (w.heap.size + 1) [.int .i64 0, .string ⟨#[]⟩, .slice none 0 0, .int .i64 0, .int .i64 0, .bool false] := y2.same (heap_put6 _ _ _ _ _ _ _ _ _ (by omega))
    have o4 := own_put6 o3 (k := w.heap.size) (fun x e => by have := hx x e; omega) (.int .i64 nx) (.string bs) (.slice a' l.length c') (.int .i64 cp) (.int .i64 fi) (.bool en)
    have B4 := below_put6 B3 (Nat.le_refl w.heap.size) (.int .i64 nx) (.string bs) (.slice a' l.length c') (.int .i64 cp) (.int .i64 fi) (.bool en)
    have c0 := y1.cell (i := 0) rfl
    have c1 := y1.cell (i := 1) rfl
    have c2 := y1.cell (i := 2) rfl
    have c3 := y1.cell (i := 3) rfl
    have c4 := y1.cell (i := 4) rfl
    have c5 := y1.cell (i := 5) rfl
    have f0 := y1.free 0
    have f1 := y1.free 1
    have f2 := y1.free 2
    have f3 := y1.free 3
    have f4 := y1.free 4
    have f5 := y1.free 5
    have HX : Hid _ := hx
    clear y1 y2 o3 B3 h hp ha hx
    go_upto_region 4 with (fail)
    unfold put6 at y1' y2' o4 B4
    generalize hW : (((((w3.setCell ⟨w.heap.size, 0, none⟩ (.int .i64 nx)).setCell ⟨w.heap.size, 1, none⟩ (.string bs)).setCell ⟨w.heap.size, 2, none⟩ (.slice a' l.length c')).setCell ⟨w.heap.size, 3, none⟩ (.int .i64 cp)).setCell ⟨w.heap.size, 4, none⟩ (.int .i64 fi)).setCell ⟨w.heap.size, 5, none⟩ (.bool en) = W at *
    clear hW c0 c1 c2 c3 c4 c5 f0 f1 f2 f3 f4 f5
    have c0 := y1'.cell (i := 0) rfl
    have c1 := y1'.cell (i := 1) rfl
    have c2 := y1'.cell (i := 2) rfl
    have c3 := y1'.cell (i := 3) rfl
    have c4 := y1'.cell (i := 4) rfl
    have c5 := y1'.cell (i := 5) rfl
    have f0 := y1'.free 0
    have f1 := y1'.free 1
    have f2 := y1'.free 2
    have f3 := y1'.free 3
    have f4 := y1'.free 4
    have f5 := y1'.free 5
    have r0 := y2'.cell (i := 0) rfl
    have r1 := y2'.cell (i := 1) rfl
    have r2 := y2'.cell (i := 2) rfl
    have r3 := y2'.cell (i := 3) rfl
    have r4 := y2'.cell (i := 4) rfl
    have r5 := y2'.cell (i := 5) rfl
    have z0 := y2'.free 0
    have z1 := y2'.free 1
    have z2 := y2'.free 2
    have z3 := y2'.free 3
    have z4 := y2'.free 4
    have z5 := y2'.free 5
    clear y1' y2'
    by_cases hn : n < 0 ∨ (bs.size : Int) < n
    · have E : Hid (takenAway ⟨nx, bs, l, cp, fi, en⟩ n = (⟨nx, bs, l, cp, fi, en⟩, ⟨#[]⟩)) := by show _ = _; simp [takenAway, Tk.ok, HE.out, hn]
      by_cases hn0 : n < 0
      · clear hn
        go_wp2_with fail
        refine bodyPost_ret (v := .tuple #[.agg #[.int .i64 nx, .string bs, .slice a' l.length c', .int .i64 cp, .int .i64 fi, .bool en], .string ⟨#[]⟩]) (by rw [res_cell_tmp rfl]; go_simp) rfl ⟨a', c', by rw [E.out]; rfl, ?_, ?_⟩
        · rw [E.out]
          iterate 6 (refine El.Own.setCell ?_ (fun x hx' => by have := HX.out x hx'; dsimp only; omega) _)
          exact o4
        · iterate 6 (refine Below.setCell ?_ (by dsimp only; omega) _)
          exact B4
      · have hn1 : (bs.size : Int) < n := by omega
        clear hn
        go_wp2_with fail
        refine bodyPost_ret (v := .tuple #[.agg #[.int .i64 nx, .string bs, .slice a' l.length c', .int .i64 cp, .int .i64 fi, .bool en], .string ⟨#[]⟩]) (by rw [res_cell_tmp rfl]; go_simp) rfl ⟨a', c', by rw [E.out]; rfl, ?_, ?_⟩
        · rw [E.out]
          iterate 6 (refine El.Own.setCell ?_ (fun x hx' => by have := HX.out x hx'; dsimp only; omega) _)
          exact o4
        · iterate 6 (refine Below.setCell ?_ (by dsimp only; omega) _)
          exact B4
    · have e : takenAway ⟨nx, bs, l, cp, fi, en⟩ n = (⟨nx, bs.extract n.toNat bs.size, l, cp, fi, en⟩, bs.extract 0 n.toNat) := by simp [takenAway, Tk.ok, HE.out, hn]
      have E : Hid _ := e
      have i0 : (0 : Int) ≤ n := by omega
      have i1 : n ≤ (bs.size : Int) := by omega
      clear e hn
      go_wp2_with fail
      refine bodyPost_ret (v := .tuple #[.agg #[.int .i64 nx, .string (bs.extract n.toNat bs.size), .slice a' l.length c', .int .i64 cp, .int .i64 fi, .bool en], .string (bs.extract 0 n.toNat)]) (by rw [res_cell_tmp rfl]; go_simp) rfl ⟨a', c', by rw [E.out]; rfl, ?_, ?_⟩
      · rw [E.out]
        iterate 7 (refine El.Own.setCell ?_ (fun x hx' => by have := HX.out x hx'; dsimp only; omega) _)
        exact o4
      · iterate 7 (refine Below.setCell ?_ (by dsimp only; omega) _)
        exact B4

end Go.Proofs.Ythdkajaodfkgnaa.Tak
