/- Contract of the specification's Takes where the place is none. -/
import Derived.Test.YtinngechdnglpaaTakH
namespace Go.Proofs.Ytinngechdnglpaa.Tak
open Go.RowKit RowG
set_option linter.unusedVariables false
set_option linter.unusedSimpArgs false

set_option maxRecDepth 10000 in
set_option maxHeartbeats 1000000 in
theorem l5TakeFar (k : Nat) (p : Int) (bz : ByteArray) (e : Bool) (w : World) (hpl : Num.plB p = false) :
    Calls Try.prog 40 #[.pointer (some ⟨k, 0, none⟩), .int .i64 p, .string bz, .bool e] w fun x w' => x = .returned (.bool false) ∧ w = w' := by
  have hP := fun w' => l1PlaceEq hpl w'
  go_enter Try.func40, Try.ntmps40
  go_wp2_with fail
  refine (hP _).mono ?_
  rintro x w1 ⟨rfl, rfl⟩
  go_wp2_with fail
  go_ret
  exact ⟨rfl, rfl⟩

set_option maxHeartbeats 2000000 in
theorem specTakesFar (nx : Int) (bs : ByteArray) (a : Option Addr) (n0 c : Nat) (cp fi : Int) (en : Bool) (l : List Pt) (p : Int) (bz : ByteArray) (e : Bool) (w : World) (hn : n0 = l.length) (h : partE.Lies w a l) (hl : l.length ≤ 524288) (hbs : bs.size ≤ 2097152) (hp : Bd l) (ha : a = none → c = 0) (hpl : Num.plB p = false) (hz : bz.size ≤ 1048576) :
    Calls Try.prog 11 #[.agg #[.int .i64 nx, .string bs, .slice a n0 c, .int .i64 cp, .int .i64 fi, .bool en], .int .i64 p, .string bz, .bool e] w fun x w' => ∃ a' c', x = .returned (.tuple #[(takes ⟨nx, bs, l, cp, fi, en⟩ p bz e).1.v a' c', .bool (takes ⟨nx, bs, l, cp, fi, en⟩ p bz e).2]) ∧ partE.Own 53 w' w.heap.size a' c' (takes ⟨nx, bs, l, cp, fi, en⟩ p bz e).1.l ∧ Below w.heap.size w w' := by
  subst hn
  have hmix := mix
  have B2 : Below w.heap.size w ((w.alloc (.cells #[.int .i64 nx, .string bs, .slice a l.length c, .int .i64 cp, .int .i64 fi, .bool en] 26)).alloc (.cells #[.int .i64 0, .string ⟨#[]⟩, .slice none 0 0, .int .i64 0, .int .i64 0, .bool false] 26)) := ((Below.refl _ _).alloc (Nat.le_refl _) _).alloc (by simp) _
  have v1 : Var 26 ((w.alloc (.cells #[.int .i64 nx, .string bs, .slice a l.length c, .int .i64 cp, .int .i64 fi, .bool en] 26)).alloc (.cells #[.int .i64 0, .string ⟨#[]⟩, .slice none 0 0, .int .i64 0, .int .i64 0, .bool false] 26)) w.heap.size [.int .i64 nx, .string bs, .slice a l.length c, .int .i64 cp, .int .i64 fi, .bool en] := (Var.new w [.int .i64 nx, .string bs, .slice a l.length c, .int .i64 cp, .int .i64 fi, .bool en]).alloc _
  have v2 : Var 26 ((w.alloc (.cells #[.int .i64 nx, .string bs, .slice a l.length c, .int .i64 cp, .int .i64 fi, .bool en] 26)).alloc (.cells #[.int .i64 0, .string ⟨#[]⟩, .slice none 0 0, .int .i64 0, .int .i64 0, .bool false] 26)) (w.heap.size + 1) [.int .i64 0, .string ⟨#[]⟩, .slice none 0 0, .int .i64 0, .int .i64 0, .bool false] := by
    have := Var.new (T := 26) (w.alloc (.cells #[.int .i64 nx, .string bs, .slice a l.length c, .int .i64 cp, .int .i64 fi, .bool en] 26)) [.int .i64 0, .string ⟨#[]⟩, .slice none 0 0, .int .i64 0, .int .i64 0, .bool false]
    simpa using this
  go_enter Try.func11, Try.ntmps11
  go_wp2_with fail
  generalize hV : ((w.alloc (.cells #[.int .i64 nx, .string bs, .slice a l.length c, .int .i64 cp, .int .i64 fi, .bool en] 26)).alloc (.cells #[.int .i64 0, .string ⟨#[]⟩, .slice none 0 0, .int .i64 0, .int .i64 0, .bool false] 26)) = V at *
  clear hV
  refine (specTakerOk nx bs a _ c cp fi en l V rfl (h.later B2) (by omega) hbs hp.up).mono ?_
  rintro x w1 ⟨rfl, b1⟩
  have B1 := B2.trans (b1.mono B2.size)
  have x1 := v1.later b1
  have x2 := v2.later b1
  clear b1 B2 v1 v2
  cases hok : takerB nx bs l cp fi en
  · have q : takes ⟨nx, bs, l, cp, fi, en⟩ p bz e = (zeroK, false) := by simp [takes, Tk.ok, hok]
    have r0 := x2.cell (i := 0) rfl
    have r1 := x2.cell (i := 1) rfl
    have r2 := x2.cell (i := 2) rfl
    have r3 := x2.cell (i := 3) rfl
    have r4 := x2.cell (i := 4) rfl
    have r5 := x2.cell (i := 5) rfl
    have z0 := x2.free 0
    have z1 := x2.free 1
    have z2 := x2.free 2
    have z3 := x2.free 3
    have z4 := x2.free 4
    have z5 := x2.free 5
    clear x1 x2
    go_wp2_with fail
    refine bodyPost_ret (v := .tuple #[zeroK.v none 0, .bool false]) (by rw [res_cell_tmp rfl]; go_simp; rfl) rfl ⟨none, 0, by rw [q], by rw [q]; exact El.Own.none _ _, ?_⟩
    exact below_put6 B1 (Nat.le_succ _) _ _ _ _ _ _
  · have HQ : Hid (takes ⟨nx, bs, l, cp, fi, en⟩ p bz e = takeT ⟨nx, bs, l, cp, fi, en⟩ p bz e) := by show _ = _; simp [takes, Tk.ok, hok]
    have hin := taker_in hok
    have hsm := (ok_small (t := ⟨nx, bs, l, cp, fi, en⟩) hok).2
    replace hsm : bs.size + tot l ≤ 1000000 := hsm
    obtain ⟨⟨k1, k2⟩, ⟨k3, k4⟩, k5, k6⟩ := hin
    clear hok
    have c0 := x1.cell (i := 0) rfl
    have c1 := x1.cell (i := 1) rfl
    have c2 := x1.cell (i := 2) rfl
    have c3 := x1.cell (i := 3) rfl
    have c4 := x1.cell (i := 4) rfl
    have c5 := x1.cell (i := 5) rfl
    go_wp2_with fail
    refine (l5Copy nx bs a _ c cp fi en l w1 rfl (h.later B1) (by omega) ha).mono ?_
    rintro x w3 ⟨a', c', rfl, o3, b3⟩
    have hw1 : w.heap.size + 1 < w1.heap.size := x2.lt
    have hs1 : w1.heap.size ≤ w3.heap.size := b3.size
    have hB1 := B1.size
    have x2 := x2.later b3
    have B3 := B1.trans (b3.mono B1.size)
    have hx := fun x q => (o3.lt x q).2
    have x3 : Var 26 (w3.alloc (.cells #[.int .i64 nx, .string bs, .slice a' l.length c', .int .i64 cp, .int .i64 fi, .bool en] 26)) w3.heap.size [.int .i64 nx, .string bs, .slice a' l.length c', .int .i64 cp, .int .i64 fi, .bool en] := Var.new _ _
    have hw3 : w.heap.size + 1 < w3.heap.size := x2.lt
    have x2 := x2.alloc (.cells #[.int .i64 nx, .string bs, .slice a' l.length c', .int .i64 cp, .int .i64 fi, .bool en] 26)
    have o4 := o3.alloc (.cells #[.int .i64 nx, .string bs, .slice a' l.length c', .int .i64 cp, .int .i64 fi, .bool en] 26)
    have B4 : Below w.heap.size w (w3.alloc (.cells #[.int .i64 nx, .string bs, .slice a' l.length c', .int .i64 cp, .int .i64 fi, .bool en] 26)) := B3.alloc B3.size _
    clear c0 c1 c2 c3 c4 c5 x1 o3 B3 b3
    go_wp2_with fail
    refine (l5TakeFar w3.heap.size p bz e _ hpl).mono ?_
    rintro x w5 ⟨rfl, rfl⟩
    have x5 := x2
    have B5 := B4
    have v5 := x3
    have o5 := o4
    have HT : Hid (takeT ⟨nx, bs, l, cp, fi, en⟩ p bz e = (⟨nx, bs, l, cp, fi, en⟩, false)) := by show _ = _; simp only [takeT]; rw [if_pos (.inl hpl)]
    clear x2 x3 o4 B4 k1 k2 k3 k4 k5 k6 hsm B1 h hp ha hl hbs
    generalize w3.alloc (.cells #[.int .i64 nx, .string bs, .slice a' l.length c', .int .i64 cp, .int .i64 fi, .bool en] 26) = W5 at *
    generalize w3.heap.size = k3 at *
    have hne : k3 ≠ w.heap.size + 1 := by omega
    have d0 := v5.cell (i := 0) rfl
    have d1 := v5.cell (i := 1) rfl
    have d2 := v5.cell (i := 2) rfl
    have d3 := v5.cell (i := 3) rfl
    have d4 := v5.cell (i := 4) rfl
    have d5 := v5.cell (i := 5) rfl
    have r0 := x5.cell (i := 0) rfl
    have r1 := x5.cell (i := 1) rfl
    have r2 := x5.cell (i := 2) rfl
    have r3 := x5.cell (i := 3) rfl
    have r4 := x5.cell (i := 4) rfl
    have r5 := x5.cell (i := 5) rfl
    have z0 := x5.free 0
    have z1 := x5.free 1
    have z2 := x5.free 2
    have z3 := x5.free 3
    have z4 := x5.free 4
    have z5 := x5.free 5
    clear v5 x5
    go_wp2_with fail
    refine bodyPost_ret (v := .tuple #[.agg #[.int .i64 nx, .string bs, .slice a' l.length c', .int .i64 cp, .int .i64 fi, .bool en], .bool false]) (by rw [res_cell_tmp rfl]; go_simp) rfl ⟨a', c', by rw [HQ.out, HT.out]; rfl, ?_, ?_⟩
    · rw [HQ.out, HT.out]
      exact (own_put6 o5 (fun x q => by have := (o5.lt x q).1; omega) _ _ _ _ _ _).mono hB1
    · exact below_put6 B5 (Nat.le_succ _) _ _ _ _ _ _

end Go.Proofs.Ytinngechdnglpaa.Tak
