/- Contracts of this seat's functions, and their mathematics (DonB). -/
import Derived.Test.YtanfnphdgcnojaaGreatR32
import Derived.Laws.StructEq
import Derived.Deep.CutRange
set_option linter.unusedVariables false
set_option linter.unusedSimpArgs false
set_option maxRecDepth 10000
set_option maxHeartbeats 8000000
namespace Go.Proofs.YtanfnphdgcnojaaGreat.Wor
open Go.RowKit RowG Hop Roa Pum Lin
theorem eqStreamV {a0 b0 : ByteArray} {a1 b1 : Int} {a2 b2 : Bool} {a3 b3 : Bool} {a4 b4 : Bool} (w : World) : (Op.equalIn 10000 92 (.agg #[.string a0, .int .i64 a1, .bool a2, .bool a3, .bool a4]) (.agg #[.string b0, .int .i64 b1, .bool b2, .bool b3, .bool b4])).run Tryz.prog w = .ok ((a0.toList == b0.toList) && ((a1 == b1) && ((a2 == b2) && ((a3 == b3) && (a4 == b4))))) w := by
 have hf : Tryz.prog.fieldsOf 92 = #[{ name := "Text", type := 9, offset := 0, embedded := false, tag := "", pkgPath := "", byteOffset := 0 }, { name := "Read", type := 2, offset := 1, embedded := false, tag := "", pkgPath := "", byteOffset := 16 }, { name := "Ended", type := 4, offset := 2, embedded := false, tag := "", pkgPath := "", byteOffset := 24 }, { name := "Done", type := 4, offset := 3, embedded := false, tag := "", pkgPath := "", byteOffset := 25 }, { name := "Seen", type := 4, offset := 4, embedded := false, tag := "", pkgPath := "", byteOffset := 26 }] := by kernel_rfl
 have hu : Tryz.prog.underlying 92 = some (.struct (Tryz.prog.fieldsOf 92)) := by kernel_rfl
 have hp : Tryz.prog.stoodInHeld 92 = false := by kernel_rfl
 have ub : Tryz.prog.underlying 4 = some (.bool) := by kernel_rfl
 have kb : Tryz.prog.plainKey 4 = true := by kernel_rfl
 have ui : Tryz.prog.underlying 2 = some (.int .i64) := by kernel_rfl
 have ki : Tryz.prog.plainKey 2 = true := by kernel_rfl
 have us : Tryz.prog.underlying 9 = some (.string) := by kernel_rfl
 have ks : Tryz.prog.plainKey 9 = true := by kernel_rfl
 have p0 : ∀ (z0 : ByteArray) (z1 : Int) (z2 : Bool) (z3 : Bool) (z4 : Bool), (part 9 #[.string z0, .int .i64 z1, .bool z2, .bool z3, .bool z4] 0).run Tryz.prog w = .ok (.string z0) w := fun z0 z1 z2 z3 z4 => run_part_plain w ks rfl
 have p1 : ∀ (z0 : ByteArray) (z1 : Int) (z2 : Bool) (z3 : Bool) (z4 : Bool), (part 2 #[.string z0, .int .i64 z1, .bool z2, .bool z3, .bool z4] 1).run Tryz.prog w = .ok (.int .i64 z1) w := fun z0 z1 z2 z3 z4 => run_part_plain w ki rfl
 have p2 : ∀ (z0 : ByteArray) (z1 : Int) (z2 : Bool) (z3 : Bool) (z4 : Bool), (part 4 #[.string z0, .int .i64 z1, .bool z2, .bool z3, .bool z4] 2).run Tryz.prog w = .ok (.bool z2) w := fun z0 z1 z2 z3 z4 => run_part_plain w kb rfl
 have p3 : ∀ (z0 : ByteArray) (z1 : Int) (z2 : Bool) (z3 : Bool) (z4 : Bool), (part 4 #[.string z0, .int .i64 z1, .bool z2, .bool z3, .bool z4] 3).run Tryz.prog w = .ok (.bool z3) w := fun z0 z1 z2 z3 z4 => run_part_plain w kb rfl
 have p4 : ∀ (z0 : ByteArray) (z1 : Int) (z2 : Bool) (z3 : Bool) (z4 : Bool), (part 4 #[.string z0, .int .i64 z1, .bool z2, .bool z3, .bool z4] 4).run Tryz.prog w = .ok (.bool z4) w := fun z0 z1 z2 z3 z4 => run_part_plain w kb rfl
 have qb : ∀ x y : Bool, (Op.equalIn 9999 4 (.bool x) (.bool y)).run Tryz.prog w = .ok (x == y) w := fun x y => run_equalIn_bool w 9998 _ x y ub
 have qi : ∀ x y : Int, (Op.equalIn 9999 2 (.int .i64 x) (.int .i64 y)).run Tryz.prog w = .ok (x == y) w := fun x y => run_equalIn_int w 9998 _ .i64 .i64 x y ui
 have qs : ∀ x y : ByteArray, (Op.equalIn 9999 9 (.string x) (.string y)).run Tryz.prog w = .ok (x.toList == y.toList) w := fun x y => run_equalIn_string w 9998 _ x y us
 rw [show (10000 : Nat) = 9999 + 1 from rfl, run_equalIn_agg w 9999 _ _ _ hu hp, hf]
 cases h0 : (a0.toList == b0.toList)
 ·simp [Op.eqFields, p0, p1, p2, p3, p4, qb, qi, qs, h0]
 cases h1 : (a1 == b1)
 ·simp [Op.eqFields, p0, p1, p2, p3, p4, qb, qi, qs, h0, h1]
 cases h2 : (a2 == b2)
 ·simp [Op.eqFields, p0, p1, p2, p3, p4, qb, qi, qs, h0, h1, h2]
 cases h3 : (a3 == b3)
 ·simp [Op.eqFields, p0, p1, p2, p3, p4, qb, qi, qs, h0, h1, h2, h3]
 cases h4 : (a4 == b4)
 ·simp [Op.eqFields, p0, p1, p2, p3, p4, qb, qi, qs, h0, h1, h2, h3, h4]
 simp [Op.eqFields, p0, p1, p2, p3, p4, qb, qi, qs, h0, h1, h2, h3, h4]
theorem l19Same (g c n r g' c' n' r' : Nat) (a a' : Option Addr) (s0 t0 : ByteArray) (s1 t1 : Int) (s2 s3 s4 t2 t3 t4 : Bool) (xs ys : List Ha) (w : World) (Lx : hopE.Lies w (some ⟨g, 0, none⟩) xs) (Ly : hopE.Lies w (some ⟨g', 0, none⟩) ys) (hx3 : xs.length = 3) (hy3 : ys.length = 3) :
  Calls Tryz.prog 96 #[.agg #[.slice (some ⟨g, 0, none⟩) 3 c, .slice a n r, .string s0, .int .i64 s1, .bool s2, .bool s3, .bool s4], .agg #[.slice (some ⟨g', 0, none⟩) 3 c', .slice a' n' r', .string t0, .int .i64 t1, .bool t2, .bool t3, .bool t4]] w fun e w' => ∃ b : Bool, e = .returned (.bool b) ∧ Below w.heap.size w w' := by
 have hmix := Roa.mix
 have v1 : Var 94 ((w.alloc (.cells #[.slice (some ⟨g, 0, none⟩) 3 c, .slice a n r, .string s0, .int .i64 s1, .bool s2, .bool s3, .bool s4] 94)).alloc (.cells #[.slice (some ⟨g', 0, none⟩) 3 c', .slice a' n' r', .string t0, .int .i64 t1, .bool t2, .bool t3, .bool t4] 94)) w.heap.size [.slice (some ⟨g, 0, none⟩) 3 c, .slice a n r, .string s0, .int .i64 s1, .bool s2, .bool s3, .bool s4] := (Var.new w _).alloc _
 have v2 : Var 94 ((w.alloc (.cells #[.slice (some ⟨g, 0, none⟩) 3 c, .slice a n r, .string s0, .int .i64 s1, .bool s2, .bool s3, .bool s4] 94)).alloc (.cells #[.slice (some ⟨g', 0, none⟩) 3 c', .slice a' n' r', .string t0, .int .i64 t1, .bool t2, .bool t3, .bool t4] 94)) (w.heap.size + 1) [.slice (some ⟨g', 0, none⟩) 3 c', .slice a' n' r', .string t0, .int .i64 t1, .bool t2, .bool t3, .bool t4] := by
  have q := Var.new (T := 94) (w.alloc (.cells #[.slice (some ⟨g, 0, none⟩) 3 c, .slice a n r, .string s0, .int .i64 s1, .bool s2, .bool s3, .bool s4] 94)) [.slice (some ⟨g', 0, none⟩) 3 c', .slice a' n' r', .string t0, .int .i64 t1, .bool t2, .bool t3, .bool t4]
  simpa using q
 have BV : Below w.heap.size w ((w.alloc (.cells #[.slice (some ⟨g, 0, none⟩) 3 c, .slice a n r, .string s0, .int .i64 s1, .bool s2, .bool s3, .bool s4] 94)).alloc (.cells #[.slice (some ⟨g', 0, none⟩) 3 c', .slice a' n' r', .string t0, .int .i64 t1, .bool t2, .bool t3, .bool t4] 94)) := ((Below.refl _ _).alloc (Nat.le_refl _) _).alloc (by simp) _
 have HX3 : Hid (xs.length = 3) := hx3
 have HY3 : Hid (ys.length = 3) := hy3
 have HLx : Hid (hopE.Lies ((w.alloc (.cells #[.slice (some ⟨g, 0, none⟩) 3 c, .slice a n r, .string s0, .int .i64 s1, .bool s2, .bool s3, .bool s4] 94)).alloc (.cells #[.slice (some ⟨g', 0, none⟩) 3 c', .slice a' n' r', .string t0, .int .i64 t1, .bool t2, .bool t3, .bool t4] 94)) (some ⟨g, 0, none⟩) xs) := Lx.later BV
 have HLy : Hid (hopE.Lies ((w.alloc (.cells #[.slice (some ⟨g, 0, none⟩) 3 c, .slice a n r, .string s0, .int .i64 s1, .bool s2, .bool s3, .bool s4] 94)).alloc (.cells #[.slice (some ⟨g', 0, none⟩) 3 c', .slice a' n' r', .string t0, .int .i64 t1, .bool t2, .bool t3, .bool t4] 94)) (some ⟨g', 0, none⟩) ys) := Ly.later BV
 clear hx3 hy3 Lx Ly
 go_enter Tryz.func96, Tryz.ntmps96
 go_upto_region 1 with (fail)
 generalize (w.alloc (.cells #[.slice (some ⟨g, 0, none⟩) 3 c, .slice a n r, .string s0, .int .i64 s1, .bool s2, .bool s3, .bool s4] 94)).alloc (.cells #[.slice (some ⟨g', 0, none⟩) 3 c', .slice a' n' r', .string t0, .int .i64 t1, .bool t2, .bool t3, .bool t4] 94) = V at *
 have HV1 : Hid (Var 94 V w.heap.size [.slice (some ⟨g, 0, none⟩) 3 c, .slice a n r, .string s0, .int .i64 s1, .bool s2, .bool s3, .bool s4]) := v1
 have HV2 : Hid (Var 94 V (w.heap.size + 1) [.slice (some ⟨g', 0, none⟩) 3 c', .slice a' n' r', .string t0, .int .i64 t1, .bool t2, .bool t3, .bool t4]) := v2
 clear v1 v2
 go_wp2_with fail
 go_loopw [5, 6, 7] (fun iv _ _ wr => ∃ k : Nat, k ≤ 3 ∧ iv = .int .i64 k ∧ Below V.heap.size V wr) (fun iv _ _ _ => 3 - (intOf iv).toNat)
 case atStart => exact ⟨0, by omega, rfl, Below.refl _ _⟩
 case round =>
  obtain ⟨k, hk, rfl, hB⟩ := hrel
  have q1 := HV1.out.later hB
  have q2 := HV2.out.later hB
  by_cases hk3 : k < 3
  case neg =>
   have k4 : ¬ (k : Int) < 3 := by omega
   have y2 := q1.cell (i := 2) rfl
   have y3 := q1.cell (i := 3) rfl
   have y4 := q1.cell (i := 4) rfl
   have y5 := q1.cell (i := 5) rfl
   have y6 := q1.cell (i := 6) rfl
   have z2 := q2.cell (i := 2) rfl
   have z3 := q2.cell (i := 3) rfl
   have z4 := q2.cell (i := 4) rfl
   have z5 := q2.cell (i := 5) rfl
   have z6 := q2.cell (i := 6) rfl
   have hE := eqStreamV (a0 := s0) (b0 := t0) (a1 := s1) (b1 := t1) (a2 := s2) (b2 := t2) (a3 := s3) (b3 := t3) (a4 := s4) (b4 := t4) wr
   go_wp2_with fail
   all_goals go_ret
   all_goals first | exact ⟨.inl rfl, BV.trans (hB.mono BV.size)⟩ | exact ⟨.inr rfl, BV.trans (hB.mono BV.size)⟩ | exact ⟨⟨_, rfl⟩, BV.trans (hB.mono BV.size)⟩ | exact ⟨true, BV.trans (hB.mono BV.size)⟩ | exact ⟨_, rfl, BV.trans (hB.mono BV.size)⟩
  case pos =>
   have i0 : (k : Int) < 3 := by omega
   have i1 : (0 : Int) ≤ (k : Int) := by omega
   obtain ⟨x, hx⟩ : ∃ x, xs[k]? = some x := ⟨xs[k]'(by rw [HX3.out]; exact hk3), List.getElem?_eq_getElem _⟩
   obtain ⟨y, hy⟩ : ∃ y, ys[k]? = some y := ⟨ys[k]'(by rw [HY3.out]; exact hk3), List.getElem?_eq_getElem _⟩
   have Lr := HLx.out.later hB
   have Lr' := HLy.out.later hB
   have HLr : Hid (hopE.Lies wr (some ⟨g, 0, none⟩) xs) := Lr
   have HLr' : Hid (hopE.Lies wr (some ⟨g', 0, none⟩) ys) := Lr'
   have HQ1 : Hid (Var 94 wr w.heap.size [.slice (some ⟨g, 0, none⟩) 3 c, .slice a n r, .string s0, .int .i64 s1, .bool s2, .bool s3, .bool s4]) := q1
   have HQ2 : Hid (Var 94 wr (w.heap.size + 1) [.slice (some ⟨g', 0, none⟩) 3 c', .slice a' n' r', .string t0, .int .i64 t1, .bool t2, .bool t3, .bool t4]) := q2
   have e0 := q1.cell (i := 0) rfl
   have d0 := q2.cell (i := 0) rfl
   have cx0 : wr.cell? ⟨g, k * 13, none⟩ = some (.int .i64 x.h.g.ba) := by
    have q := El.Lies.cells Lr hx 0 _ rfl
    rw [Nat.zero_add] at q
    exact q
   have cx1 : wr.cell? ⟨g, k * 13 + 1, none⟩ = some (.string x.h.g.bs) := by
    have q := El.Lies.cells Lr hx 1 _ rfl
    rw [Nat.zero_add] at q
    exact q
   have cx2 : wr.cell? ⟨g, k * 13 + 2, none⟩ = some (.int .i64 x.h.g.cp) := by
    have q := El.Lies.cells Lr hx 2 _ rfl
    rw [Nat.zero_add] at q
    exact q
   have cx3 : wr.cell? ⟨g, k * 13 + 3, none⟩ = some (.int .i64 x.h.g.lm) := by
    have q := El.Lies.cells Lr hx 3 _ rfl
    rw [Nat.zero_add] at q
    exact q
   have cx4 : wr.cell? ⟨g, k * 13 + 4, none⟩ = some (.bool x.h.g.en) := by
    have q := El.Lies.cells Lr hx 4 _ rfl
    rw [Nat.zero_add] at q
    exact q
   have cx5 : wr.cell? ⟨g, k * 13 + 5, none⟩ = some (.bool x.h.g.dn) := by
    have q := El.Lies.cells Lr hx 5 _ rfl
    rw [Nat.zero_add] at q
    exact q
   have cx6 : wr.cell? ⟨g, k * 13 + 6, none⟩ = some (.int .i64 x.h.t.nx) := by
    have q := El.Lies.cells Lr hx 6 _ rfl
    rw [Nat.zero_add] at q
    exact q
   have cx7 : wr.cell? ⟨g, k * 13 + 7, none⟩ = some (.string x.h.t.bs) := by
    have q := El.Lies.cells Lr hx 7 _ rfl
    rw [Nat.zero_add] at q
    exact q
   have cx8 : wr.cell? ⟨g, k * 13 + 8, none⟩ = some (.slice x.aT x.h.t.l.length x.cT) := by
    have q := El.Lies.cells Lr hx 8 _ rfl
    rw [Nat.zero_add] at q
    exact q
   have cx9 : wr.cell? ⟨g, k * 13 + 9, none⟩ = some (.int .i64 x.h.t.cp) := by
    have q := El.Lies.cells Lr hx 9 _ rfl
    rw [Nat.zero_add] at q
    exact q
   have cx10 : wr.cell? ⟨g, k * 13 + 10, none⟩ = some (.int .i64 x.h.t.fi) := by
    have q := El.Lies.cells Lr hx 10 _ rfl
    rw [Nat.zero_add] at q
    exact q
   have cx11 : wr.cell? ⟨g, k * 13 + 11, none⟩ = some (.bool x.h.t.en) := by
    have q := El.Lies.cells Lr hx 11 _ rfl
    rw [Nat.zero_add] at q
    exact q
   have cy0 : wr.cell? ⟨g', k * 13, none⟩ = some (.int .i64 y.h.g.ba) := by
    have q := El.Lies.cells Lr' hy 0 _ rfl
    rw [Nat.zero_add] at q
    exact q
   have cy1 : wr.cell? ⟨g', k * 13 + 1, none⟩ = some (.string y.h.g.bs) := by
    have q := El.Lies.cells Lr' hy 1 _ rfl
    rw [Nat.zero_add] at q
    exact q
   have cy2 : wr.cell? ⟨g', k * 13 + 2, none⟩ = some (.int .i64 y.h.g.cp) := by
    have q := El.Lies.cells Lr' hy 2 _ rfl
    rw [Nat.zero_add] at q
    exact q
   have cy3 : wr.cell? ⟨g', k * 13 + 3, none⟩ = some (.int .i64 y.h.g.lm) := by
    have q := El.Lies.cells Lr' hy 3 _ rfl
    rw [Nat.zero_add] at q
    exact q
   have cy4 : wr.cell? ⟨g', k * 13 + 4, none⟩ = some (.bool y.h.g.en) := by
    have q := El.Lies.cells Lr' hy 4 _ rfl
    rw [Nat.zero_add] at q
    exact q
   have cy5 : wr.cell? ⟨g', k * 13 + 5, none⟩ = some (.bool y.h.g.dn) := by
    have q := El.Lies.cells Lr' hy 5 _ rfl
    rw [Nat.zero_add] at q
    exact q
   have cy6 : wr.cell? ⟨g', k * 13 + 6, none⟩ = some (.int .i64 y.h.t.nx) := by
    have q := El.Lies.cells Lr' hy 6 _ rfl
    rw [Nat.zero_add] at q
    exact q
   have cy7 : wr.cell? ⟨g', k * 13 + 7, none⟩ = some (.string y.h.t.bs) := by
    have q := El.Lies.cells Lr' hy 7 _ rfl
    rw [Nat.zero_add] at q
    exact q
   have cy8 : wr.cell? ⟨g', k * 13 + 8, none⟩ = some (.slice y.aT y.h.t.l.length y.cT) := by
    have q := El.Lies.cells Lr' hy 8 _ rfl
    rw [Nat.zero_add] at q
    exact q
   have cy9 : wr.cell? ⟨g', k * 13 + 9, none⟩ = some (.int .i64 y.h.t.cp) := by
    have q := El.Lies.cells Lr' hy 9 _ rfl
    rw [Nat.zero_add] at q
    exact q
   have cy10 : wr.cell? ⟨g', k * 13 + 10, none⟩ = some (.int .i64 y.h.t.fi) := by
    have q := El.Lies.cells Lr' hy 10 _ rfl
    rw [Nat.zero_add] at q
    exact q
   have cy11 : wr.cell? ⟨g', k * 13 + 11, none⟩ = some (.bool y.h.t.en) := by
    have q := El.Lies.cells Lr' hy 11 _ rfl
    rw [Nat.zero_add] at q
    exact q
   have v6 : Var 44 (wr.alloc (.cells #[.int .i64 x.h.t.nx, .string x.h.t.bs, .slice x.aT x.h.t.l.length x.cT, .int .i64 x.h.t.cp, .int .i64 x.h.t.fi, .bool x.h.t.en] 44)) wr.heap.size [.int .i64 x.h.t.nx, .string x.h.t.bs, .slice x.aT x.h.t.l.length x.cT, .int .i64 x.h.t.cp, .int .i64 x.h.t.fi, .bool x.h.t.en] := Var.new wr _
   have b6 := (Below.refl wr.heap.size wr).alloc (Nat.le_refl _) (.cells #[.int .i64 x.h.t.nx, .string x.h.t.bs, .slice x.aT x.h.t.l.length x.cT, .int .i64 x.h.t.cp, .int .i64 x.h.t.fi, .bool x.h.t.en] 44)
   go_upto_region 5 with (fail)
   clear cx0 cx1 cx2 cx3 cx4 cx5 cx6 cx7 cx8 cx9 cx10 cx11 e0 cy0 cy1 cy2 cy3 cy4 cy5 cy6 cy7 cy8 cy9 cy10 cy11 d0 q1 q2 Lr Lr'
   have hB6 := hB.trans (b6.mono hB.size)
   have M1 := HQ1.out.later b6
   have M2 := HQ2.out.later b6
   have ML := HLr.out.later b6
   have ML' := HLr'.out.later b6
   clear HQ1 HQ2 HLr HLr' b6
   generalize wr.alloc (.cells #[.int .i64 x.h.t.nx, .string x.h.t.bs, .slice x.aT x.h.t.l.length x.cT, .int .i64 x.h.t.cp, .int .i64 x.h.t.fi, .bool x.h.t.en] 44) = V6 at *
   generalize wr.heap.size = k6 at *
   have HM1 : Hid (Var 94 V6 w.heap.size [.slice (some ⟨g, 0, none⟩) 3 c, .slice a n r, .string s0, .int .i64 s1, .bool s2, .bool s3, .bool s4]) := M1
   have HM2 : Hid (Var 94 V6 (w.heap.size + 1) [.slice (some ⟨g', 0, none⟩) 3 c', .slice a' n' r', .string t0, .int .i64 t1, .bool t2, .bool t3, .bool t4]) := M2
   have HML : Hid (hopE.Lies V6 (some ⟨g, 0, none⟩) xs) := ML
   have HML' : Hid (hopE.Lies V6 (some ⟨g', 0, none⟩) ys) := ML'
   have d0 := M2.cell (i := 0) rfl
   have cy0 : V6.cell? ⟨g', k * 13, none⟩ = some (.int .i64 y.h.g.ba) := by
    have q := El.Lies.cells ML' hy 0 _ rfl
    rw [Nat.zero_add] at q
    exact q
   have cy1 : V6.cell? ⟨g', k * 13 + 1, none⟩ = some (.string y.h.g.bs) := by
    have q := El.Lies.cells ML' hy 1 _ rfl
    rw [Nat.zero_add] at q
    exact q
   have cy2 : V6.cell? ⟨g', k * 13 + 2, none⟩ = some (.int .i64 y.h.g.cp) := by
    have q := El.Lies.cells ML' hy 2 _ rfl
    rw [Nat.zero_add] at q
    exact q
   have cy3 : V6.cell? ⟨g', k * 13 + 3, none⟩ = some (.int .i64 y.h.g.lm) := by
    have q := El.Lies.cells ML' hy 3 _ rfl
    rw [Nat.zero_add] at q
    exact q
   have cy4 : V6.cell? ⟨g', k * 13 + 4, none⟩ = some (.bool y.h.g.en) := by
    have q := El.Lies.cells ML' hy 4 _ rfl
    rw [Nat.zero_add] at q
    exact q
   have cy5 : V6.cell? ⟨g', k * 13 + 5, none⟩ = some (.bool y.h.g.dn) := by
    have q := El.Lies.cells ML' hy 5 _ rfl
    rw [Nat.zero_add] at q
    exact q
   have cy6 : V6.cell? ⟨g', k * 13 + 6, none⟩ = some (.int .i64 y.h.t.nx) := by
    have q := El.Lies.cells ML' hy 6 _ rfl
    rw [Nat.zero_add] at q
    exact q
   have cy7 : V6.cell? ⟨g', k * 13 + 7, none⟩ = some (.string y.h.t.bs) := by
    have q := El.Lies.cells ML' hy 7 _ rfl
    rw [Nat.zero_add] at q
    exact q
   have cy8 : V6.cell? ⟨g', k * 13 + 8, none⟩ = some (.slice y.aT y.h.t.l.length y.cT) := by
    have q := El.Lies.cells ML' hy 8 _ rfl
    rw [Nat.zero_add] at q
    exact q
   have cy9 : V6.cell? ⟨g', k * 13 + 9, none⟩ = some (.int .i64 y.h.t.cp) := by
    have q := El.Lies.cells ML' hy 9 _ rfl
    rw [Nat.zero_add] at q
    exact q
   have cy10 : V6.cell? ⟨g', k * 13 + 10, none⟩ = some (.int .i64 y.h.t.fi) := by
    have q := El.Lies.cells ML' hy 10 _ rfl
    rw [Nat.zero_add] at q
    exact q
   have cy11 : V6.cell? ⟨g', k * 13 + 11, none⟩ = some (.bool y.h.t.en) := by
    have q := El.Lies.cells ML' hy 11 _ rfl
    rw [Nat.zero_add] at q
    exact q
   have v7 : Var 44 (V6.alloc (.cells #[.int .i64 y.h.t.nx, .string y.h.t.bs, .slice y.aT y.h.t.l.length y.cT, .int .i64 y.h.t.cp, .int .i64 y.h.t.fi, .bool y.h.t.en] 44)) V6.heap.size [.int .i64 y.h.t.nx, .string y.h.t.bs, .slice y.aT y.h.t.l.length y.cT, .int .i64 y.h.t.cp, .int .i64 y.h.t.fi, .bool y.h.t.en] := Var.new V6 _
   have b7 := (Below.refl V6.heap.size V6).alloc (Nat.le_refl _) (.cells #[.int .i64 y.h.t.nx, .string y.h.t.bs, .slice y.aT y.h.t.l.length y.cT, .int .i64 y.h.t.cp, .int .i64 y.h.t.fi, .bool y.h.t.en] 44)
   clear M1 M2 ML ML'
   go_upto_region 6 with (fail)
   clear cy0 cy1 cy2 cy3 cy4 cy5 cy6 cy7 cy8 cy9 cy10 cy11 d0
   have hB7 := hB6.trans (b7.mono hB6.size)
   have M1 := HM1.out.later b7
   have M2 := HM2.out.later b7
   have ML := HML.out.later b7
   have ML' := HML'.out.later b7
   replace v6 := v6.later b7
   clear HM1 HM2 HML HML' b7 hB6 hB
   generalize V6.alloc (.cells #[.int .i64 y.h.t.nx, .string y.h.t.bs, .slice y.aT y.h.t.l.length y.cT, .int .i64 y.h.t.cp, .int .i64 y.h.t.fi, .bool y.h.t.en] 44) = V7 at *
   generalize V6.heap.size = k7 at *
   have le := Draw.Later.cell (M1.cell (i := 0) rfl)
   have ld := Draw.Later.cell (M2.cell (i := 0) rfl)
   have gx0 : V7.cell? ⟨g, k * 13, none⟩ = some (.int .i64 x.h.g.ba) := by
    have q := El.Lies.cells ML hx 0 _ rfl
    rw [Nat.zero_add] at q
    exact q
   have gx1 : V7.cell? ⟨g, k * 13 + 1, none⟩ = some (.string x.h.g.bs) := by
    have q := El.Lies.cells ML hx 1 _ rfl
    rw [Nat.zero_add] at q
    exact q
   have gx2 : V7.cell? ⟨g, k * 13 + 2, none⟩ = some (.int .i64 x.h.g.cp) := by
    have q := El.Lies.cells ML hx 2 _ rfl
    rw [Nat.zero_add] at q
    exact q
   have gx3 : V7.cell? ⟨g, k * 13 + 3, none⟩ = some (.int .i64 x.h.g.lm) := by
    have q := El.Lies.cells ML hx 3 _ rfl
    rw [Nat.zero_add] at q
    exact q
   have gx4 : V7.cell? ⟨g, k * 13 + 4, none⟩ = some (.bool x.h.g.en) := by
    have q := El.Lies.cells ML hx 4 _ rfl
    rw [Nat.zero_add] at q
    exact q
   have gx5 : V7.cell? ⟨g, k * 13 + 5, none⟩ = some (.bool x.h.g.dn) := by
    have q := El.Lies.cells ML hx 5 _ rfl
    rw [Nat.zero_add] at q
    exact q
   replace gx0 := Draw.Later.cell gx0
   replace gx1 := Draw.Later.cell gx1
   replace gx2 := Draw.Later.cell gx2
   replace gx3 := Draw.Later.cell gx3
   replace gx4 := Draw.Later.cell gx4
   replace gx5 := Draw.Later.cell gx5
   have gy0 : V7.cell? ⟨g', k * 13, none⟩ = some (.int .i64 y.h.g.ba) := by
    have q := El.Lies.cells ML' hy 0 _ rfl
    rw [Nat.zero_add] at q
    exact q
   have gy1 : V7.cell? ⟨g', k * 13 + 1, none⟩ = some (.string y.h.g.bs) := by
    have q := El.Lies.cells ML' hy 1 _ rfl
    rw [Nat.zero_add] at q
    exact q
   have gy2 : V7.cell? ⟨g', k * 13 + 2, none⟩ = some (.int .i64 y.h.g.cp) := by
    have q := El.Lies.cells ML' hy 2 _ rfl
    rw [Nat.zero_add] at q
    exact q
   have gy3 : V7.cell? ⟨g', k * 13 + 3, none⟩ = some (.int .i64 y.h.g.lm) := by
    have q := El.Lies.cells ML' hy 3 _ rfl
    rw [Nat.zero_add] at q
    exact q
   have gy4 : V7.cell? ⟨g', k * 13 + 4, none⟩ = some (.bool y.h.g.en) := by
    have q := El.Lies.cells ML' hy 4 _ rfl
    rw [Nat.zero_add] at q
    exact q
   have gy5 : V7.cell? ⟨g', k * 13 + 5, none⟩ = some (.bool y.h.g.dn) := by
    have q := El.Lies.cells ML' hy 5 _ rfl
    rw [Nat.zero_add] at q
    exact q
   replace gy0 := Draw.Later.cell gy0
   replace gy1 := Draw.Later.cell gy1
   replace gy2 := Draw.Later.cell gy2
   replace gy3 := Draw.Later.cell gy3
   replace gy4 := Draw.Later.cell gy4
   replace gy5 := Draw.Later.cell gy5
   have lx0 := Draw.Later.cell (v6.cell (i := 0) rfl)
   have lx1 := Draw.Later.cell (v6.cell (i := 1) rfl)
   have lx2 := Draw.Later.cell (v6.cell (i := 2) rfl)
   have lx4 := Draw.Later.cell (v6.cell (i := 4) rfl)
   have lx5 := Draw.Later.cell (v6.cell (i := 5) rfl)
   have ly0 := Draw.Later.cell (v7.cell (i := 0) rfl)
   have ly1 := Draw.Later.cell (v7.cell (i := 1) rfl)
   have ly2 := Draw.Later.cell (v7.cell (i := 2) rfl)
   have ly4 := Draw.Later.cell (v7.cell (i := 4) rfl)
   have ly5 := Draw.Later.cell (v7.cell (i := 5) rfl)
   clear M1 M2 ML ML' v6 v7 hx hy
   go_cut [77] from 26 to 76 (fun cv wz => ∃ b : Bool, cv = .bool b ∧ Below V7.heap.size V7 wz)
   case first =>
    by_cases hg0 : x.h.g.ba = y.h.g.ba
    case neg =>
     refine Draw.wp_region_later hmix (by kernel_rfl) ?_
     repeat (go_big_quiet_step (fail))
     refine wpQuiet_nil ?_
     intro _ hw'
     obtain ⟨⟨wq, hBq⟩, hw''⟩ := hw'
     subst hw''
     go_wp2_with fail
     go_meet
     exact ⟨true, rfl, hBq⟩
    by_cases hg1 : x.h.g.bs.toList = y.h.g.bs.toList
    case neg =>
     refine Draw.wp_region_later hmix (by kernel_rfl) ?_
     repeat (go_big_quiet_step (fail))
     refine wpQuiet_nil ?_
     intro _ hw'
     obtain ⟨⟨wq, hBq⟩, hw''⟩ := hw'
     subst hw''
     go_wp2_with fail
     go_meet
     exact ⟨true, rfl, hBq⟩
    by_cases hg2 : x.h.g.cp = y.h.g.cp
    case neg =>
     refine Draw.wp_region_later hmix (by kernel_rfl) ?_
     repeat (go_big_quiet_step (fail))
     refine wpQuiet_nil ?_
     intro _ hw'
     obtain ⟨⟨wq, hBq⟩, hw''⟩ := hw'
     subst hw''
     go_wp2_with fail
     go_meet
     exact ⟨true, rfl, hBq⟩
    by_cases hg3 : x.h.g.lm = y.h.g.lm
    case neg =>
     refine Draw.wp_region_later hmix (by kernel_rfl) ?_
     repeat (go_big_quiet_step (fail))
     refine wpQuiet_nil ?_
     intro _ hw'
     obtain ⟨⟨wq, hBq⟩, hw''⟩ := hw'
     subst hw''
     go_wp2_with fail
     go_meet
     exact ⟨true, rfl, hBq⟩
    by_cases hg4 : x.h.g.en = y.h.g.en
    case neg =>
     refine Draw.wp_region_later hmix (by kernel_rfl) ?_
     repeat (go_big_quiet_step (fail))
     refine wpQuiet_nil ?_
     intro _ hw'
     obtain ⟨⟨wq, hBq⟩, hw''⟩ := hw'
     subst hw''
     go_wp2_with fail
     go_meet
     exact ⟨true, rfl, hBq⟩
    by_cases hg5 : x.h.g.dn = y.h.g.dn
    case neg =>
     refine Draw.wp_region_later hmix (by kernel_rfl) ?_
     repeat (go_big_quiet_step (fail))
     refine wpQuiet_nil ?_
     intro _ hw'
     obtain ⟨⟨wq, hBq⟩, hw''⟩ := hw'
     subst hw''
     go_wp2_with fail
     go_meet
     exact ⟨true, rfl, hBq⟩
    obtain ⟨b1, hb1⟩ : ∃ b, (x.h.t.nx != y.h.t.nx) = b := ⟨_, rfl⟩
    cases b1
    case true =>
     refine Draw.wp_region_later hmix (by kernel_rfl) ?_
     repeat (go_big_quiet_step (fail))
     refine wpQuiet_nil ?_
     intro _ hw'
     obtain ⟨⟨wq, hBq⟩, hw''⟩ := hw'
     subst hw''
     go_wp2_with fail
     go_meet
     exact ⟨true, rfl, hBq⟩
    obtain ⟨b2, hb2⟩ : ∃ b, (x.h.t.bs.toList == y.h.t.bs.toList) = b := ⟨_, rfl⟩
    cases b2
    case false =>
     refine Draw.wp_region_later hmix (by kernel_rfl) ?_
     repeat (go_big_quiet_step (fail))
     refine wpQuiet_nil ?_
     intro _ hw'
     obtain ⟨⟨wq, hBq⟩, hw''⟩ := hw'
     subst hw''
     go_wp2_with fail
     go_meet
     exact ⟨true, rfl, hBq⟩
    obtain ⟨b3, hb3⟩ : ∃ b, (x.h.t.fi != y.h.t.fi) = b := ⟨_, rfl⟩
    cases b3
    case true =>
     refine Draw.wp_region_later hmix (by kernel_rfl) ?_
     repeat (go_big_quiet_step (fail))
     refine wpQuiet_nil ?_
     intro _ hw'
     obtain ⟨⟨wq, hBq⟩, hw''⟩ := hw'
     subst hw''
     go_wp2_with fail
     go_meet
     exact ⟨true, rfl, hBq⟩
    obtain ⟨p4, hp4⟩ : ∃ b, x.h.t.en = b := ⟨_, rfl⟩
    obtain ⟨r4, hr4⟩ : ∃ b, y.h.t.en = b := ⟨_, rfl⟩
    rw [hp4] at lx5
    rw [hr4] at ly5
    by_cases hb4 : p4 = r4
    case neg =>
     cases p4 <;> cases r4
     ·exact absurd rfl hb4
     focus
      refine Draw.wp_region_later hmix (by kernel_rfl) ?_
      repeat (go_big_quiet_step (fail))
      refine wpQuiet_nil ?_
      intro _ hw'
      obtain ⟨⟨wq, hBq⟩, hw''⟩ := hw'
      subst hw''
      go_wp2_with fail
      go_meet
      exact ⟨true, rfl, hBq⟩
     focus
      refine Draw.wp_region_later hmix (by kernel_rfl) ?_
      repeat (go_big_quiet_step (fail))
      refine wpQuiet_nil ?_
      intro _ hw'
      obtain ⟨⟨wq, hBq⟩, hw''⟩ := hw'
      subst hw''
      go_wp2_with fail
      go_meet
      exact ⟨true, rfl, hBq⟩
     ·exact absurd rfl hb4
    subst hb4
    clear hp4 hr4
    obtain ⟨b5, hb5⟩ : ∃ b, ((x.h.t.l.length : Int) != (y.h.t.l.length : Int)) = b := ⟨_, rfl⟩
    cases b5
    case true =>
     refine Draw.wp_region_later hmix (by kernel_rfl) ?_
     repeat (go_big_quiet_step (fail))
     refine wpQuiet_nil ?_
     intro _ hw'
     obtain ⟨⟨wq, hBq⟩, hw''⟩ := hw'
     subst hw''
     go_wp2_with fail
     go_meet
     exact ⟨true, rfl, hBq⟩
    refine Draw.wp_region_later hmix (by kernel_rfl) ?_
    repeat (go_big_quiet_step (fail))
    refine wpQuiet_nil ?_
    intro _ hw'
    obtain ⟨⟨wq, hBq⟩, hw''⟩ := hw'
    subst hw''
    go_wp2_with fail
    go_meet
    exact ⟨false, rfl, hBq⟩
   case rest =>
    obtain ⟨b, rfl, bz⟩ := hcut
    have hBz := hB7.trans (bz.mono hB7.size)
    clear le ld lx0 lx1 lx2 lx4 lx5 ly0 ly1 ly2 ly4 ly5 gx0 gx1 gx2 gx3 gx4 gx5 gy0 gy1 gy2 gy3 gy4 gy5
    cases b
    ·go_wp2_with fail
     go_roundw
     case rel => exact ⟨k + 1, by omega, by go_num, hBz⟩
     case measure => simp [intOf]; omega
    ·go_wp2_with fail
     go_ret
     first | exact ⟨.inl rfl, BV.trans (hBz.mono BV.size)⟩ | exact ⟨_, rfl, BV.trans (hBz.mono BV.size)⟩ | exact ⟨false, rfl, BV.trans (hBz.mono BV.size)⟩
end Go.Proofs.YtanfnphdgcnojaaGreat.Wor
