/- Contracts of this seat's functions, and their mathematics (WorQ LawV Shape LawG GivP). -/
import Derived.Test.YtanfnphdgcnojaaGreatR31
import Derived.Test.YtanfnphdgcnojaaGreatR19
import Derived.Test.YtanfnphdgcnojaaGreatRows
import Derived.Deep.Slices
import Derived.ChangeArms
import Derived.WideShapes
import Derived.Test.YtanfnphdgcnojaaGreatR3
import Derived.BigQuiet
set_option linter.unusedVariables false
set_option linter.unusedSimpArgs false
set_option maxRecDepth 10000
set_option maxHeartbeats 4000000
namespace Go.Proofs.YtanfnphdgcnojaaGreat.Wor
open Go.RowKit RowG Hop Roa Pum Lin
abbrev put7 (w : World) (k : Nat) (x0 x1 x2 x3 x4 x5 x6 : Value) : World := ((((((w.setCell ⟨k, 0, none⟩ x0).setCell ⟨k, 1, none⟩ x1).setCell ⟨k, 2, none⟩ x2).setCell ⟨k, 3, none⟩ x3).setCell ⟨k, 4, none⟩ x4).setCell ⟨k, 5, none⟩ x5).setCell ⟨k, 6, none⟩ x6
theorem var7 {T : TypeId} {w : World} {k : Nat} {a0 a1 a2 a3 a4 a5 a6 : Value} (h : Var T w k [a0, a1, a2, a3, a4, a5, a6]) (x0 x1 x2 x3 x4 x5 x6 : Value) : Var T (put7 w k x0 x1 x2 x3 x4 x5 x6) k [x0, x1, x2, x3, x4, x5, x6] := ((((((h.set 0 x0).set 1 x1).set 2 x2).set 3 x3).set 4 x4).set 5 x5).set 6 x6
theorem kept7 (w : World) (k : Nat) (x0 x1 x2 x3 x4 x5 x6 : Value) : Draw.Kept k w (put7 w k x0 x1 x2 x3 x4 x5 x6) :=
 Draw.Kept.setCell (p := ⟨k, 6, none⟩) (Draw.Kept.setCell (p := ⟨k, 5, none⟩) (Draw.Kept.setCell (p := ⟨k, 4, none⟩) (Draw.Kept.setCell (p := ⟨k, 3, none⟩) (Draw.Kept.setCell (p := ⟨k, 2, none⟩) (Draw.Kept.setCell (p := ⟨k, 1, none⟩) (Draw.Kept.setCell (p := ⟨k, 0, none⟩) (Draw.Kept.refl _ _) (.inl rfl) _) (.inl rfl) _) (.inl rfl) _) (.inl rfl) _) (.inl rfl) _) (.inl rfl) _) (.inl rfl) _
theorem l16Happen (B : Nat) (W : Wd) (a : Ac) (htx : a.tx.size ≤ 2097152) (aR : Option Addr) (g cH cR : Nat) (xs : List Ha) (w : World) (A : WAs w B g cH xs aR cR W) (hB : B ≤ w.heap.size) :
  Calls Tryz.prog 87 #[.agg #[.slice (some ⟨g, 0, none⟩) 3 cH, .slice aR W.rs.length cR, .string W.tx, .int .i64 W.rd, .bool W.en, .bool W.dn, .bool W.sn], a.v] w fun e w' => ∃ v, e = .returned (.tuple #[v, .bool (happenW W a).2]) ∧ WHold w' B v (happenW W a).1 ∧ Below w.heap.size w w' := by
 have hmix := Roa.mix
 have v0 : Var 94 (((w.alloc (.cells #[.slice (some ⟨g, 0, none⟩) 3 cH, .slice aR W.rs.length cR, .string W.tx, .int .i64 W.rd, .bool W.en, .bool W.dn, .bool W.sn] 94)).alloc (.cells #[.int .i64 a.kd, .int .i64 a.hp, .int .i64 a.ro, .int .i64 a.pl, .int .i64 a.n, .string a.tx] 99)).alloc (.cells #[.slice none 0 0, .slice none 0 0, .string ⟨#[]⟩, .int .i64 0, .bool false, .bool false, .bool false] 94)) w.heap.size [.slice (some ⟨g, 0, none⟩) 3 cH, .slice aR W.rs.length cR, .string W.tx, .int .i64 W.rd, .bool W.en, .bool W.dn, .bool W.sn] := ((Var.new w _).alloc _).alloc _
 have v1 : Var 99 (((w.alloc (.cells #[.slice (some ⟨g, 0, none⟩) 3 cH, .slice aR W.rs.length cR, .string W.tx, .int .i64 W.rd, .bool W.en, .bool W.dn, .bool W.sn] 94)).alloc (.cells #[.int .i64 a.kd, .int .i64 a.hp, .int .i64 a.ro, .int .i64 a.pl, .int .i64 a.n, .string a.tx] 99)).alloc (.cells #[.slice none 0 0, .slice none 0 0, .string ⟨#[]⟩, .int .i64 0, .bool false, .bool false, .bool false] 94)) (w.heap.size + 1) [.int .i64 a.kd, .int .i64 a.hp, .int .i64 a.ro, .int .i64 a.pl, .int .i64 a.n, .string a.tx] := by
  have q := Var.new (T := 99) (w.alloc (.cells #[.slice (some ⟨g, 0, none⟩) 3 cH, .slice aR W.rs.length cR, .string W.tx, .int .i64 W.rd, .bool W.en, .bool W.dn, .bool W.sn] 94)) [.int .i64 a.kd, .int .i64 a.hp, .int .i64 a.ro, .int .i64 a.pl, .int .i64 a.n, .string a.tx]
  have q := q.alloc (.cells #[.slice none 0 0, .slice none 0 0, .string ⟨#[]⟩, .int .i64 0, .bool false, .bool false, .bool false] 94)
  simpa using q
 have v2 : Var 94 (((w.alloc (.cells #[.slice (some ⟨g, 0, none⟩) 3 cH, .slice aR W.rs.length cR, .string W.tx, .int .i64 W.rd, .bool W.en, .bool W.dn, .bool W.sn] 94)).alloc (.cells #[.int .i64 a.kd, .int .i64 a.hp, .int .i64 a.ro, .int .i64 a.pl, .int .i64 a.n, .string a.tx] 99)).alloc (.cells #[.slice none 0 0, .slice none 0 0, .string ⟨#[]⟩, .int .i64 0, .bool false, .bool false, .bool false] 94)) (w.heap.size + 1 + 1) [.slice none 0 0, .slice none 0 0, .string ⟨#[]⟩, .int .i64 0, .bool false, .bool false, .bool false] := by
  have q := Var.new (T := 94) ((w.alloc (.cells #[.slice (some ⟨g, 0, none⟩) 3 cH, .slice aR W.rs.length cR, .string W.tx, .int .i64 W.rd, .bool W.en, .bool W.dn, .bool W.sn] 94)).alloc (.cells #[.int .i64 a.kd, .int .i64 a.hp, .int .i64 a.ro, .int .i64 a.pl, .int .i64 a.n, .string a.tx] 99)) [.slice none 0 0, .slice none 0 0, .string ⟨#[]⟩, .int .i64 0, .bool false, .bool false, .bool false]
  simpa using q
 have b0 : Below w.heap.size w (((w.alloc (.cells #[.slice (some ⟨g, 0, none⟩) 3 cH, .slice aR W.rs.length cR, .string W.tx, .int .i64 W.rd, .bool W.en, .bool W.dn, .bool W.sn] 94)).alloc (.cells #[.int .i64 a.kd, .int .i64 a.hp, .int .i64 a.ro, .int .i64 a.pl, .int .i64 a.n, .string a.tx] 99)).alloc (.cells #[.slice none 0 0, .slice none 0 0, .string ⟨#[]⟩, .int .i64 0, .bool false, .bool false, .bool false] 94)) := (((Below.refl _ _).alloc (Nat.le_refl _) _).alloc (by simp) _).alloc (by simp; omega) _
 go_enter Tryz.func87, Tryz.ntmps87
 go_wp2_with fail
 generalize (((w.alloc (.cells #[.slice (some ⟨g, 0, none⟩) 3 cH, .slice aR W.rs.length cR, .string W.tx, .int .i64 W.rd, .bool W.en, .bool W.dn, .bool W.sn] 94)).alloc (.cells #[.int .i64 a.kd, .int .i64 a.hp, .int .i64 a.ro, .int .i64 a.pl, .int .i64 a.n, .string a.tx] 99)).alloc (.cells #[.slice none 0 0, .slice none 0 0, .string ⟨#[]⟩, .int .i64 0, .bool false, .bool false, .bool false] 94)) = V at *
 have z2 := v2.lt
 refine (l16Copy W _ aR cH cR xs _ (A.L.ll.later b0) A.hs (A.R.lies.later b0) A.R.none_cap A.ok).mono ?_
 rintro e w1 ⟨v, rfl, ⟨g2, h2, xs2, a2, r2, rfl, A2⟩, b1⟩
 replace v0 := (v0.later b1).alloc (.cells #[.slice (some ⟨g2, 0, none⟩) 3 h2, .slice a2 W.rs.length r2, .string W.tx, .int .i64 W.rd, .bool W.en, .bool W.dn, .bool W.sn] 94)
 replace v1 := (v1.later b1).alloc (.cells #[.slice (some ⟨g2, 0, none⟩) 3 h2, .slice a2 W.rs.length r2, .string W.tx, .int .i64 W.rd, .bool W.en, .bool W.dn, .bool W.sn] 94)
 replace v2 := (v2.later b1).alloc (.cells #[.slice (some ⟨g2, 0, none⟩) 3 h2, .slice a2 W.rs.length r2, .string W.tx, .int .i64 W.rd, .bool W.en, .bool W.dn, .bool W.sn] 94)
 have B1 := b0.trans (b1.mono b0.size)
 have zz := b1.size
 replace B1 := B1.alloc B1.size (.cells #[.slice (some ⟨g2, 0, none⟩) 3 h2, .slice a2 W.rs.length r2, .string W.tx, .int .i64 W.rd, .bool W.en, .bool W.dn, .bool W.sn] 94)
 replace A2 := A2.later ((Below.refl _ _).alloc (Nat.le_refl _) (.cells #[.slice (some ⟨g2, 0, none⟩) 3 h2, .slice a2 W.rs.length r2, .string W.tx, .int .i64 W.rd, .bool W.en, .bool W.dn, .bool W.sn] 94))
 obtain ⟨V1, hV1⟩ : ∃ z, Hid (z = w1.alloc (.cells #[.slice (some ⟨g2, 0, none⟩) 3 h2, .slice a2 W.rs.length r2, .string W.tx, .int .i64 W.rd, .bool W.en, .bool W.dn, .bool W.sn] 94)) := ⟨_, rfl⟩
 have v3 : Var 94 V1 w1.heap.size [.slice (some ⟨g2, 0, none⟩) 3 h2, .slice a2 W.rs.length r2, .string W.tx, .int .i64 W.rd, .bool W.en, .bool W.dn, .bool W.sn] := by rw [hV1.out]; exact Var.new w1 _
 have z3 : V.heap.size ≤ V1.heap.size := by rw [hV1.out]; simp; omega
 obtain ⟨f0, f1, f2, f3, f4, f5⟩ := v1.c6
 go_wp2_with fail
 have hV1o := hV1.out
 clear hV1
 subst hV1o
 generalize w1.alloc (.cells #[.slice (some ⟨g2, 0, none⟩) 3 h2, .slice a2 W.rs.length r2, .string W.tx, .int .i64 W.rd, .bool W.en, .bool W.dn, .bool W.sn] 94) = V1 at *
 generalize w1.heap.size = k at *
 refine (l16Do (T := 94) (pre := []) (post := []) (ow := 0) (by decide) k V.heap.size W a htx _ ⟨h2, xs2, a2, r2, ⟨v3.win, A2.L, A2.hs, A2.R⟩⟩ z3 ⟨by decide, by decide, by decide, by decide⟩ A2.ok).mono ?_
 rintro e w2 ⟨rfl, lay, kb⟩
 have ok2 := ok_do A2.ok a
 replace v0 := v0.same (kb.block w.heap.size (by omega) (by omega))
 replace v2 := v2.same (kb.block (w.heap.size + 1 + 1) (by omega) (by omega))
 have B2 : Below w.heap.size w w2 := B1.trans ⟨kb.os, kb.tape, kb.output, kb.size, fun i hi => kb.block i (by omega) (by omega)⟩
 clear b0 b1 B1 v1 v3 A2 f0 f1 f2 f3 f4 f5
 obtain ⟨y0, y1, y2, y3, y4, y5, y6⟩ := v2.f7
 cases hd : (doW W a).2
 ·have hh : happenW W a = (W, false) := by simp [happenW, hd]
  have HH : Hid _ := hh
  clear hh
  obtain ⟨c0, c1, c2, c3, c4, c5, c6⟩ := v0.c7
  obtain ⟨d0, d1, d2, d3, d4, d5, d6⟩ := v2.c7
  go_wp2_with fail
  obtain ⟨WZ, hWZ⟩ : ∃ z, Hid (z = ((((((w2.setCell ⟨w.heap.size + 1 + 1, 0, none⟩ (.slice (some ⟨g, 0, none⟩) 3 cH)).setCell ⟨w.heap.size + 1 + 1, 1, none⟩ (.slice aR W.rs.length cR)).setCell ⟨w.heap.size + 1 + 1, 2, none⟩ (.string W.tx)).setCell ⟨w.heap.size + 1 + 1, 3, none⟩ (.int .i64 W.rd)).setCell ⟨w.heap.size + 1 + 1, 4, none⟩ (.bool W.en)).setCell ⟨w.heap.size + 1 + 1, 5, none⟩ (.bool W.dn)).setCell ⟨w.heap.size + 1 + 1, 6, none⟩ (.bool W.sn)) := ⟨_, rfl⟩
  have ka : Draw.Kept (w.heap.size + 1 + 1) w2 WZ := by rw [hWZ.out]; exact kept7 _ _ _ _ _ _ _ _ _
  have B3 := B2.trans (ka.below (by omega) B2.size)
  have vv : Var 94 WZ (w.heap.size + 1 + 1) [.slice (some ⟨g, 0, none⟩) 3 cH, .slice aR W.rs.length cR, .string W.tx, .int .i64 W.rd, .bool W.en, .bool W.dn, .bool W.sn] := by rw [hWZ.out]; exact var7 v2 _ _ _ _ _ _ _
  have A3 := A.later B3
  clear ka y0 y1 y2 y3 y4 y5 y6 c0 c1 c2 c3 c4 c5 c6 d0 d1 d2 d3 d4 d5 d6
  have hWZo := hWZ.out
  clear hWZ
  subst hWZo
  generalize (((((((w2.setCell ⟨w.heap.size + 1 + 1, 0, none⟩ (.slice (some ⟨g, 0, none⟩) 3 cH)).setCell ⟨w.heap.size + 1 + 1, 1, none⟩ (.slice aR W.rs.length cR)).setCell ⟨w.heap.size + 1 + 1, 2, none⟩ (.string W.tx)).setCell ⟨w.heap.size + 1 + 1, 3, none⟩ (.int .i64 W.rd)).setCell ⟨w.heap.size + 1 + 1, 4, none⟩ (.bool W.en)).setCell ⟨w.heap.size + 1 + 1, 5, none⟩ (.bool W.dn)).setCell ⟨w.heap.size + 1 + 1, 6, none⟩ (.bool W.sn)) = WZ at *
  obtain ⟨c0, c1, c2, c3, c4, c5, c6⟩ := vv.c7
  refine bodyPost_ret (v := .tuple #[.agg #[.slice (some ⟨g, 0, none⟩) 3 cH, .slice aR W.rs.length cR, .string W.tx, .int .i64 W.rd, .bool W.en, .bool W.dn, .bool W.sn], .bool false]) (by rw [Tak.res_cell_tmp rfl]; go_simp) rfl ?_
  rw [HH.out]
  exact ⟨_, rfl, ⟨g, cH, xs, aR, cR, rfl, A3⟩, B3⟩
 ·have hh : happenW W a = ((doW W a).1, true) := by
   have : happenW W a = doW W a := by simp [happenW, hd]
   rw [this, ← hd]
  have HH : Hid _ := hh
  clear hh
  generalize (doW W a).1 = W' at *
  obtain ⟨h4, xs4, a4, r4, A4⟩ := lay
  have v4 := A4.v.whole
  have A5 : WAs w2 V.heap.size g2 h4 xs4 a4 r4 W' := ⟨A4.L, A4.hs, A4.R, ok2⟩
  clear A4 kb
  obtain ⟨c0, c1, c2, c3, c4, c5, c6⟩ := v4.c7
  obtain ⟨d0, d1, d2, d3, d4, d5, d6⟩ := v2.c7
  go_wp2_with fail
  obtain ⟨WZ, hWZ⟩ : ∃ z, Hid (z = ((((((w2.setCell ⟨w.heap.size + 1 + 1, 0, none⟩ (.slice (some ⟨g2, 0, none⟩) 3 h4)).setCell ⟨w.heap.size + 1 + 1, 1, none⟩ (.slice a4 W'.rs.length r4)).setCell ⟨w.heap.size + 1 + 1, 2, none⟩ (.string W'.tx)).setCell ⟨w.heap.size + 1 + 1, 3, none⟩ (.int .i64 W'.rd)).setCell ⟨w.heap.size + 1 + 1, 4, none⟩ (.bool W'.en)).setCell ⟨w.heap.size + 1 + 1, 5, none⟩ (.bool W'.dn)).setCell ⟨w.heap.size + 1 + 1, 6, none⟩ (.bool W'.sn)) := ⟨_, rfl⟩
  have ka : Draw.Kept (w.heap.size + 1 + 1) w2 WZ := by rw [hWZ.out]; exact kept7 _ _ _ _ _ _ _ _ _
  have B3 := B2.trans (ka.below (by omega) B2.size)
  have vv : Var 94 WZ (w.heap.size + 1 + 1) [.slice (some ⟨g2, 0, none⟩) 3 h4, .slice a4 W'.rs.length r4, .string W'.tx, .int .i64 W'.rd, .bool W'.en, .bool W'.dn, .bool W'.sn] := by rw [hWZ.out]; exact var7 v2 _ _ _ _ _ _ _
  have A6 := A5.keptV v2 (by decide) (by decide) (by decide) (by decide) ka
  clear ka A5 y0 y1 y2 y3 y4 y5 y6 c0 c1 c2 c3 c4 c5 c6 d0 d1 d2 d3 d4 d5 d6
  have hWZo := hWZ.out
  clear hWZ
  subst hWZo
  generalize (((((((w2.setCell ⟨w.heap.size + 1 + 1, 0, none⟩ (.slice (some ⟨g2, 0, none⟩) 3 h4)).setCell ⟨w.heap.size + 1 + 1, 1, none⟩ (.slice a4 W'.rs.length r4)).setCell ⟨w.heap.size + 1 + 1, 2, none⟩ (.string W'.tx)).setCell ⟨w.heap.size + 1 + 1, 3, none⟩ (.int .i64 W'.rd)).setCell ⟨w.heap.size + 1 + 1, 4, none⟩ (.bool W'.en)).setCell ⟨w.heap.size + 1 + 1, 5, none⟩ (.bool W'.dn)).setCell ⟨w.heap.size + 1 + 1, 6, none⟩ (.bool W'.sn)) = WZ at *
  obtain ⟨c0, c1, c2, c3, c4, c5, c6⟩ := vv.c7
  refine bodyPost_ret (v := .tuple #[.agg #[.slice (some ⟨g2, 0, none⟩) 3 h4, .slice a4 W'.rs.length r4, .string W'.tx, .int .i64 W'.rd, .bool W'.en, .bool W'.dn, .bool W'.sn], .bool true]) (by rw [Tak.res_cell_tmp rfl]; go_simp) rfl ?_
  rw [HH.out]
  exact ⟨_, rfl, ⟨g2, h4, xs4, a4, r4, rfl, ⟨A6.L.mono (by omega), A6.hs, A6.R.mono (by omega), A6.ok⟩⟩, B3⟩
end Go.Proofs.YtanfnphdgcnojaaGreat.Wor
namespace Go.Proofs.YtanfnphdgcnojaaGreat.Tak
open Go.RowKit RowG
end Go.Proofs.YtanfnphdgcnojaaGreat.Tak
namespace Go.Proofs.YtanfnphdgcnojaaGreat.Shp
open Go.ChangeShapes Go.WideShapes Go.Deep
end Go.Proofs.YtanfnphdgcnojaaGreat.Shp
namespace Go.Proofs.YtanfnphdgcnojaaGreat.Giv
open Go.RowKit RowG
end Go.Proofs.YtanfnphdgcnojaaGreat.Giv
namespace Go.Proofs.YtanfnphdgcnojaaGreat.Giv
open Go.RowKit RowG
theorem isCap (n : Int) (w : World) : Calls Tryz.prog 71 #[.int .i64 n] w fun e w' => e = .returned (.bool (Tak.capB n)) ∧ w = w' := by
 by_cases h1 : 1 ≤ n
 ·by_cases h2 : n ≤ 400
  ·go_enter Tryz.func71, Tryz.ntmps71
   go_wp2_with fail
   go_ret
   exact ⟨Num.ret_bool (by simp [Tak.capB, h1, h2]), rfl⟩
  ·go_enter Tryz.func71, Tryz.ntmps71
   go_wp2_with fail
   go_ret
   exact ⟨Num.ret_bool (by simp [Tak.capB, h1, h2]), rfl⟩
 ·go_enter Tryz.func71, Tryz.ntmps71
  go_wp2_with fail
  go_ret
  exact ⟨Num.ret_bool (by simp [Tak.capB]; omega), rfl⟩
theorem isCapEq {n : Int} {v : Bool} (h : Tak.capB n = v) (w : World) : Calls Tryz.prog 71 #[.int .i64 n] w fun e w' => e = .returned (.bool v) ∧ w = w' := by
 subst h
 exact isCap n w
theorem isPlaceEq {n : Int} {v : Bool} (h : Num.plB n = v) (w : World) : Calls Tryz.prog 99 #[.int .i64 n] w fun e w' => e = .returned (.bool v) ∧ w = w' := by
 subst h
 exact Num.isPlace n w
def mostG (g : Gv) : Int := min g.cp (1000000000 - g.ba)
theorem mostKept (g : Gv) (w : World) (h0 : 0 ≤ g.ba) (h1 : g.ba ≤ 1000000000) :
  Calls Tryz.prog 100 #[g.v] w fun x w' => x = .returned (.int .i64 (mostG g)) ∧ Below w.heap.size w w' := by
 unfold mostG
 obtain ⟨ba, bs, cp, lm, en, dn⟩ := g
 dsimp only [Gv.v] at *
 go_enter Tryz.func100, Tryz.ntmps100
 go_wp2_with fail
 all_goals go_ret
 all_goals exact ⟨Num.ret_int (by omega), (Below.refl _ _).alloc (Nat.le_refl _) _⟩
def farB (g : Gv) : Bool := Tak.capB g.cp && (Num.plB g.ba && decide ((g.bs.size : Int) ≤ mostG g))
theorem ok_far {g : Gv} : g.ok = (farB g && (Num.plB g.lm && (decide (g.ba ≤ g.lm) && (!g.dn || (g.en && decide (g.bs.size = 0)))))) := by
 have h : farB g = (decide (1 ≤ g.cp ∧ g.cp ≤ 400) && (Num.plB g.ba && (decide ((g.bs.size : Int) ≤ g.cp) && Num.plB (g.ba + g.bs.size)))) := by
  unfold farB
  show (decide (1 ≤ g.cp ∧ g.cp ≤ 400) && (Num.plB g.ba && decide ((g.bs.size : Int) ≤ mostG g))) = _
  cases hp : Num.plB g.ba
  ·simp
  ·have := Num.pl_t hp
   rw [show decide ((g.bs.size : Int) ≤ mostG g) = (decide ((g.bs.size : Int) ≤ g.cp) && Num.plB (g.ba + g.bs.size)) by
    unfold mostG Num.plB
    rw [Bool.eq_iff_iff, Bool.and_eq_true, decide_eq_true_eq, decide_eq_true_eq, decide_eq_true_eq]
    omega]
 rw [h]
 unfold Gv.ok
 simp only [Bool.and_assoc]
theorem implGiverOk (g : Gv) (w : World) (hs : g.bs.size ≤ 2097152) :
  Calls Tryz.prog 73 #[g.v] w fun x w' => x = .returned (.bool g.ok) ∧ Below w.heap.size w w' := by
 have hmix := mix
 rw [ok_far]
 have hK := fun w' h0 h1 => mostKept g w' h0 h1
 have HF : Hid (farB g = (Tak.capB g.cp && (Num.plB g.ba && decide ((g.bs.size : Int) ≤ mostG g)))) := rfl
 generalize farB g = far at *
 generalize mostG g = mk at *
 obtain ⟨ba, bs, cp, lm, en, dn⟩ := g
 dsimp only [Gv.v] at *
 obtain ⟨V, hV⟩ : ∃ z, Hid (z = w.alloc (.cells #[.int .i64 ba, .string bs, .int .i64 cp, .int .i64 lm, .bool en, .bool dn] 46)) := ⟨_, rfl⟩
 have v1 : Var 46 V w.heap.size [.int .i64 ba, .string bs, .int .i64 cp, .int .i64 lm, .bool en, .bool dn] := by rw [hV.out]; exact Var.new w _
 have b1 : Below w.heap.size w V := by rw [hV.out]; exact (Below.refl _ _).alloc (Nat.le_refl _) _
 go_enter Tryz.func73, Tryz.ntmps73
 go_upto_region 1 with (fail)
 rw [← hV.out]
 clear hV
 obtain ⟨e0, e1, e2, e3, e4, e5⟩ := v1.c6
 have d0 := Draw.Later.cell e0
 have d1 := Draw.Later.cell e1
 have d2 := Draw.Later.cell e2
 have d3 := Draw.Later.cell e3
 have d4 := Draw.Later.cell e4
 have d5 := Draw.Later.cell e5
 go_cut [20] from 3 (fun v wr => v = .bool (!far) ∧ Below V.heap.size V wr)
 case first =>
  cases h1 : Tak.capB cp
  case false =>
   have hf : far = false := by rw [HF.out, h1]; rfl
   have hC := fun w' => isCapEq h1 w'
   clear h1
   refine Draw.wp_region_later hmix (by kernel_rfl) ?_
   repeat (go_big_quiet_step ((go_at_call 71; exact Draw.later_same (hC _))))
   refine wpQuiet_nil ?_
   intro wq hw'
   obtain ⟨q9, hq⟩ := hw'
   have hBq := q9.h
   rw [← hq] at hBq
   go_wp2_with fail
   go_meet
   exact ⟨by rw [hf]; rfl, hBq⟩
  have hC := fun w' => isCapEq h1 w'
  cases h2 : Num.plB ba
  case false =>
   have hf : far = false := by rw [HF.out, h1, h2]; rfl
   have hP := fun w' => isPlaceEq h2 w'
   clear h1 h2
   refine Draw.wp_region_later hmix (by kernel_rfl) ?_
   repeat (go_big_quiet_step (first | (go_at_call 71; exact Draw.later_same (hC _)) | (go_at_call 99; exact Draw.later_same (hP _))))
   refine wpQuiet_nil ?_
   intro wq hw'
   obtain ⟨q9, hq⟩ := hw'
   have hBq := q9.h
   rw [← hq] at hBq
   go_wp2_with fail
   go_meet
   exact ⟨by rw [hf]; rfl, hBq⟩
  have hP := fun w' => isPlaceEq h2 w'
  have hpl := Num.pl_t h2
  have hM := fun w' => hK w' hpl.1 hpl.2
  have hf : far = decide ((bs.size : Int) ≤ mk) := by rw [HF.out, h1, h2]; rfl
  have hf2 : (!far) = decide (mk < (bs.size : Int)) := by
   rw [hf]
   by_cases hc : (bs.size : Int) ≤ mk
   ·rw [decide_eq_true hc, decide_eq_false (by omega)]; rfl
   ·rw [decide_eq_false hc, decide_eq_true (by omega)]; rfl
  have HF2 : Hid _ := hf2
  clear h1 h2 hpl hf hf2 hK
  refine Draw.wp_region_later hmix (by kernel_rfl) ?_
  repeat (go_big_quiet_step (first | (go_at_call 71; exact Draw.later_same (hC _)) | (go_at_call 99; exact Draw.later_same (hP _)) | (go_at_call 100; exact Draw.later_of (hM _))))
  refine wpQuiet_nil ?_
  intro wq hw'
  obtain ⟨q9, hq⟩ := hw'
  have hBq := q9.h
  rw [← hq] at hBq
  go_wp2_with fail
  go_meet
  exact ⟨by rw [HF2.out], hBq⟩
 case rest =>
  obtain ⟨rfl, b2⟩ := hcut
  replace v1 := v1.later b2
  have B2 := b1.trans (b2.mono b1.size)
  clear b1 b2 d0 d1 d2 d3 d4 d5 e0 e1 e2 e3 e4 e5
  have e0 := v1.cell (i := 0) rfl
  have e1 := v1.cell (i := 1) rfl
  have e3 := v1.cell (i := 3) rfl
  have e4 := v1.cell (i := 4) rfl
  have e5 := v1.cell (i := 5) rfl
  cases far
  case false =>
   go_wp2_with fail
   go_ret
   exact ⟨rfl, B2⟩
  cases h3 : Num.plB lm
  case false =>
   have hP := fun w' => isPlaceEq h3 w'
   have H3 : Hid _ := h3
   clear h3
   go_wp2_with fail
   refine (hP _).mono ?_
   rintro x w3 ⟨rfl, rfl⟩
   go_wp2_with fail
   go_ret
   exact ⟨Num.ret_bool (by rw [H3.out]; rfl), B2⟩
  have hP := fun w' => isPlaceEq h3 w'
  have H3 : Hid _ := h3
  clear h3
  go_wp2_with fail
  refine (hP _).mono ?_
  rintro x w3 ⟨rfl, rfl⟩
  by_cases h4 : lm < ba
  case pos =>
   have h5 : decide (ba ≤ lm) = false := decide_eq_false (by omega)
   go_wp2_with fail
   go_ret
   exact ⟨Num.ret_bool (by rw [H3.out, h5]; rfl), B2⟩
  have HT : Hid (decide (ba ≤ lm) = true) := decide_eq_true (by omega)
  have HS : Hid _ := isEmpty_eq bs
  cases dn
  case false =>
   go_wp2_with fail
   go_ret
   exact ⟨Num.ret_bool (by rw [H3.out, HT.out]; rfl), B2⟩
  cases en
  case false =>
   go_wp2_with fail
   go_ret
   exact ⟨Num.ret_bool (by rw [H3.out, HT.out]; rfl), B2⟩
  go_wp2_with fail
  go_ret
  exact ⟨Num.ret_bool (show bs.toList.isEmpty = _ by rw [H3.out, HT.out, HS.out]; rfl), B2⟩
end Go.Proofs.YtanfnphdgcnojaaGreat.Giv
