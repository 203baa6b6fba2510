/- Contracts of this seat's functions, and their mathematics (WorQ LawV Shape LawG). -/
import Derived.Test.YtanfnphdgcnojaaGreatQ37
import Derived.Test.YtanfnphdgcnojaaGreatQ21
import Derived.Test.YtanfnphdgcnojaaGreatRows
import Derived.Deep.Slices
import Derived.ChangeArms
import Derived.WideShapes
import Derived.Test.YtanfnphdgcnojaaGreatQ3
set_option linter.unusedVariables false
set_option linter.unusedSimpArgs false
set_option maxRecDepth 10000
set_option maxHeartbeats 4000000
namespace Go.Proofs.YtanfnphdgcnojaaGreat.Wor
open Go.RowKit RowG Hop Roa Pum Lin
abbrev put7 (w : World) (k : Nat) (x0 x1 x2 x3 x4 x5 x6 : Value) : World := ((((((w.setCell ⟨k, 0, none⟩ x0).setCell ⟨k, 1, none⟩ x1).setCell ⟨k, 2, none⟩ x2).setCell ⟨k, 3, none⟩ x3).setCell ⟨k, 4, none⟩ x4).setCell ⟨k, 5, none⟩ x5).setCell ⟨k, 6, none⟩ x6
theorem var7 {T : TypeId} {w : World} {k : Nat} {a0 a1 a2 a3 a4 a5 a6 : Value} (h : Var T w k [a0, a1, a2, a3, a4, a5, a6]) (x0 x1 x2 x3 x4 x5 x6 : Value) : Var T (put7 w k x0 x1 x2 x3 x4 x5 x6) k [x0, x1, x2, x3, x4, x5, x6] := ((((((h.set 0 x0).set 1 x1).set 2 x2).set 3 x3).set 4 x4).set 5 x5).set 6 x6
theorem kept7 (w : World) (k : Nat) (x0 x1 x2 x3 x4 x5 x6 : Value) : Draw.Kept k w (put7 w k x0 x1 x2 x3 x4 x5 x6) :=
 Draw.Kept.setCell (p := ⟨k, 6, none⟩) (Draw.Kept.setCell (p := ⟨k, 5, none⟩) (Draw.Kept.setCell (p := ⟨k, 4, none⟩) (Draw.Kept.setCell (p := ⟨k, 3, none⟩) (Draw.Kept.setCell (p := ⟨k, 2, none⟩) (Draw.Kept.setCell (p := ⟨k, 1, none⟩) (Draw.Kept.setCell (p := ⟨k, 0, none⟩) (Draw.Kept.refl _ _) (.inl rfl) _) (.inl rfl) _) (.inl rfl) _) (.inl rfl) _) (.inl rfl) _) (.inl rfl) _) (.inl rfl) _
theorem l16Happen (B : Nat) (W : Wd) (a : Ac) (htx : a.tx.size ≤ 2097152) (aR : Option Addr) (g cH cR : Nat) (xs : List Ha) (w : World) (A : WAs w B g cH xs aR cR W) (hB : B ≤ w.heap.size) :
  Calls Tryz.prog 87 #[.agg #[.slice (some ⟨g, 0, none⟩) 3 cH, .slice aR W.rs.length cR, .string W.tx, .int .i64 W.rd, .bool W.en, .bool W.dn, .bool W.sn], a.v] w fun e w' => ∃ v, e = .returned (.tuple #[v, .bool (happenW W a).2]) ∧ WHold w' B v (happenW W a).1 ∧ Below w.heap.size w w' := by
 have hmix := Roa.mix
 have v0 : Var 94 (((w.alloc (.cells #[.slice (some ⟨g, 0, none⟩) 3 cH, .slice aR W.rs.length cR, .string W.tx, .int .i64 W.rd, .bool W.en, .bool W.dn, .bool W.sn] 94)).alloc (.cells #[.int .i64 a.kd, .int .i64 a.hp, .int .i64 a.ro, .int .i64 a.pl, .int .i64 a.n, .string a.tx] 99)).alloc (.cells #[.slice none 0 0, .slice none 0 0, .string ⟨#[]⟩, .int .i64 0, .bool false, .bool false, .bool false] 94)) w.heap.size [.slice (some ⟨g, 0, none⟩) 3 cH, .slice aR W.rs.length cR, .string W.tx, .int .i64 W.rd, .bool W.en, .bool W.dn, .bool W.sn] := ((Var.new w _).alloc _).alloc _
 have v1 : Var 99 (((w.alloc (.cells #[.slice (some ⟨g, 0, none⟩) 3 cH, .slice aR W.rs.length cR, .string W.tx, .int .i64 W.rd, .bool W.en, .bool W.dn, .bool W.sn] 94)).alloc (.cells #[.int .i64 a.kd, .int .i64 a.hp, .int .i64 a.ro, .int .i64 a.pl, .int .i64 a.n, .string a.tx] 99)).alloc (.cells #[.slice none 0 0, .slice none 0 0, .string ⟨#[]⟩, .int .i64 0, .bool false, .bool false, .bool false] 94)) (w.heap.size + 1) [.int .i64 a.kd, .int .i64 a.hp, .int .i64 a.ro, .int .i64 a.pl, .int .i64 a.n, .string a.tx] := by
  have q := Var.new (T := 99) (w.alloc (.cells #[.slice (some ⟨g, 0, none⟩) 3 cH, .slice aR W.rs.length cR, .string W.tx, .int .i64 W.rd, .bool W.en, .bool W.dn, .bool W.sn] 94)) [.int .i64 a.kd, .int .i64 a.hp, .int .i64 a.ro, .int .i64 a.pl, .int .i64 a.n, .string a.tx]
  have q := q.alloc (.cells #[.slice none 0 0, .slice none 0 0, .string ⟨#[]⟩, .int .i64 0, .bool false, .bool false, .bool false] 94)
  simpa using q
 have v2 : Var 94 (((w.alloc (.cells #[.slice (some ⟨g, 0, none⟩) 3 cH, .slice aR W.rs.length cR, .string W.tx, .int .i64 W.rd, .bool W.en, .bool W.dn, .bool W.sn] 94)).alloc (.cells #[.int .i64 a.kd, .int .i64 a.hp, .int .i64 a.ro, .int .i64 a.pl, .int .i64 a.n, .string a.tx] 99)).alloc (.cells #[.slice none 0 0, .slice none 0 0, .string ⟨#[]⟩, .int .i64 0, .bool false, .bool false, .bool false] 94)) (w.heap.size + 1 + 1) [.slice none 0 0, .slice none 0 0, .string ⟨#[]⟩, .int .i64 0, .bool false, .bool false, .bool false] := by
  have q := Var.new (T := 94) ((w.alloc (.cells #[.slice (some ⟨g, 0, none⟩) 3 cH, .slice aR W.rs.length cR, .string W.tx, .int .i64 W.rd, .bool W.en, .bool W.dn, .bool W.sn] 94)).alloc (.cells #[.int .i64 a.kd, .int .i64 a.hp, .int .i64 a.ro, .int .i64 a.pl, .int .i64 a.n, .string a.tx] 99)) [.slice none 0 0, .slice none 0 0, .string ⟨#[]⟩, .int .i64 0, .bool false, .bool false, .bool false]
  simpa using q
 have b0 : Below w.heap.size w (((w.alloc (.cells #[.slice (some ⟨g, 0, none⟩) 3 cH, .slice aR W.rs.length cR, .string W.tx, .int .i64 W.rd, .bool W.en, .bool W.dn, .bool W.sn] 94)).alloc (.cells #[.int .i64 a.kd, .int .i64 a.hp, .int .i64 a.ro, .int .i64 a.pl, .int .i64 a.n, .string a.tx] 99)).alloc (.cells #[.slice none 0 0, .slice none 0 0, .string ⟨#[]⟩, .int .i64 0, .bool false, .bool false, .bool false] 94)) := (((Below.refl _ _).alloc (Nat.le_refl _) _).alloc (by simp) _).alloc (by simp; omega) _
 go_enter Tryz.func87, Tryz.ntmps87
 go_wp2_with fail
 generalize (((w.alloc (.cells #[.slice (some ⟨g, 0, none⟩) 3 cH, .slice aR W.rs.length cR, .string W.tx, .int .i64 W.rd, .bool W.en, .bool W.dn, .bool W.sn] 94)).alloc (.cells #[.int .i64 a.kd, .int .i64 a.hp, .int .i64 a.ro, .int .i64 a.pl, .int .i64 a.n, .string a.tx] 99)).alloc (.cells #[.slice none 0 0, .slice none 0 0, .string ⟨#[]⟩, .int .i64 0, .bool false, .bool false, .bool false] 94)) = V at *
 have z2 := v2.lt
 refine (l16Copy W _ aR cH cR xs _ (A.L.ll.later b0) A.hs (A.R.lies.later b0) A.R.none_cap A.ok).mono ?_
 rintro e w1 ⟨v, rfl, ⟨g2, h2, xs2, a2, r2, rfl, A2⟩, b1⟩
 replace v0 := (v0.later b1).alloc (.cells #[.slice (some ⟨g2, 0, none⟩) 3 h2, .slice a2 W.rs.length r2, .string W.tx, .int .i64 W.rd, .bool W.en, .bool W.dn, .bool W.sn] 94)
 replace v1 := (v1.later b1).alloc (.cells #[.slice (some ⟨g2, 0, none⟩) 3 h2, .slice a2 W.rs.length r2, .string W.tx, .int .i64 W.rd, .bool W.en, .bool W.dn, .bool W.sn] 94)
 replace v2 := (v2.later b1).alloc (.cells #[.slice (some ⟨g2, 0, none⟩) 3 h2, .slice a2 W.rs.length r2, .string W.tx, .int .i64 W.rd, .bool W.en, .bool W.dn, .bool W.sn] 94)
 have B1 := b0.trans (b1.mono b0.size)
 have zz := b1.size
 replace B1 := B1.alloc B1.size (.cells #[.slice (some ⟨g2, 0, none⟩) 3 h2, .slice a2 W.rs.length r2, .string W.tx, .int .i64 W.rd, .bool W.en, .bool W.dn, .bool W.sn] 94)
 replace A2 := A2.later ((Below.refl _ _).alloc (Nat.le_refl _) (.cells #[.slice (some ⟨g2, 0, none⟩) 3 h2, .slice a2 W.rs.length r2, .string W.tx, .int .i64 W.rd, .bool W.en, .bool W.dn, .bool W.sn] 94))
 obtain ⟨V1, hV1⟩ : ∃ z, Hid (z = w1.alloc (.cells #[.slice (some ⟨g2, 0, none⟩) 3 h2, .slice a2 W.rs.length r2, .string W.tx, .int .i64 W.rd, .bool W.en, .bool W.dn, .bool W.sn] 94)) := ⟨_, rfl⟩
 have v3 : Var 94 V1 w1.heap.size [.slice (some ⟨g2, 0, none⟩) 3 h2, .slice a2 W.rs.length r2, .string W.tx, .int .i64 W.rd, .bool W.en, .bool W.dn, .bool W.sn] := by rw [hV1.out]; exact Var.new w1 _
 have z3 : V.heap.size ≤ V1.heap.size := by rw [hV1.out]; simp; omega
 obtain ⟨f0, f1, f2, f3, f4, f5⟩ := v1.c6
 go_wp2_with fail
 have hV1o := hV1.out
 clear hV1
 subst hV1o
 generalize w1.alloc (.cells #[.slice (some ⟨g2, 0, none⟩) 3 h2, .slice a2 W.rs.length r2, .string W.tx, .int .i64 W.rd, .bool W.en, .bool W.dn, .bool W.sn] 94) = V1 at *
 generalize w1.heap.size = k at *
 refine (l16Do (T := 94) (pre := []) (post := []) (ow := 0) (by decide) k V.heap.size W a htx _ ⟨g2, h2, xs2, a2, r2, ⟨v3.win, A2.L, A2.hs, A2.R⟩⟩ z3 ⟨by decide, by decide, by decide, by decide⟩ A2.ok).mono ?_
 rintro e w2 ⟨rfl, lay, kb⟩
 have ok2 := ok_do A2.ok a
 replace v0 := v0.same (kb.block w.heap.size (by omega) (by omega))
 replace v2 := v2.same (kb.block (w.heap.size + 1 + 1) (by omega) (by omega))
 have B2 : Below w.heap.size w w2 := B1.trans ⟨kb.os, kb.tape, kb.output, kb.size, fun i hi => kb.block i (by omega) (by omega)⟩
 clear b0 b1 B1 v1 v3 A2 f0 f1 f2 f3 f4 f5
 obtain ⟨y0, y1, y2, y3, y4, y5, y6⟩ := v2.f7
 cases hd : (doW W a).2
 ·have hh : happenW W a = (W, false) := by simp [happenW, hd]
  have HH : Hid _ := hh
  clear hh
  obtain ⟨c0, c1, c2, c3, c4, c5, c6⟩ := v0.c7
  obtain ⟨d0, d1, d2, d3, d4, d5, d6⟩ := v2.c7
  go_wp2_with fail
  obtain ⟨WZ, hWZ⟩ : ∃ z, Hid (z = ((((((w2.setCell ⟨w.heap.size + 1 + 1, 0, none⟩ (.slice (some ⟨g, 0, none⟩) 3 cH)).setCell ⟨w.heap.size + 1 + 1, 1, none⟩ (.slice aR W.rs.length cR)).setCell ⟨w.heap.size + 1 + 1, 2, none⟩ (.string W.tx)).setCell ⟨w.heap.size + 1 + 1, 3, none⟩ (.int .i64 W.rd)).setCell ⟨w.heap.size + 1 + 1, 4, none⟩ (.bool W.en)).setCell ⟨w.heap.size + 1 + 1, 5, none⟩ (.bool W.dn)).setCell ⟨w.heap.size + 1 + 1, 6, none⟩ (.bool W.sn)) := ⟨_, rfl⟩
  have ka : Draw.Kept (w.heap.size + 1 + 1) w2 WZ := by rw [hWZ.out]; exact kept7 _ _ _ _ _ _ _ _ _
  have B3 := B2.trans (ka.below (by omega) B2.size)
  have vv : Var 94 WZ (w.heap.size + 1 + 1) [.slice (some ⟨g, 0, none⟩) 3 cH, .slice aR W.rs.length cR, .string W.tx, .int .i64 W.rd, .bool W.en, .bool W.dn, .bool W.sn] := by rw [hWZ.out]; exact var7 v2 _ _ _ _ _ _ _
  have A3 := A.later B3
  clear ka y0 y1 y2 y3 y4 y5 y6 c0 c1 c2 c3 c4 c5 c6 d0 d1 d2 d3 d4 d5 d6
  have hWZo := hWZ.out
  clear hWZ
  subst hWZo
  generalize (((((((w2.setCell ⟨w.heap.size + 1 + 1, 0, none⟩ (.slice (some ⟨g, 0, none⟩) 3 cH)).setCell ⟨w.heap.size + 1 + 1, 1, none⟩ (.slice aR W.rs.length cR)).setCell ⟨w.heap.size + 1 + 1, 2, none⟩ (.string W.tx)).setCell ⟨w.heap.size + 1 + 1, 3, none⟩ (.int .i64 W.rd)).setCell ⟨w.heap.size + 1 + 1, 4, none⟩ (.bool W.en)).setCell ⟨w.heap.size + 1 + 1, 5, none⟩ (.bool W.dn)).setCell ⟨w.heap.size + 1 + 1, 6, none⟩ (.bool W.sn)) = WZ at *
  obtain ⟨c0, c1, c2, c3, c4, c5, c6⟩ := vv.c7
  refine bodyPost_ret (v := .tuple #[.agg #[.slice (some ⟨g, 0, none⟩) 3 cH, .slice aR W.rs.length cR, .string W.tx, .int .i64 W.rd, .bool W.en, .bool W.dn, .bool W.sn], .bool false]) (by rw [Tak.res_cell_tmp rfl]; go_simp) rfl ?_
  rw [HH.out]
  exact ⟨_, rfl, ⟨g, cH, xs, aR, cR, rfl, A3⟩, B3⟩
 ·have hh : happenW W a = ((doW W a).1, true) := by
   have : happenW W a = doW W a := by simp [happenW, hd]
   rw [this, ← hd]
  have HH : Hid _ := hh
  clear hh
  generalize (doW W a).1 = W' at *
  obtain ⟨g4, h4, xs4, a4, r4, A4⟩ := lay
  have v4 := A4.v.whole
  have A5 : WAs w2 V.heap.size g4 h4 xs4 a4 r4 W' := ⟨A4.L, A4.hs, A4.R, ok2⟩
  clear A4 kb
  obtain ⟨c0, c1, c2, c3, c4, c5, c6⟩ := v4.c7
  obtain ⟨d0, d1, d2, d3, d4, d5, d6⟩ := v2.c7
  go_wp2_with fail
  obtain ⟨WZ, hWZ⟩ : ∃ z, Hid (z = ((((((w2.setCell ⟨w.heap.size + 1 + 1, 0, none⟩ (.slice (some ⟨g4, 0, none⟩) 3 h4)).setCell ⟨w.heap.size + 1 + 1, 1, none⟩ (.slice a4 W'.rs.length r4)).setCell ⟨w.heap.size + 1 + 1, 2, none⟩ (.string W'.tx)).setCell ⟨w.heap.size + 1 + 1, 3, none⟩ (.int .i64 W'.rd)).setCell ⟨w.heap.size + 1 + 1, 4, none⟩ (.bool W'.en)).setCell ⟨w.heap.size + 1 + 1, 5, none⟩ (.bool W'.dn)).setCell ⟨w.heap.size + 1 + 1, 6, none⟩ (.bool W'.sn)) := ⟨_, rfl⟩
  have ka : Draw.Kept (w.heap.size + 1 + 1) w2 WZ := by rw [hWZ.out]; exact kept7 _ _ _ _ _ _ _ _ _
  have B3 := B2.trans (ka.below (by omega) B2.size)
  have vv : Var 94 WZ (w.heap.size + 1 + 1) [.slice (some ⟨g4, 0, none⟩) 3 h4, .slice a4 W'.rs.length r4, .string W'.tx, .int .i64 W'.rd, .bool W'.en, .bool W'.dn, .bool W'.sn] := by rw [hWZ.out]; exact var7 v2 _ _ _ _ _ _ _
  have A6 := A5.keptV v2 (by decide) (by decide) (by decide) (by decide) ka
  clear ka A5 y0 y1 y2 y3 y4 y5 y6 c0 c1 c2 c3 c4 c5 c6 d0 d1 d2 d3 d4 d5 d6
  have hWZo := hWZ.out
  clear hWZ
  subst hWZo
  generalize (((((((w2.setCell ⟨w.heap.size + 1 + 1, 0, none⟩ (.slice (some ⟨g4, 0, none⟩) 3 h4)).setCell ⟨w.heap.size + 1 + 1, 1, none⟩ (.slice a4 W'.rs.length r4)).setCell ⟨w.heap.size + 1 + 1, 2, none⟩ (.string W'.tx)).setCell ⟨w.heap.size + 1 + 1, 3, none⟩ (.int .i64 W'.rd)).setCell ⟨w.heap.size + 1 + 1, 4, none⟩ (.bool W'.en)).setCell ⟨w.heap.size + 1 + 1, 5, none⟩ (.bool W'.dn)).setCell ⟨w.heap.size + 1 + 1, 6, none⟩ (.bool W'.sn)) = WZ at *
  obtain ⟨c0, c1, c2, c3, c4, c5, c6⟩ := vv.c7
  refine bodyPost_ret (v := .tuple #[.agg #[.slice (some ⟨g4, 0, none⟩) 3 h4, .slice a4 W'.rs.length r4, .string W'.tx, .int .i64 W'.rd, .bool W'.en, .bool W'.dn, .bool W'.sn], .bool true]) (by rw [Tak.res_cell_tmp rfl]; go_simp) rfl ?_
  rw [HH.out]
  exact ⟨_, rfl, ⟨g4, h4, xs4, a4, r4, rfl, ⟨A6.L.mono (by omega), A6.hs, A6.R.mono (by omega), A6.ok⟩⟩, B3⟩
end Go.Proofs.YtanfnphdgcnojaaGreat.Wor
namespace Go.Proofs.YtanfnphdgcnojaaGreat.Tak
open Go.RowKit RowG
end Go.Proofs.YtanfnphdgcnojaaGreat.Tak
namespace Go.Proofs.YtanfnphdgcnojaaGreat.Shp
end Go.Proofs.YtanfnphdgcnojaaGreat.Shp
namespace Go.Proofs.YtanfnphdgcnojaaGreat.Giv
open Go.RowKit RowG
end Go.Proofs.YtanfnphdgcnojaaGreat.Giv
