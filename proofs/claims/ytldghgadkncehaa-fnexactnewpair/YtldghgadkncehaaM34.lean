/- Contracts of this seat's functions, and their mathematics (LinW). -/
import Derived.Test.YtldghgadkncehaaM33
import Derived.Test.YtldghgadkncehaaM28
set_option linter.unusedVariables false
set_option linter.unusedSimpArgs false
set_option maxRecDepth 10000
set_option maxHeartbeats 4000000
namespace Go.Proofs.Ytldghgadkncehaa.Lin
open Go.RowKit RowG
abbrev put7' (w : World) (k : Nat) (x0 x1 x2 x3 x4 x5 x6 : Value) : World := ((((((w.setCell ⟨k, 0, none⟩ x0).setCell ⟨k, 1, none⟩ x1).setCell ⟨k, 2, none⟩ x2).setCell ⟨k, 3, none⟩ x3).setCell ⟨k, 4, none⟩ x4).setCell ⟨k, 5, none⟩ x5).setCell ⟨k, 6, none⟩ x6
theorem var7' {T : TypeId} {w : World} {k : Nat} {a0 a1 a2 a3 a4 a5 a6 : Value} (h : Var T w k [a0, a1, a2, a3, a4, a5, a6]) (x0 x1 x2 x3 x4 x5 x6 : Value) : Var T (put7' w k x0 x1 x2 x3 x4 x5 x6) k [x0, x1, x2, x3, x4, x5, x6] := ((((((h.set 0 x0).set 1 x1).set 2 x2).set 3 x3).set 4 x4).set 5 x5).set 6 x6
theorem kept7' (w : World) (k : Nat) (x0 x1 x2 x3 x4 x5 x6 : Value) : Draw.Kept k w (put7' w k x0 x1 x2 x3 x4 x5 x6) :=
  Draw.Kept.setCell (p := ⟨k, 6, none⟩) (Draw.Kept.setCell (p := ⟨k, 5, none⟩) (Draw.Kept.setCell (p := ⟨k, 4, none⟩) (Draw.Kept.setCell (p := ⟨k, 3, none⟩) (Draw.Kept.setCell (p := ⟨k, 2, none⟩) (Draw.Kept.setCell (p := ⟨k, 1, none⟩) (Draw.Kept.setCell (p := ⟨k, 0, none⟩) (Draw.Kept.refl _ _) (.inl rfl) _) (.inl rfl) _) (.inl rfl) _) (.inl rfl) _) (.inl rfl) _) (.inl rfl) _) (.inl rfl) _
theorem specNewWorld0 (a : Option Addr) (cap : Nat) (l : List Int) (n : Int) (w : World) (h : Roa.EI.Lies w a l) (hl : l.length ≤ 2097152) :
    Calls Try.prog 25 #[.slice a l.length cap, .int .i64 n] w fun x w' => Below w.heap.size w w' ∧ ((capsB l n = false ∧ x = .returned (.tuple #[.agg #[.slice none 0 0, .slice none 0 0, .string ⟨#[]⟩, .int .i64 0, .bool false, .bool false, .bool false], .bool false])) ∨
      (capsB l n = true ∧ ∃ g c g' c', x = .returned (.tuple #[.agg #[.slice (some ⟨g, 0, none⟩) 3 c, .slice (some ⟨g', 0, none⟩) n.toNat c', .string ⟨#[]⟩, .int .i64 0, .bool false, .bool false, .bool false], .bool true]) ∧ H0.Own 85 w' w.heap.size (some ⟨g, 0, none⟩) c (newHs l 3) ∧ Roa.E.Own 97 w' w.heap.size (some ⟨g', 0, none⟩) c' (newRs n.toNat))) := by
  have hmix := Roa.mix
  have v0 : Var 40 (w.alloc (.cells #[.slice none 0 0, .slice none 0 0, .string ⟨#[]⟩, .int .i64 0, .bool false, .bool false, .bool false] 40)) w.heap.size [.slice none 0 0, .slice none 0 0, .string ⟨#[]⟩, .int .i64 0, .bool false, .bool false, .bool false] := Var.new w _
  have b0 : Below w.heap.size w (w.alloc (.cells #[.slice none 0 0, .slice none 0 0, .string ⟨#[]⟩, .int .i64 0, .bool false, .bool false, .bool false] 40)) := (Below.refl _ _).alloc (Nat.le_refl _) _
  go_enter Try.func25, Try.ntmps25
  go_wp2_with fail
  generalize w.alloc (.cells #[.slice none 0 0, .slice none 0 0, .string ⟨#[]⟩, .int .i64 0, .bool false, .bool false, .bool false] 40) = V at *
  refine (specNewLine a cap l n _ (h.later b0) hl).mono ?_
  rintro x w1 ⟨b1, hx⟩
  have zV := b0.size
  replace v0 := v0.later b1
  have B1 := b0.trans (b1.mono b0.size)
  rcases hx with ⟨hc, rfl⟩ | ⟨hc, g, c, g', c', rfl, oH, oR⟩
  · replace v0 := v0.alloc (.cells #[.slice none 0 0, .slice none 0 0] 37)
    replace B1 := B1.alloc B1.size (.cells #[.slice none 0 0, .slice none 0 0] 37)
    have v1 : Var 37 (w1.alloc (.cells #[.slice none 0 0, .slice none 0 0] 37)) w1.heap.size [.slice none 0 0, .slice none 0 0] := Var.new w1 _
    have e0 := v1.cell (i := 0) rfl
    have e1 := v1.cell (i := 1) rfl
    have c0 := v0.cell (i := 0) rfl
    have y0 := v0.free 0
    have c1 := v0.cell (i := 1) rfl
    have y1 := v0.free 1
    have c2 := v0.cell (i := 2) rfl
    have y2 := v0.free 2
    have c3 := v0.cell (i := 3) rfl
    have y3 := v0.free 3
    have c4 := v0.cell (i := 4) rfl
    have y4 := v0.free 4
    have c5 := v0.cell (i := 5) rfl
    have y5 := v0.free 5
    have c6 := v0.cell (i := 6) rfl
    have y6 := v0.free 6
    go_wp2_with fail
    generalize w1.alloc (.cells #[.slice none 0 0, .slice none 0 0] 37) = V1 at *
    have ka : Draw.Kept w.heap.size V1 (((((((V1.setCell ⟨w.heap.size, 0, none⟩ (.slice none 0 0)).setCell ⟨w.heap.size, 1, none⟩ (.slice none 0 0)).setCell ⟨w.heap.size, 2, none⟩ (.string ⟨#[]⟩)).setCell ⟨w.heap.size, 3, none⟩ (.int .i64 0)).setCell ⟨w.heap.size, 4, none⟩ (.bool false)).setCell ⟨w.heap.size, 5, none⟩ (.bool false)).setCell ⟨w.heap.size, 6, none⟩ (.bool false)) := kept7' _ _ _ _ _ _ _ _ _
    have vv : Var 40 (((((((V1.setCell ⟨w.heap.size, 0, none⟩ (.slice none 0 0)).setCell ⟨w.heap.size, 1, none⟩ (.slice none 0 0)).setCell ⟨w.heap.size, 2, none⟩ (.string ⟨#[]⟩)).setCell ⟨w.heap.size, 3, none⟩ (.int .i64 0)).setCell ⟨w.heap.size, 4, none⟩ (.bool false)).setCell ⟨w.heap.size, 5, none⟩ (.bool false)).setCell ⟨w.heap.size, 6, none⟩ (.bool false)) w.heap.size [.slice none 0 0, .slice none 0 0, .string ⟨#[]⟩, .int .i64 0, .bool false, .bool false, .bool false] := var7' v0 _ _ _ _ _ _ _
    have B3 := B1.trans (ka.below (Nat.le_refl _) B1.size)
    clear ka v0 B1 e0 e1 c0 y0 c1 y1 c2 y2 c3 y3 c4 y4 c5 y5 c6 y6
    generalize (((((((V1.setCell ⟨w.heap.size, 0, none⟩ (.slice none 0 0)).setCell ⟨w.heap.size, 1, none⟩ (.slice none 0 0)).setCell ⟨w.heap.size, 2, none⟩ (.string ⟨#[]⟩)).setCell ⟨w.heap.size, 3, none⟩ (.int .i64 0)).setCell ⟨w.heap.size, 4, none⟩ (.bool false)).setCell ⟨w.heap.size, 5, none⟩ (.bool false)).setCell ⟨w.heap.size, 6, none⟩ (.bool false)) = WZ at *
    have c0 := vv.cell (i := 0) rfl
    have c1 := vv.cell (i := 1) rfl
    have c2 := vv.cell (i := 2) rfl
    have c3 := vv.cell (i := 3) rfl
    have c4 := vv.cell (i := 4) rfl
    have c5 := vv.cell (i := 5) rfl
    have c6 := vv.cell (i := 6) rfl
    refine bodyPost_ret (v := .tuple #[.agg #[.slice none 0 0, .slice none 0 0, .string ⟨#[]⟩, .int .i64 0, .bool false, .bool false, .bool false], .bool false]) (by rw [Tak.res_cell_tmp rfl]; go_simp) rfl ⟨B3, .inl ⟨hc, rfl⟩⟩
  · replace v0 := v0.alloc (.cells #[.slice (some ⟨g, 0, none⟩) 3 c, .slice (some ⟨g', 0, none⟩) n.toNat c'] 37)
    replace B1 := B1.alloc B1.size (.cells #[.slice (some ⟨g, 0, none⟩) 3 c, .slice (some ⟨g', 0, none⟩) n.toNat c'] 37)
    have v1 : Var 37 (w1.alloc (.cells #[.slice (some ⟨g, 0, none⟩) 3 c, .slice (some ⟨g', 0, none⟩) n.toNat c'] 37)) w1.heap.size [.slice (some ⟨g, 0, none⟩) 3 c, .slice (some ⟨g', 0, none⟩) n.toNat c'] := Var.new w1 _
    replace oH := (oH.alloc (.cells #[.slice (some ⟨g, 0, none⟩) 3 c, .slice (some ⟨g', 0, none⟩) n.toNat c'] 37)).mono zV
    replace oR := (oR.alloc (.cells #[.slice (some ⟨g, 0, none⟩) 3 c, .slice (some ⟨g', 0, none⟩) n.toNat c'] 37)).mono zV
    have e0 := v1.cell (i := 0) rfl
    have e1 := v1.cell (i := 1) rfl
    have c0 := v0.cell (i := 0) rfl
    have y0 := v0.free 0
    have c1 := v0.cell (i := 1) rfl
    have y1 := v0.free 1
    have c2 := v0.cell (i := 2) rfl
    have y2 := v0.free 2
    have c3 := v0.cell (i := 3) rfl
    have y3 := v0.free 3
    have c4 := v0.cell (i := 4) rfl
    have y4 := v0.free 4
    have c5 := v0.cell (i := 5) rfl
    have y5 := v0.free 5
    have c6 := v0.cell (i := 6) rfl
    have y6 := v0.free 6
    go_wp2_with fail
    generalize w1.alloc (.cells #[.slice (some ⟨g, 0, none⟩) 3 c, .slice (some ⟨g', 0, none⟩) n.toNat c'] 37) = V1 at *
    have ka : Draw.Kept w.heap.size V1 (((((((V1.setCell ⟨w.heap.size, 0, none⟩ (.slice (some ⟨g, 0, none⟩) 3 c)).setCell ⟨w.heap.size, 1, none⟩ (.slice (some ⟨g', 0, none⟩) n.toNat c')).setCell ⟨w.heap.size, 2, none⟩ (.string ⟨#[]⟩)).setCell ⟨w.heap.size, 3, none⟩ (.int .i64 0)).setCell ⟨w.heap.size, 4, none⟩ (.bool false)).setCell ⟨w.heap.size, 5, none⟩ (.bool false)).setCell ⟨w.heap.size, 6, none⟩ (.bool false)) := kept7' _ _ _ _ _ _ _ _ _
    have vv : Var 40 (((((((V1.setCell ⟨w.heap.size, 0, none⟩ (.slice (some ⟨g, 0, none⟩) 3 c)).setCell ⟨w.heap.size, 1, none⟩ (.slice (some ⟨g', 0, none⟩) n.toNat c')).setCell ⟨w.heap.size, 2, none⟩ (.string ⟨#[]⟩)).setCell ⟨w.heap.size, 3, none⟩ (.int .i64 0)).setCell ⟨w.heap.size, 4, none⟩ (.bool false)).setCell ⟨w.heap.size, 5, none⟩ (.bool false)).setCell ⟨w.heap.size, 6, none⟩ (.bool false)) w.heap.size [.slice (some ⟨g, 0, none⟩) 3 c, .slice (some ⟨g', 0, none⟩) n.toNat c', .string ⟨#[]⟩, .int .i64 0, .bool false, .bool false, .bool false] := var7' v0 _ _ _ _ _ _ _
    have B3 := B1.trans (ka.below (Nat.le_refl _) B1.size)
    replace oH := oH.kept ka (fun y hy => by cases hy; exact RowG.own_varS (by decide) oH v0)
    replace oR := oR.kept ka (fun y hy => by cases hy; exact RowG.own_varS (by decide) oR v0)
    clear ka v0 B1 e0 e1 c0 y0 c1 y1 c2 y2 c3 y3 c4 y4 c5 y5 c6 y6
    generalize (((((((V1.setCell ⟨w.heap.size, 0, none⟩ (.slice (some ⟨g, 0, none⟩) 3 c)).setCell ⟨w.heap.size, 1, none⟩ (.slice (some ⟨g', 0, none⟩) n.toNat c')).setCell ⟨w.heap.size, 2, none⟩ (.string ⟨#[]⟩)).setCell ⟨w.heap.size, 3, none⟩ (.int .i64 0)).setCell ⟨w.heap.size, 4, none⟩ (.bool false)).setCell ⟨w.heap.size, 5, none⟩ (.bool false)).setCell ⟨w.heap.size, 6, none⟩ (.bool false)) = WZ at *
    have c0 := vv.cell (i := 0) rfl
    have c1 := vv.cell (i := 1) rfl
    have c2 := vv.cell (i := 2) rfl
    have c3 := vv.cell (i := 3) rfl
    have c4 := vv.cell (i := 4) rfl
    have c5 := vv.cell (i := 5) rfl
    have c6 := vv.cell (i := 6) rfl
    refine bodyPost_ret (v := .tuple #[.agg #[.slice (some ⟨g, 0, none⟩) 3 c, .slice (some ⟨g', 0, none⟩) n.toNat c', .string ⟨#[]⟩, .int .i64 0, .bool false, .bool false, .bool false], .bool true]) (by rw [Tak.res_cell_tmp rfl]; go_simp) rfl ⟨B3, .inr ⟨hc, g, c, g', c', rfl, oH, oR⟩⟩
theorem implNewWorld0 (a : Option Addr) (cap : Nat) (l : List Int) (n : Int) (w : World) (h : Roa.EI.Lies w a l) (hl : l.length ≤ 2097152) :
    Calls Try.prog 27 #[.slice a l.length cap, .int .i64 n] w fun x w' => Below w.heap.size w w' ∧ ((capsB l n = false ∧ x = .returned (.tuple #[.agg #[.slice none 0 0, .slice none 0 0, .string ⟨#[]⟩, .int .i64 0, .bool false, .bool false, .bool false], .bool false])) ∨
      (capsB l n = true ∧ ∃ g c g' c', x = .returned (.tuple #[.agg #[.slice (some ⟨g, 0, none⟩) 3 c, .slice (some ⟨g', 0, none⟩) n.toNat c', .string ⟨#[]⟩, .int .i64 0, .bool false, .bool false, .bool false], .bool true]) ∧ H0.Own 85 w' w.heap.size (some ⟨g, 0, none⟩) c (newHs l 3) ∧ Roa.E.Own 97 w' w.heap.size (some ⟨g', 0, none⟩) c' (newRs n.toNat))) := by
  have hmix := Roa.mix
  have v0 : Var 40 (w.alloc (.cells #[.slice none 0 0, .slice none 0 0, .string ⟨#[]⟩, .int .i64 0, .bool false, .bool false, .bool false] 40)) w.heap.size [.slice none 0 0, .slice none 0 0, .string ⟨#[]⟩, .int .i64 0, .bool false, .bool false, .bool false] := Var.new w _
  have b0 : Below w.heap.size w (w.alloc (.cells #[.slice none 0 0, .slice none 0 0, .string ⟨#[]⟩, .int .i64 0, .bool false, .bool false, .bool false] 40)) := (Below.refl _ _).alloc (Nat.le_refl _) _
  go_enter Try.func27, Try.ntmps27
  go_wp2_with fail
  generalize w.alloc (.cells #[.slice none 0 0, .slice none 0 0, .string ⟨#[]⟩, .int .i64 0, .bool false, .bool false, .bool false] 40) = V at *
  refine (implNewLine a cap l n _ (h.later b0) hl).mono ?_
  rintro x w1 ⟨b1, hx⟩
  have zV := b0.size
  replace v0 := v0.later b1
  have B1 := b0.trans (b1.mono b0.size)
  rcases hx with ⟨hc, rfl⟩ | ⟨hc, g, c, g', c', rfl, oH, oR⟩
  · replace v0 := v0.alloc (.cells #[.slice none 0 0, .slice none 0 0] 37)
    replace B1 := B1.alloc B1.size (.cells #[.slice none 0 0, .slice none 0 0] 37)
    have v1 : Var 37 (w1.alloc (.cells #[.slice none 0 0, .slice none 0 0] 37)) w1.heap.size [.slice none 0 0, .slice none 0 0] := Var.new w1 _
    have e0 := v1.cell (i := 0) rfl
    have e1 := v1.cell (i := 1) rfl
    have c0 := v0.cell (i := 0) rfl
    have y0 := v0.free 0
    have c1 := v0.cell (i := 1) rfl
    have y1 := v0.free 1
    have c2 := v0.cell (i := 2) rfl
    have y2 := v0.free 2
    have c3 := v0.cell (i := 3) rfl
    have y3 := v0.free 3
    have c4 := v0.cell (i := 4) rfl
    have y4 := v0.free 4
    have c5 := v0.cell (i := 5) rfl
    have y5 := v0.free 5
    have c6 := v0.cell (i := 6) rfl
    have y6 := v0.free 6
    go_wp2_with fail
    generalize w1.alloc (.cells #[.slice none 0 0, .slice none 0 0] 37) = V1 at *
    have ka : Draw.Kept w.heap.size V1 (((((((V1.setCell ⟨w.heap.size, 0, none⟩ (.slice none 0 0)).setCell ⟨w.heap.size, 1, none⟩ (.slice none 0 0)).setCell ⟨w.heap.size, 2, none⟩ (.string ⟨#[]⟩)).setCell ⟨w.heap.size, 3, none⟩ (.int .i64 0)).setCell ⟨w.heap.size, 4, none⟩ (.bool false)).setCell ⟨w.heap.size, 5, none⟩ (.bool false)).setCell ⟨w.heap.size, 6, none⟩ (.bool false)) := kept7' _ _ _ _ _ _ _ _ _
    have vv : Var 40 (((((((V1.setCell ⟨w.heap.size, 0, none⟩ (.slice none 0 0)).setCell ⟨w.heap.size, 1, none⟩ (.slice none 0 0)).setCell ⟨w.heap.size, 2, none⟩ (.string ⟨#[]⟩)).setCell ⟨w.heap.size, 3, none⟩ (.int .i64 0)).setCell ⟨w.heap.size, 4, none⟩ (.bool false)).setCell ⟨w.heap.size, 5, none⟩ (.bool false)).setCell ⟨w.heap.size, 6, none⟩ (.bool false)) w.heap.size [.slice none 0 0, .slice none 0 0, .string ⟨#[]⟩, .int .i64 0, .bool false, .bool false, .bool false] := var7' v0 _ _ _ _ _ _ _
    have B3 := B1.trans (ka.below (Nat.le_refl _) B1.size)
    clear ka v0 B1 e0 e1 c0 y0 c1 y1 c2 y2 c3 y3 c4 y4 c5 y5 c6 y6
    generalize (((((((V1.setCell ⟨w.heap.size, 0, none⟩ (.slice none 0 0)).setCell ⟨w.heap.size, 1, none⟩ (.slice none 0 0)).setCell ⟨w.heap.size, 2, none⟩ (.string ⟨#[]⟩)).setCell ⟨w.heap.size, 3, none⟩ (.int .i64 0)).setCell ⟨w.heap.size, 4, none⟩ (.bool false)).setCell ⟨w.heap.size, 5, none⟩ (.bool false)).setCell ⟨w.heap.size, 6, none⟩ (.bool false)) = WZ at *
    have c0 := vv.cell (i := 0) rfl
    have c1 := vv.cell (i := 1) rfl
    have c2 := vv.cell (i := 2) rfl
    have c3 := vv.cell (i := 3) rfl
    have c4 := vv.cell (i := 4) rfl
    have c5 := vv.cell (i := 5) rfl
    have c6 := vv.cell (i := 6) rfl
    refine bodyPost_ret (v := .tuple #[.agg #[.slice none 0 0, .slice none 0 0, .string ⟨#[]⟩, .int .i64 0, .bool false, .bool false, .bool false], .bool false]) (by rw [Tak.res_cell_tmp rfl]; go_simp) rfl ⟨B3, .inl ⟨hc, rfl⟩⟩
  · replace v0 := v0.alloc (.cells #[.slice (some ⟨g, 0, none⟩) 3 c, .slice (some ⟨g', 0, none⟩) n.toNat c'] 37)
    replace B1 := B1.alloc B1.size (.cells #[.slice (some ⟨g, 0, none⟩) 3 c, .slice (some ⟨g', 0, none⟩) n.toNat c'] 37)
    have v1 : Var 37 (w1.alloc (.cells #[.slice (some ⟨g, 0, none⟩) 3 c, .slice (some ⟨g', 0, none⟩) n.toNat c'] 37)) w1.heap.size [.slice (some ⟨g, 0, none⟩) 3 c, .slice (some ⟨g', 0, none⟩) n.toNat c'] := Var.new w1 _
    replace oH := (oH.alloc (.cells #[.slice (some ⟨g, 0, none⟩) 3 c, .slice (some ⟨g', 0, none⟩) n.toNat c'] 37)).mono zV
    replace oR := (oR.alloc (.cells #[.slice (some ⟨g, 0, none⟩) 3 c, .slice (some ⟨g', 0, none⟩) n.toNat c'] 37)).mono zV
    have e0 := v1.cell (i := 0) rfl
    have e1 := v1.cell (i := 1) rfl
    have c0 := v0.cell (i := 0) rfl
    have y0 := v0.free 0
    have c1 := v0.cell (i := 1) rfl
    have y1 := v0.free 1
    have c2 := v0.cell (i := 2) rfl
    have y2 := v0.free 2
    have c3 := v0.cell (i := 3) rfl
    have y3 := v0.free 3
    have c4 := v0.cell (i := 4) rfl
    have y4 := v0.free 4
    have c5 := v0.cell (i := 5) rfl
    have y5 := v0.free 5
    have c6 := v0.cell (i := 6) rfl
    have y6 := v0.free 6
    go_wp2_with fail
    generalize w1.alloc (.cells #[.slice (some ⟨g, 0, none⟩) 3 c, .slice (some ⟨g', 0, none⟩) n.toNat c'] 37) = V1 at *
    have ka : Draw.Kept w.heap.size V1 (((((((V1.setCell ⟨w.heap.size, 0, none⟩ (.slice (some ⟨g, 0, none⟩) 3 c)).setCell ⟨w.heap.size, 1, none⟩ (.slice (some ⟨g', 0, none⟩) n.toNat c')).setCell ⟨w.heap.size, 2, none⟩ (.string ⟨#[]⟩)).setCell ⟨w.heap.size, 3, none⟩ (.int .i64 0)).setCell ⟨w.heap.size, 4, none⟩ (.bool false)).setCell ⟨w.heap.size, 5, none⟩ (.bool false)).setCell ⟨w.heap.size, 6, none⟩ (.bool false)) := kept7' _ _ _ _ _ _ _ _ _
    have vv : Var 40 (((((((V1.setCell ⟨w.heap.size, 0, none⟩ (.slice (some ⟨g, 0, none⟩) 3 c)).setCell ⟨w.heap.size, 1, none⟩ (.slice (some ⟨g', 0, none⟩) n.toNat c')).setCell ⟨w.heap.size, 2, none⟩ (.string ⟨#[]⟩)).setCell ⟨w.heap.size, 3, none⟩ (.int .i64 0)).setCell ⟨w.heap.size, 4, none⟩ (.bool false)).setCell ⟨w.heap.size, 5, none⟩ (.bool false)).setCell ⟨w.heap.size, 6, none⟩ (.bool false)) w.heap.size [.slice (some ⟨g, 0, none⟩) 3 c, .slice (some ⟨g', 0, none⟩) n.toNat c', .string ⟨#[]⟩, .int .i64 0, .bool false, .bool false, .bool false] := var7' v0 _ _ _ _ _ _ _
    have B3 := B1.trans (ka.below (Nat.le_refl _) B1.size)
    replace oH := oH.kept ka (fun y hy => by cases hy; exact RowG.own_varS (by decide) oH v0)
    replace oR := oR.kept ka (fun y hy => by cases hy; exact RowG.own_varS (by decide) oR v0)
    clear ka v0 B1 e0 e1 c0 y0 c1 y1 c2 y2 c3 y3 c4 y4 c5 y5 c6 y6
    generalize (((((((V1.setCell ⟨w.heap.size, 0, none⟩ (.slice (some ⟨g, 0, none⟩) 3 c)).setCell ⟨w.heap.size, 1, none⟩ (.slice (some ⟨g', 0, none⟩) n.toNat c')).setCell ⟨w.heap.size, 2, none⟩ (.string ⟨#[]⟩)).setCell ⟨w.heap.size, 3, none⟩ (.int .i64 0)).setCell ⟨w.heap.size, 4, none⟩ (.bool false)).setCell ⟨w.heap.size, 5, none⟩ (.bool false)).setCell ⟨w.heap.size, 6, none⟩ (.bool false)) = WZ at *
    have c0 := vv.cell (i := 0) rfl
    have c1 := vv.cell (i := 1) rfl
    have c2 := vv.cell (i := 2) rfl
    have c3 := vv.cell (i := 3) rfl
    have c4 := vv.cell (i := 4) rfl
    have c5 := vv.cell (i := 5) rfl
    have c6 := vv.cell (i := 6) rfl
    refine bodyPost_ret (v := .tuple #[.agg #[.slice (some ⟨g, 0, none⟩) 3 c, .slice (some ⟨g', 0, none⟩) n.toNat c', .string ⟨#[]⟩, .int .i64 0, .bool false, .bool false, .bool false], .bool true]) (by rw [Tak.res_cell_tmp rfl]; go_simp) rfl ⟨B3, .inr ⟨hc, g, c, g', c', rfl, oH, oR⟩⟩
theorem eqStream00 (w : World) : Calls Try.prog 41 #[.agg #[.string ⟨#[]⟩, .int .i64 0, .bool false, .bool false, .bool false], .agg #[.string ⟨#[]⟩, .int .i64 0, .bool false, .bool false, .bool false]] w fun x w' => x = .returned (.bool true) ∧ Below w.heap.size w w' := by
  have hmix := Roa.mix
  have b0 : Below w.heap.size w ((w.alloc (.cells #[.string ⟨#[]⟩, .int .i64 0, .bool false, .bool false, .bool false] 38)).alloc (.cells #[.string ⟨#[]⟩, .int .i64 0, .bool false, .bool false, .bool false] 38)) := ((Below.refl _ _).alloc (Nat.le_refl _) _).alloc (by simp) _
  go_enter Try.func41, Try.ntmps41
  go_wp2_with fail
  go_ret
  exact ⟨rfl, b0⟩
theorem eqWorld0 (a a' r r' : Option Addr) (c c' d d' n m : Nat) (l : List (Int × Int)) (rs : List Roa.Rd) (w : World) (hn : n = l.length) (hm : m = rs.length) (h : H0.Lies w a l) (h' : H0.Lies w a' l) (k : Roa.E.Lies w r rs) (k' : Roa.E.Lies w r' rs) (hl : l.length ≤ 1000) (hr : rs.length ≤ 1000) :
    Calls Try.prog 24 #[.agg #[.slice a n c, .slice r m d, .string ⟨#[]⟩, .int .i64 0, .bool false, .bool false, .bool false], .agg #[.slice a' n c', .slice r' m d', .string ⟨#[]⟩, .int .i64 0, .bool false, .bool false, .bool false]] w fun x w' => x = .returned (.bool true) ∧ Below w.heap.size w w' := by
  have hL := fun w' (b : Below w.heap.size w w') => eqLine0 a a' r r' c c' d d' n m l rs w' hn hm (h.later b) (h'.later b) (k.later b) (k'.later b) hl hr
  clear hn hm h h' k k' hl hr
  have hmix := Roa.mix
  have v1 : Var 40 ((w.alloc (.cells #[.slice a n c, .slice r m d, .string ⟨#[]⟩, .int .i64 0, .bool false, .bool false, .bool false] 40)).alloc (.cells #[.slice a' n c', .slice r' m d', .string ⟨#[]⟩, .int .i64 0, .bool false, .bool false, .bool false] 40)) w.heap.size [.slice a n c, .slice r m d, .string ⟨#[]⟩, .int .i64 0, .bool false, .bool false, .bool false] := (Var.new w _).alloc _
  have v2 : Var 40 ((w.alloc (.cells #[.slice a n c, .slice r m d, .string ⟨#[]⟩, .int .i64 0, .bool false, .bool false, .bool false] 40)).alloc (.cells #[.slice a' n c', .slice r' m d', .string ⟨#[]⟩, .int .i64 0, .bool false, .bool false, .bool false] 40)) (w.heap.size + 1) [.slice a' n c', .slice r' m d', .string ⟨#[]⟩, .int .i64 0, .bool false, .bool false, .bool false] := by
    have q := Var.new (T := 40) (w.alloc (.cells #[.slice a n c, .slice r m d, .string ⟨#[]⟩, .int .i64 0, .bool false, .bool false, .bool false] 40)) [.slice a' n c', .slice r' m d', .string ⟨#[]⟩, .int .i64 0, .bool false, .bool false, .bool false]
    simpa using q
  have b0 : Below w.heap.size w ((w.alloc (.cells #[.slice a n c, .slice r m d, .string ⟨#[]⟩, .int .i64 0, .bool false, .bool false, .bool false] 40)).alloc (.cells #[.slice a' n c', .slice r' m d', .string ⟨#[]⟩, .int .i64 0, .bool false, .bool false, .bool false] 40)) := ((Below.refl _ _).alloc (Nat.le_refl _) _).alloc (by simp) _
  go_enter Try.func24, Try.ntmps24
  go_wp2_with fail
  refine (hL _ b0).mono ?_
  rintro e w1 ⟨rfl, b1⟩
  replace v1 := v1.later b1
  replace v2 := v2.later b1
  have B1 := b0.trans (b1.mono b0.size)
  clear b0 b1
  have x2 := v1.cell (i := 2) rfl
  have z2 := v2.cell (i := 2) rfl
  have x3 := v1.cell (i := 3) rfl
  have z3 := v2.cell (i := 3) rfl
  have x4 := v1.cell (i := 4) rfl
  have z4 := v2.cell (i := 4) rfl
  have x5 := v1.cell (i := 5) rfl
  have z5 := v2.cell (i := 5) rfl
  have x6 := v1.cell (i := 6) rfl
  have z6 := v2.cell (i := 6) rfl
  go_wp2_with fail
  refine (eqStream00 _).mono ?_
  rintro e w2 ⟨rfl, b2⟩
  have B2 := B1.trans (b2.mono B1.size)
  go_wp2_with fail
  go_ret
  exact ⟨rfl, B2⟩
theorem markWorld0 (B g c g' c' n m : Nat) (l : List (Int × Int)) (rs : List Roa.Rd) (q : Int) (w : World) (hn : n = l.length) (hm : m = rs.length) (h : H0.Own 85 w B (some ⟨g, 0, none⟩) c l) (h' : Roa.E.Own 97 w B (some ⟨g', 0, none⟩) c' rs) (hB : B ≤ w.heap.size) (hl : l.length ≤ 30) (hr : rs.length ≤ 100) (q0 : 0 < q) (q1 : q ≤ 500) :
    Calls Try.prog 28 #[.agg #[.slice (some ⟨g, 0, none⟩) n c, .slice (some ⟨g', 0, none⟩) m c', .string ⟨#[]⟩, .int .i64 0, .bool false, .bool false, .bool false], .int .i64 q] w fun x w' => x = .returned (.int .i64 (q + 11 * (n : Int) + 4 * (m : Int))) ∧ A13.Own 85 w' B (some ⟨g, 0, none⟩) c (mks q n) ∧ Roa.E.Own 97 w' B (some ⟨g', 0, none⟩) c' (Roa.marks (q + 11 * (n : Int)) m) ∧ Below B w w' ∧ ∀ i, i < w.heap.size → i ≠ g → i ≠ g' → w'.heap[i]? = w.heap[i]? := by
  have hM := fun w' p p' z => markLine0 B g c g' c' n m l rs q w' hn hm p p' z hl hr q0 q1
  clear hn hm hl hr
  have A1 := h.alloc (.cells #[.slice (some ⟨g, 0, none⟩) n c, .slice (some ⟨g', 0, none⟩) m c', .string ⟨#[]⟩, .int .i64 0, .bool false, .bool false, .bool false] 40)
  have A2 := h'.alloc (.cells #[.slice (some ⟨g, 0, none⟩) n c, .slice (some ⟨g', 0, none⟩) m c', .string ⟨#[]⟩, .int .i64 0, .bool false, .bool false, .bool false] 40)
  have A3 : Below B w (w.alloc (.cells #[.slice (some ⟨g, 0, none⟩) n c, .slice (some ⟨g', 0, none⟩) m c', .string ⟨#[]⟩, .int .i64 0, .bool false, .bool false, .bool false] 40)) := (Below.refl _ _).alloc hB _
  have S1 : ∀ i, i < w.heap.size → (w.alloc (.cells #[.slice (some ⟨g, 0, none⟩) n c, .slice (some ⟨g', 0, none⟩) m c', .string ⟨#[]⟩, .int .i64 0, .bool false, .bool false, .bool false] 40)).heap[i]? = w.heap[i]? := fun i hi => Below.heap_alloc _ _ _ hi
  have z1 : w.heap.size ≤ (w.alloc (.cells #[.slice (some ⟨g, 0, none⟩) n c, .slice (some ⟨g', 0, none⟩) m c', .string ⟨#[]⟩, .int .i64 0, .bool false, .bool false, .bool false] 40)).heap.size := by simp
  go_enter Try.func28, Try.ntmps28
  clear h h'
  go_wp2_with fail
  generalize w.alloc (.cells #[.slice (some ⟨g, 0, none⟩) n c, .slice (some ⟨g', 0, none⟩) m c', .string ⟨#[]⟩, .int .i64 0, .bool false, .bool false, .bool false] 40) = V at *
  refine (hM _ A1 A2 (by omega)).mono ?_
  rintro e w1 ⟨rfl, o1, o2, b1, s1⟩
  have B2 := A3.trans (b1.mono (Nat.le_refl _))
  have S2 : ∀ i, i < w.heap.size → i ≠ g → i ≠ g' → w1.heap[i]? = w.heap[i]? := fun i hi p p' => (s1 i (by omega) p p').trans (S1 i hi)
  clear A1 A2 A3 S1 s1 b1
  go_wp2_with fail
  go_ret
  exact ⟨rfl, o1, o2, B2, S2⟩
theorem markWorldNil (w : World) : Calls Try.prog 28 #[.agg #[.slice none 0 0, .slice none 0 0, .string ⟨#[]⟩, .int .i64 0, .bool false, .bool false, .bool false], .int .i64 1] w fun x w' => x = .returned (.int .i64 1) ∧ Below w.heap.size w w' := by
  have b0 : Below w.heap.size w (w.alloc (.cells #[.slice none 0 0, .slice none 0 0, .string ⟨#[]⟩, .int .i64 0, .bool false, .bool false, .bool false] 40)) := (Below.refl _ _).alloc (Nat.le_refl _) _
  go_enter Try.func28, Try.ntmps28
  go_wp2_with fail
  refine (markLineNil _).mono ?_
  rintro e w1 ⟨rfl, b1⟩
  go_wp2_with fail
  go_ret
  exact ⟨rfl, b0.trans (b1.mono b0.size)⟩
theorem heldWorld0 (a r : Option Addr) (c d n m : Nat) (q : Int) (w : World) (h : A13.Lies w a (mks q n)) (k : Roa.E.Lies w r (Roa.marks (q + 11 * (n : Int)) m)) (hl : n ≤ 30) (hr : m ≤ 100) (q0 : 0 < q) (q1 : q ≤ 500) :
    Calls Try.prog 29 #[.agg #[.slice a n c, .slice r m d, .string ⟨#[]⟩, .int .i64 0, .bool false, .bool false, .bool false], .int .i64 q] w fun x w' => x = .returned (.int .i64 (q + 11 * (n : Int) + 4 * (m : Int))) ∧ Below w.heap.size w w' := by
  have b0 : Below w.heap.size w (w.alloc (.cells #[.slice a n c, .slice r m d, .string ⟨#[]⟩, .int .i64 0, .bool false, .bool false, .bool false] 40)) := (Below.refl _ _).alloc (Nat.le_refl _) _
  have n2 : ¬ (q + 11 * (n : Int) + 4 * (m : Int)) < 0 := by omega
  go_enter Try.func29, Try.ntmps29
  go_wp2_with fail
  refine (heldLine0 a r c d n m q _ (h.later b0) (k.later b0) hl hr q0 q1).mono ?_
  rintro e w1 ⟨rfl, b1⟩
  have B1 := b0.trans (b1.mono b0.size)
  clear b0 b1
  go_wp2_with fail
  go_ret
  exact ⟨rfl, B1⟩
end Go.Proofs.Ytldghgadkncehaa.Lin
