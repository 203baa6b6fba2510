/- Contracts of this seat's functions, and their mathematics (HopF). -/
import Derived.Test.YtldghgadkncehaaM40
set_option linter.unusedVariables false
set_option linter.unusedSimpArgs false
set_option maxRecDepth 10000
set_option maxHeartbeats 8000000
namespace Go.Proofs.Ytldghgadkncehaa.Hop
open Go.RowKit RowG
theorem res_one {fn : Func} {p : Tmp} {ty : TypeId} (h : fn.results = #[.cell p ty]) (tmps : Array Value) (P : Program) (w : World) :
    (results fn tmps).run P w = ((asAddr (tmps.getD p undef)).run P w).andThen fun a w₁ => (loadVar ty a).run P w₁ := by
  simp only [results, h]
  simp [Sem.run_bind, Result.andThen]
theorem l7Copy (h : Hp) (aT : Option Addr) (cT : Nat) (aW : Option Addr) (cW : Nat) (w : World) (hT : Tak.partE.Lies w aT h.t.l) (hW : letE.Lies w aW h.ws) (hnT : aT = none → cT = 0) (hnW : aW = none → cW = 0) (hlT : h.t.l.length ≤ 524288) (hlW : h.ws.length ≤ 524288) :
    Calls Try.prog 60 #[h.v aT cT aW cW] w fun e w' => ∃ aT' cT' aW' cW', e = .returned (h.v aT' cT' aW' cW') ∧ Tak.partE.Own 136 w' w.heap.size aT' cT' h.t.l ∧ letE.Own 87 w' w.heap.size aW' cW' h.ws ∧ Below w.heap.size w w' := by
  have v1 : Var 85 ((w.alloc (.cells #[.int .i64 h.g.ba, .string h.g.bs, .int .i64 h.g.cp, .int .i64 h.g.lm, .bool h.g.en, .bool h.g.dn, .int .i64 h.t.nx, .string h.t.bs, .slice aT h.t.l.length cT, .int .i64 h.t.cp, .int .i64 h.t.fi, .bool h.t.en, .slice aW h.ws.length cW] 85)).alloc (.cells #[.int .i64 0, .string ⟨#[]⟩, .int .i64 0, .int .i64 0, .bool false, .bool false, .int .i64 0, .string ⟨#[]⟩, .slice none 0 0, .int .i64 0, .int .i64 0, .bool false, .slice none 0 0] 85)) w.heap.size [.int .i64 h.g.ba, .string h.g.bs, .int .i64 h.g.cp, .int .i64 h.g.lm, .bool h.g.en, .bool h.g.dn, .int .i64 h.t.nx, .string h.t.bs, .slice aT h.t.l.length cT, .int .i64 h.t.cp, .int .i64 h.t.fi, .bool h.t.en, .slice aW h.ws.length cW] := (Var.new w [.int .i64 h.g.ba, .string h.g.bs, .int .i64 h.g.cp, .int .i64 h.g.lm, .bool h.g.en, .bool h.g.dn, .int .i64 h.t.nx, .string h.t.bs, .slice aT h.t.l.length cT, .int .i64 h.t.cp, .int .i64 h.t.fi, .bool h.t.en, .slice aW h.ws.length cW]).alloc _
  have v2 : Var 85 ((w.alloc (.cells #[.int .i64 h.g.ba, .string h.g.bs, .int .i64 h.g.cp, .int .i64 h.g.lm, .bool h.g.en, .bool h.g.dn, .int .i64 h.t.nx, .string h.t.bs, .slice aT h.t.l.length cT, .int .i64 h.t.cp, .int .i64 h.t.fi, .bool h.t.en, .slice aW h.ws.length cW] 85)).alloc (.cells #[.int .i64 0, .string ⟨#[]⟩, .int .i64 0, .int .i64 0, .bool false, .bool false, .int .i64 0, .string ⟨#[]⟩, .slice none 0 0, .int .i64 0, .int .i64 0, .bool false, .slice none 0 0] 85)) (w.heap.size + 1) [.int .i64 0, .string ⟨#[]⟩, .int .i64 0, .int .i64 0, .bool false, .bool false, .int .i64 0, .string ⟨#[]⟩, .slice none 0 0, .int .i64 0, .int .i64 0, .bool false, .slice none 0 0] := by
    have q := Var.new (T := 85) (w.alloc (.cells #[.int .i64 h.g.ba, .string h.g.bs, .int .i64 h.g.cp, .int .i64 h.g.lm, .bool h.g.en, .bool h.g.dn, .int .i64 h.t.nx, .string h.t.bs, .slice aT h.t.l.length cT, .int .i64 h.t.cp, .int .i64 h.t.fi, .bool h.t.en, .slice aW h.ws.length cW] 85)) [.int .i64 0, .string ⟨#[]⟩, .int .i64 0, .int .i64 0, .bool false, .bool false, .int .i64 0, .string ⟨#[]⟩, .slice none 0 0, .int .i64 0, .int .i64 0, .bool false, .slice none 0 0]
    simpa using q
  have b0 : Below w.heap.size w ((w.alloc (.cells #[.int .i64 h.g.ba, .string h.g.bs, .int .i64 h.g.cp, .int .i64 h.g.lm, .bool h.g.en, .bool h.g.dn, .int .i64 h.t.nx, .string h.t.bs, .slice aT h.t.l.length cT, .int .i64 h.t.cp, .int .i64 h.t.fi, .bool h.t.en, .slice aW h.ws.length cW] 85)).alloc (.cells #[.int .i64 0, .string ⟨#[]⟩, .int .i64 0, .int .i64 0, .bool false, .bool false, .int .i64 0, .string ⟨#[]⟩, .slice none 0 0, .int .i64 0, .int .i64 0, .bool false, .slice none 0 0] 85)) := ((Below.refl _ _).alloc (Nat.le_refl _) _).alloc (by simp) _
  have lT := hT.later b0
  have lW := hW.later b0
  have hC := fun w' l' => Tak.l5Copy h.t.nx h.t.bs aT h.t.l.length cT h.t.cp h.t.fi h.t.en h.t.l w' rfl l' (by omega) hnT
  have HC : Hid _ := hC
  clear hC
  go_enter Try.func60, Try.ntmps60
  go_upto_region 1 with (fail)
  generalize (w.alloc (.cells #[.int .i64 h.g.ba, .string h.g.bs, .int .i64 h.g.cp, .int .i64 h.g.lm, .bool h.g.en, .bool h.g.dn, .int .i64 h.t.nx, .string h.t.bs, .slice aT h.t.l.length cT, .int .i64 h.t.cp, .int .i64 h.t.fi, .bool h.t.en, .slice aW h.ws.length cW] 85)).alloc (.cells #[.int .i64 0, .string ⟨#[]⟩, .int .i64 0, .int .i64 0, .bool false, .bool false, .int .i64 0, .string ⟨#[]⟩, .slice none 0 0, .int .i64 0, .int .i64 0, .bool false, .slice none 0 0] 85) = V at *
  have e0 := v1.cell (i := 0) rfl
  have e1 := v1.cell (i := 1) rfl
  have e2 := v1.cell (i := 2) rfl
  have e3 := v1.cell (i := 3) rfl
  have e4 := v1.cell (i := 4) rfl
  have e5 := v1.cell (i := 5) rfl
  have e6 := v1.cell (i := 6) rfl
  have e7 := v1.cell (i := 7) rfl
  have e8 := v1.cell (i := 8) rfl
  have e9 := v1.cell (i := 9) rfl
  have e10 := v1.cell (i := 10) rfl
  have e11 := v1.cell (i := 11) rfl
  have e12 := v1.cell (i := 12) rfl
  have hV1 : w.heap.size < V.heap.size := v1.lt
  have hV2 : w.heap.size + 1 < V.heap.size := v2.lt
  go_wp2_with fail
  refine (HC.out _ lT).mono ?_
  rintro e w1 ⟨a2, c2, rfl, oT, b1⟩
  replace v1 := v1.later b1
  replace v2 := v2.later b1
  replace lW := lW.later b1
  have B1 := b0.trans (b1.mono b0.size)
  clear HC b1 b0 lT e0 e1 e2 e3 e4 e5 e6 e7 e8 e9 e10 e11 e12
  have e0 := v1.cell (i := 0) rfl
  have e1 := v1.cell (i := 1) rfl
  have e2 := v1.cell (i := 2) rfl
  have e3 := v1.cell (i := 3) rfl
  have e4 := v1.cell (i := 4) rfl
  have e5 := v1.cell (i := 5) rfl
  have e6 := v1.cell (i := 6) rfl
  have e7 := v1.cell (i := 7) rfl
  have e8 := v1.cell (i := 8) rfl
  have e9 := v1.cell (i := 9) rfl
  have e10 := v1.cell (i := 10) rfl
  have e11 := v1.cell (i := 11) rfl
  have e12 := v1.cell (i := 12) rfl
  have y6 := v1.free 6
  have y7 := v1.free 7
  have y8 := v1.free 8
  have y9 := v1.free 9
  have y10 := v1.free 10
  have y11 := v1.free 11
  go_upto_region 2 with (fail)
  have x1 : Var 85 (((((((w1.setCell ⟨w.heap.size, 6, none⟩ (.int .i64 h.t.nx)).setCell ⟨w.heap.size, 7, none⟩ (.string h.t.bs)).setCell ⟨w.heap.size, 8, none⟩ (.slice a2 h.t.l.length c2)).setCell ⟨w.heap.size, 9, none⟩ (.int .i64 h.t.cp)).setCell ⟨w.heap.size, 10, none⟩ (.int .i64 h.t.fi)).setCell ⟨w.heap.size, 11, none⟩ (.bool h.t.en))) w.heap.size [.int .i64 h.g.ba, .string h.g.bs, .int .i64 h.g.cp, .int .i64 h.g.lm, .bool h.g.en, .bool h.g.dn, .int .i64 h.t.nx, .string h.t.bs, .slice a2 h.t.l.length c2, .int .i64 h.t.cp, .int .i64 h.t.fi, .bool h.t.en, .slice aW h.ws.length cW] := ((((((v1.set 6 _).set 7 _).set 8 _).set 9 _).set 10 _).set 11 _)
  have x2 : Var 85 (((((((w1.setCell ⟨w.heap.size, 6, none⟩ (.int .i64 h.t.nx)).setCell ⟨w.heap.size, 7, none⟩ (.string h.t.bs)).setCell ⟨w.heap.size, 8, none⟩ (.slice a2 h.t.l.length c2)).setCell ⟨w.heap.size, 9, none⟩ (.int .i64 h.t.cp)).setCell ⟨w.heap.size, 10, none⟩ (.int .i64 h.t.fi)).setCell ⟨w.heap.size, 11, none⟩ (.bool h.t.en))) (w.heap.size + 1) [.int .i64 0, .string ⟨#[]⟩, .int .i64 0, .int .i64 0, .bool false, .bool false, .int .i64 0, .string ⟨#[]⟩, .slice none 0 0, .int .i64 0, .int .i64 0, .bool false, .slice none 0 0] := by
    iterate 6 (refine Var.other ?_ (by simp) _)
    exact v2
  have xT : Tak.partE.Own 136 (((((((w1.setCell ⟨w.heap.size, 6, none⟩ (.int .i64 h.t.nx)).setCell ⟨w.heap.size, 7, none⟩ (.string h.t.bs)).setCell ⟨w.heap.size, 8, none⟩ (.slice a2 h.t.l.length c2)).setCell ⟨w.heap.size, 9, none⟩ (.int .i64 h.t.cp)).setCell ⟨w.heap.size, 10, none⟩ (.int .i64 h.t.fi)).setCell ⟨w.heap.size, 11, none⟩ (.bool h.t.en))) w.heap.size a2 c2 h.t.l := by
    iterate 6 (refine El.Own.setCell ?_ (fun x hx => by have := (oT.lt x hx).1; dsimp only; omega) _)
    exact oT.mono (by omega)
  have xB : Below w.heap.size w (((((((w1.setCell ⟨w.heap.size, 6, none⟩ (.int .i64 h.t.nx)).setCell ⟨w.heap.size, 7, none⟩ (.string h.t.bs)).setCell ⟨w.heap.size, 8, none⟩ (.slice a2 h.t.l.length c2)).setCell ⟨w.heap.size, 9, none⟩ (.int .i64 h.t.cp)).setCell ⟨w.heap.size, 10, none⟩ (.int .i64 h.t.fi)).setCell ⟨w.heap.size, 11, none⟩ (.bool h.t.en))) := by
    iterate 6 (refine Below.setCell ?_ (by dsimp only; omega) _)
    exact B1
  have xs1 : w.heap.size < (((((((w1.setCell ⟨w.heap.size, 6, none⟩ (.int .i64 h.t.nx)).setCell ⟨w.heap.size, 7, none⟩ (.string h.t.bs)).setCell ⟨w.heap.size, 8, none⟩ (.slice a2 h.t.l.length c2)).setCell ⟨w.heap.size, 9, none⟩ (.int .i64 h.t.cp)).setCell ⟨w.heap.size, 10, none⟩ (.int .i64 h.t.fi)).setCell ⟨w.heap.size, 11, none⟩ (.bool h.t.en))).heap.size := x1.lt
  have xs2 : w.heap.size + 1 < (((((((w1.setCell ⟨w.heap.size, 6, none⟩ (.int .i64 h.t.nx)).setCell ⟨w.heap.size, 7, none⟩ (.string h.t.bs)).setCell ⟨w.heap.size, 8, none⟩ (.slice a2 h.t.l.length c2)).setCell ⟨w.heap.size, 9, none⟩ (.int .i64 h.t.cp)).setCell ⟨w.heap.size, 10, none⟩ (.int .i64 h.t.fi)).setCell ⟨w.heap.size, 11, none⟩ (.bool h.t.en))).heap.size := x2.lt
  generalize ((((((w1.setCell ⟨w.heap.size, 6, none⟩ (.int .i64 h.t.nx)).setCell ⟨w.heap.size, 7, none⟩ (.string h.t.bs)).setCell ⟨w.heap.size, 8, none⟩ (.slice a2 h.t.l.length c2)).setCell ⟨w.heap.size, 9, none⟩ (.int .i64 h.t.cp)).setCell ⟨w.heap.size, 10, none⟩ (.int .i64 h.t.fi)).setCell ⟨w.heap.size, 11, none⟩ (.bool h.t.en)) = W1 at *
  clear v1 v2 oT lW B1 e0 e1 e2 e3 e4 e5 e6 e7 e8 e9 e10 e11 e12 y6 y7 y8 y9 y10 y11
  have bA : Below w.heap.size w (W1.alloc (.cells #[] 87)) := xB.alloc xB.size _
  have z1 := x1.alloc (.cells #[] 87)
  have z2 := x2.alloc (.cells #[] 87)
  have zT := xT.alloc (.cells #[] 87)
  have zW := hW.later bA
  have oA := El.Own.made (E := letE) (T := 87) W1
  have hz : ([] : List Lt).length + h.ws.length ≤ 4194304 := by simp; omega
  have hBA : W1.heap.size ≤ (W1.alloc (.cells #[] 87)).heap.size := by simp
  have c12 := z1.cell (i := 12) rfl
  go_wp2_with (at_builtin; refine wpList_app typ (by decide) (by rfl) _ _ (by rfl) W1.heap.size (some ⟨W1.heap.size, 0, none⟩) 0 0 [] h.ws rfl (by rfl) oA hBA aW h.ws.length cW rfl (by rfl) zW hnW hz ?_; intro a4 c4 w4 o4 g4; refine Tak.stand ?_)
  rw [List.nil_append] at o4
  have p1 := z1.grown g4 (by intro g hg; simp [blk] at hg; omega)
  have p2 := z2.grown g4 (by intro g hg; simp [blk] at hg; omega)
  have pT := zT.grown g4 (by intro x hx; have := (xT.lt x hx).2; simp [blk]; omega)
  have pB := grown_below bA (Nat.le_refl _) (by intro g hg; simp [blk] at hg; omega) g4
  clear bA z1 z2 zT zW oA hz hBA c12 g4
  show wpList _ _ _ _ _ _
  have c12 := p1.cell (i := 12) rfl
  have f12 := p1.free 12
  (try rw [Nat.zero_add])
  go_upto_region 3 with (fail)
  have q1 : Var 85 ((w4.setCell ⟨w.heap.size, 12, none⟩ (.slice a4 h.ws.length c4))) w.heap.size [.int .i64 h.g.ba, .string h.g.bs, .int .i64 h.g.cp, .int .i64 h.g.lm, .bool h.g.en, .bool h.g.dn, .int .i64 h.t.nx, .string h.t.bs, .slice a2 h.t.l.length c2, .int .i64 h.t.cp, .int .i64 h.t.fi, .bool h.t.en, .slice a4 h.ws.length c4] := (p1.set 12 _)
  have q2 : Var 85 ((w4.setCell ⟨w.heap.size, 12, none⟩ (.slice a4 h.ws.length c4))) (w.heap.size + 1) [.int .i64 0, .string ⟨#[]⟩, .int .i64 0, .int .i64 0, .bool false, .bool false, .int .i64 0, .string ⟨#[]⟩, .slice none 0 0, .int .i64 0, .int .i64 0, .bool false, .slice none 0 0] := p2.other (by simp) _
  have qT : Tak.partE.Own 136 ((w4.setCell ⟨w.heap.size, 12, none⟩ (.slice a4 h.ws.length c4))) w.heap.size a2 c2 h.t.l := pT.setCell (fun x hx => by have := (own_win (by decide) pT p1.win x hx); exact this) _
  have qW : letE.Own 87 ((w4.setCell ⟨w.heap.size, 12, none⟩ (.slice a4 h.ws.length c4))) w.heap.size a4 c4 h.ws := (o4.mono (by omega)).setCell (fun x hx => by have := (o4.lt x hx).1; dsimp only; omega) _
  have qB : Below w.heap.size w ((w4.setCell ⟨w.heap.size, 12, none⟩ (.slice a4 h.ws.length c4))) := pB.setCell (by dsimp only; omega) _
  generalize (w4.setCell ⟨w.heap.size, 12, none⟩ (.slice a4 h.ws.length c4)) = W3 at *
  clear p1 p2 pT pB o4 c12 f12 x1 x2 xT xB
  have e0 := q1.cell (i := 0) rfl
  have e1 := q1.cell (i := 1) rfl
  have e2 := q1.cell (i := 2) rfl
  have e3 := q1.cell (i := 3) rfl
  have e4 := q1.cell (i := 4) rfl
  have e5 := q1.cell (i := 5) rfl
  have e6 := q1.cell (i := 6) rfl
  have e7 := q1.cell (i := 7) rfl
  have e8 := q1.cell (i := 8) rfl
  have e9 := q1.cell (i := 9) rfl
  have e10 := q1.cell (i := 10) rfl
  have e11 := q1.cell (i := 11) rfl
  have e12 := q1.cell (i := 12) rfl
  have f0 := q2.cell (i := 0) rfl
  have f1 := q2.cell (i := 1) rfl
  have f2 := q2.cell (i := 2) rfl
  have f3 := q2.cell (i := 3) rfl
  have f4 := q2.cell (i := 4) rfl
  have f5 := q2.cell (i := 5) rfl
  have f6 := q2.cell (i := 6) rfl
  have f7 := q2.cell (i := 7) rfl
  have f8 := q2.cell (i := 8) rfl
  have f9 := q2.cell (i := 9) rfl
  have f10 := q2.cell (i := 10) rfl
  have f11 := q2.cell (i := 11) rfl
  have f12 := q2.cell (i := 12) rfl
  have y0 := q2.free 0
  have y1 := q2.free 1
  have y2 := q2.free 2
  have y3 := q2.free 3
  have y4 := q2.free 4
  have y5 := q2.free 5
  have y6 := q2.free 6
  have y7 := q2.free 7
  have y8 := q2.free 8
  have y9 := q2.free 9
  have y10 := q2.free 10
  have y11 := q2.free 11
  have y12 := q2.free 12
  go_wp2_with fail
  have r2 : Var 85 ((((((((((((((W3.setCell ⟨(w.heap.size + 1), 0, none⟩ (.int .i64 h.g.ba)).setCell ⟨(w.heap.size + 1), 1, none⟩ (.string h.g.bs)).setCell ⟨(w.heap.size + 1), 2, none⟩ (.int .i64 h.g.cp)).setCell ⟨(w.heap.size + 1), 3, none⟩ (.int .i64 h.g.lm)).setCell ⟨(w.heap.size + 1), 4, none⟩ (.bool h.g.en)).setCell ⟨(w.heap.size + 1), 5, none⟩ (.bool h.g.dn)).setCell ⟨(w.heap.size + 1), 6, none⟩ (.int .i64 h.t.nx)).setCell ⟨(w.heap.size + 1), 7, none⟩ (.string h.t.bs)).setCell ⟨(w.heap.size + 1), 8, none⟩ (.slice a2 h.t.l.length c2)).setCell ⟨(w.heap.size + 1), 9, none⟩ (.int .i64 h.t.cp)).setCell ⟨(w.heap.size + 1), 10, none⟩ (.int .i64 h.t.fi)).setCell ⟨(w.heap.size + 1), 11, none⟩ (.bool h.t.en)).setCell ⟨(w.heap.size + 1), 12, none⟩ (.slice a4 h.ws.length c4))) (w.heap.size + 1) [.int .i64 h.g.ba, .string h.g.bs, .int .i64 h.g.cp, .int .i64 h.g.lm, .bool h.g.en, .bool h.g.dn, .int .i64 h.t.nx, .string h.t.bs, .slice a2 h.t.l.length c2, .int .i64 h.t.cp, .int .i64 h.t.fi, .bool h.t.en, .slice a4 h.ws.length c4] := (((((((((((((q2.set 0 _).set 1 _).set 2 _).set 3 _).set 4 _).set 5 _).set 6 _).set 7 _).set 8 _).set 9 _).set 10 _).set 11 _).set 12 _)
  have rT : Tak.partE.Own 136 ((((((((((((((W3.setCell ⟨(w.heap.size + 1), 0, none⟩ (.int .i64 h.g.ba)).setCell ⟨(w.heap.size + 1), 1, none⟩ (.string h.g.bs)).setCell ⟨(w.heap.size + 1), 2, none⟩ (.int .i64 h.g.cp)).setCell ⟨(w.heap.size + 1), 3, none⟩ (.int .i64 h.g.lm)).setCell ⟨(w.heap.size + 1), 4, none⟩ (.bool h.g.en)).setCell ⟨(w.heap.size + 1), 5, none⟩ (.bool h.g.dn)).setCell ⟨(w.heap.size + 1), 6, none⟩ (.int .i64 h.t.nx)).setCell ⟨(w.heap.size + 1), 7, none⟩ (.string h.t.bs)).setCell ⟨(w.heap.size + 1), 8, none⟩ (.slice a2 h.t.l.length c2)).setCell ⟨(w.heap.size + 1), 9, none⟩ (.int .i64 h.t.cp)).setCell ⟨(w.heap.size + 1), 10, none⟩ (.int .i64 h.t.fi)).setCell ⟨(w.heap.size + 1), 11, none⟩ (.bool h.t.en)).setCell ⟨(w.heap.size + 1), 12, none⟩ (.slice a4 h.ws.length c4))) w.heap.size a2 c2 h.t.l := by
    iterate 13 (refine El.Own.setCell ?_ (fun x hx => by have := (own_win (by decide) qT q2.win x hx); exact this) _)
    exact qT
  have rW : letE.Own 87 ((((((((((((((W3.setCell ⟨(w.heap.size + 1), 0, none⟩ (.int .i64 h.g.ba)).setCell ⟨(w.heap.size + 1), 1, none⟩ (.string h.g.bs)).setCell ⟨(w.heap.size + 1), 2, none⟩ (.int .i64 h.g.cp)).setCell ⟨(w.heap.size + 1), 3, none⟩ (.int .i64 h.g.lm)).setCell ⟨(w.heap.size + 1), 4, none⟩ (.bool h.g.en)).setCell ⟨(w.heap.size + 1), 5, none⟩ (.bool h.g.dn)).setCell ⟨(w.heap.size + 1), 6, none⟩ (.int .i64 h.t.nx)).setCell ⟨(w.heap.size + 1), 7, none⟩ (.string h.t.bs)).setCell ⟨(w.heap.size + 1), 8, none⟩ (.slice a2 h.t.l.length c2)).setCell ⟨(w.heap.size + 1), 9, none⟩ (.int .i64 h.t.cp)).setCell ⟨(w.heap.size + 1), 10, none⟩ (.int .i64 h.t.fi)).setCell ⟨(w.heap.size + 1), 11, none⟩ (.bool h.t.en)).setCell ⟨(w.heap.size + 1), 12, none⟩ (.slice a4 h.ws.length c4))) w.heap.size a4 c4 h.ws := by
    iterate 13 (refine El.Own.setCell ?_ (fun x hx => by have := (own_win (by decide) qW q2.win x hx); exact this) _)
    exact qW
  have rB : Below w.heap.size w ((((((((((((((W3.setCell ⟨(w.heap.size + 1), 0, none⟩ (.int .i64 h.g.ba)).setCell ⟨(w.heap.size + 1), 1, none⟩ (.string h.g.bs)).setCell ⟨(w.heap.size + 1), 2, none⟩ (.int .i64 h.g.cp)).setCell ⟨(w.heap.size + 1), 3, none⟩ (.int .i64 h.g.lm)).setCell ⟨(w.heap.size + 1), 4, none⟩ (.bool h.g.en)).setCell ⟨(w.heap.size + 1), 5, none⟩ (.bool h.g.dn)).setCell ⟨(w.heap.size + 1), 6, none⟩ (.int .i64 h.t.nx)).setCell ⟨(w.heap.size + 1), 7, none⟩ (.string h.t.bs)).setCell ⟨(w.heap.size + 1), 8, none⟩ (.slice a2 h.t.l.length c2)).setCell ⟨(w.heap.size + 1), 9, none⟩ (.int .i64 h.t.cp)).setCell ⟨(w.heap.size + 1), 10, none⟩ (.int .i64 h.t.fi)).setCell ⟨(w.heap.size + 1), 11, none⟩ (.bool h.t.en)).setCell ⟨(w.heap.size + 1), 12, none⟩ (.slice a4 h.ws.length c4))) := by
    iterate 13 (refine Below.setCell ?_ (by dsimp only; omega) _)
    exact qB
  generalize (((((((((((((W3.setCell ⟨(w.heap.size + 1), 0, none⟩ (.int .i64 h.g.ba)).setCell ⟨(w.heap.size + 1), 1, none⟩ (.string h.g.bs)).setCell ⟨(w.heap.size + 1), 2, none⟩ (.int .i64 h.g.cp)).setCell ⟨(w.heap.size + 1), 3, none⟩ (.int .i64 h.g.lm)).setCell ⟨(w.heap.size + 1), 4, none⟩ (.bool h.g.en)).setCell ⟨(w.heap.size + 1), 5, none⟩ (.bool h.g.dn)).setCell ⟨(w.heap.size + 1), 6, none⟩ (.int .i64 h.t.nx)).setCell ⟨(w.heap.size + 1), 7, none⟩ (.string h.t.bs)).setCell ⟨(w.heap.size + 1), 8, none⟩ (.slice a2 h.t.l.length c2)).setCell ⟨(w.heap.size + 1), 9, none⟩ (.int .i64 h.t.cp)).setCell ⟨(w.heap.size + 1), 10, none⟩ (.int .i64 h.t.fi)).setCell ⟨(w.heap.size + 1), 11, none⟩ (.bool h.t.en)).setCell ⟨(w.heap.size + 1), 12, none⟩ (.slice a4 h.ws.length c4)) = W4 at *
  have s0 := r2.cell (i := 0) rfl
  have s1 := r2.cell (i := 1) rfl
  have s2 := r2.cell (i := 2) rfl
  have s3 := r2.cell (i := 3) rfl
  have s4 := r2.cell (i := 4) rfl
  have s5 := r2.cell (i := 5) rfl
  have s6 := r2.cell (i := 6) rfl
  have s7 := r2.cell (i := 7) rfl
  have s8 := r2.cell (i := 8) rfl
  have s9 := r2.cell (i := 9) rfl
  have s10 := r2.cell (i := 10) rfl
  have s11 := r2.cell (i := 11) rfl
  have s12 := r2.cell (i := 12) rfl
  refine bodyPost_ret (v := h.v a2 c2 a4 c4) (by rw [res_one rfl]; clear q1 q2 qT qW qB r2 rT rW rB e0 f0 y0 e1 f1 y1 e2 f2 y2 e3 f3 y3 e4 f4 y4 e5 f5 y5 e6 f6 y6 e7 f7 y7 e8 f8 y8 e9 f9 y9 e10 f10 y10 e11 f11 y11 e12 f12 y12; go_simp; done) rfl ⟨a2, c2, a4, c4, rfl, rT, rW, rB⟩
end Go.Proofs.Ytldghgadkncehaa.Hop
