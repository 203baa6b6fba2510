/- The specification's l7Copy, Sends and Tells; of hops that are not too great. · Hops laid in memory; the specification's Sends and Tells; of hops that are not too great. -/
import Derived.Test.YtjnkjeajkmgcmaaGreatHopE
namespace Go.Proofs.YtjnkjeajkmgcmaaGreat.Hop
open Go.RowKit RowG
set_option linter.unusedVariables false
set_option linter.unusedSimpArgs false

theorem res_one {fn : Func} {p : Tmp} {ty : TypeId} (h : fn.results = #[.cell p ty]) (tmps : Array Value) (P : Program) (w : World) :
    (results fn tmps).run P w = ((asAddr (tmps.getD p undef)).run P w).andThen fun a w₁ => (loadVar ty a).run P w₁ := by
  simp only [results, h]
  simp [Sem.run_bind, Result.andThen]

set_option maxRecDepth 10000 in
set_option maxHeartbeats 8000000 in
theorem l7Copy (h : Hp) (aT : Option Addr) (cT : Nat) (aW : Option Addr) (cW : Nat) (w : World) (hT : Tak.partE.Lies w aT h.t.l) (hW : letE.Lies w aW h.ws) (hnT : aT = none → cT = 0) (hnW : aW = none → cW = 0) (hlT : h.t.l.length ≤ 524288) (hlW : h.ws.length ≤ 524288) :
    Calls Tryz.prog 28 #[h.v aT cT aW cW] w fun e w' => ∃ aT' cT' aW' cW', e = .returned (h.v aT' cT' aW' cW') ∧ Tak.partE.Own 69 w' w.heap.size aT' cT' h.t.l ∧ letE.Own 39 w' w.heap.size aW' cW' h.ws ∧ Below w.heap.size w w' := by
  have v1 : Var 31 ((w.alloc (.cells #[.int .i64 h.g.ba, .string h.g.bs, .int .i64 h.g.cp, .int .i64 h.g.lm, .bool h.g.en, .bool h.g.dn, .int .i64 h.t.nx, .string h.t.bs, .slice aT h.t.l.length cT, .int .i64 h.t.cp, .int .i64 h.t.fi, .bool h.t.en, .slice aW h.ws.length cW] 31)).alloc (.cells #[.int .i64 0, .string ⟨#[]⟩, .int .i64 0, .int .i64 0, .bool false, .bool false, .int .i64 0, .string ⟨#[]⟩, .slice none 0 0, .int .i64 0, .int .i64 0, .bool false, .slice none 0 0] 31)) w.heap.size [.int .i64 h.g.ba, .string h.g.bs, .int .i64 h.g.cp, .int .i64 h.g.lm, .bool h.g.en, .bool h.g.dn, .int .i64 h.t.nx, .string h.t.bs, .slice aT h.t.l.length cT, .int .i64 h.t.cp, .int .i64 h.t.fi, .bool h.t.en, .slice aW h.ws.length cW] := (Var.new w [.int .i64 h.g.ba, .string h.g.bs, .int .i64 h.g.cp, .int .i64 h.g.lm, .bool h.g.en, .bool h.g.dn, .int .i64 h.t.nx, .string h.t.bs, .slice aT h.t.l.length cT, .int .i64 h.t.cp, .int .i64 h.t.fi, .bool h.t.en, .slice aW h.ws.length cW]).alloc _
  have v2 : Var 31 ((w.alloc (.cells #[.int .i64 h.g.ba, .string h.g.bs, .int .i64 h.g.cp, .int .i64 h.g.lm, .bool h.g.en, .bool h.g.dn, .int .i64 h.t.nx, .string h.t.bs, .slice aT h.t.l.length cT, .int .i64 h.t.cp, .int .i64 h.t.fi, .bool h.t.en, .slice aW h.ws.length cW] 31)).alloc (.cells #[.int .i64 0, .string ⟨#[]⟩, .int .i64 0, .int .i64 0, .bool false, .bool false, .int .i64 0, .string ⟨#[]⟩, .slice none 0 0, .int .i64 0, .int .i64 0, .bool false, .slice none 0 0] 31)) (w.heap.size + 1) [.int .i64 0, .string ⟨#[]⟩, .int .i64 0, .int .i64 0, .bool false, .bool false, .int .i64 0, .string ⟨#[]⟩, .slice none 0 0, .int .i64 0, .int .i64 0, .bool false, .slice none 0 0] := by
    have q := Var.new (T := 31) (w.alloc (.cells #[.int .i64 h.g.ba, .string h.g.bs, .int .i64 h.g.cp, .int .i64 h.g.lm, .bool h.g.en, .bool h.g.dn, .int .i64 h.t.nx, .string h.t.bs, .slice aT h.t.l.length cT, .int .i64 h.t.cp, .int .i64 h.t.fi, .bool h.t.en, .slice aW h.ws.length cW] 31)) [.int .i64 0, .string ⟨#[]⟩, .int .i64 0, .int .i64 0, .bool false, .bool false, .int .i64 0, .string ⟨#[]⟩, .slice none 0 0, .int .i64 0, .int .i64 0, .bool false, .slice none 0 0]
    simpa using q
  have b0 : Below w.heap.size w ((w.alloc (.cells #[.int .i64 h.g.ba, .string h.g.bs, .int .i64 h.g.cp, .int .i64 h.g.lm, .bool h.g.en, .bool h.g.dn, .int .i64 h.t.nx, .string h.t.bs, .slice aT h.t.l.length cT, .int .i64 h.t.cp, .int .i64 h.t.fi, .bool h.t.en, .slice aW h.ws.length cW] 31)).alloc (.cells #[.int .i64 0, .string ⟨#[]⟩, .int .i64 0, .int .i64 0, .bool false, .bool false, .int .i64 0, .string ⟨#[]⟩, .slice none 0 0, .int .i64 0, .int .i64 0, .bool false, .slice none 0 0] 31)) := ((Below.refl _ _).alloc (Nat.le_refl _) _).alloc (by simp) _
  have lT := hT.later b0
  have lW := hW.later b0
  have hC := fun w' l' => Tak.l5Copy h.t.nx h.t.bs aT h.t.l.length cT h.t.cp h.t.fi h.t.en h.t.l w' rfl l' (by omega) hnT
  have HC : Hid _ := hC
  clear hC
  go_enter Tryz.func28, Tryz.ntmps28
  go_upto_region 1 with (fail)
  generalize (w.alloc (.cells #[.int .i64 h.g.ba, .string h.g.bs, .int .i64 h.g.cp, .int .i64 h.g.lm, .bool h.g.en, .bool h.g.dn, .int .i64 h.t.nx, .string h.t.bs, .slice aT h.t.l.length cT, .int .i64 h.t.cp, .int .i64 h.t.fi, .bool h.t.en, .slice aW h.ws.length cW] 31)).alloc (.cells #[.int .i64 0, .string ⟨#[]⟩, .int .i64 0, .int .i64 0, .bool false, .bool false, .int .i64 0, .string ⟨#[]⟩, .slice none 0 0, .int .i64 0, .int .i64 0, .bool false, .slice none 0 0] 31) = V at *
  obtain ⟨e0, e1, e2, e3, e4, e5, e6, e7, e8, e9, e10, e11, e12⟩ := v1.c13
  have hV1 : w.heap.size < V.heap.size := v1.lt
  have hV2 : w.heap.size + 1 < V.heap.size := v2.lt
  go_wp2_with fail
  refine (HC.out _ lT).mono ?_
  rintro e w1 ⟨a2, c2, rfl, oT, b1⟩
  replace v1 := v1.later b1
  replace v2 := v2.later b1
  replace lW := lW.later b1
  have B1 := b0.trans (b1.mono b0.size)
  clear HC b1 b0 lT e0 e1 e2 e3 e4 e5 e6 e7 e8 e9 e10 e11 e12
  obtain ⟨e0, e1, e2, e3, e4, e5, e6, e7, e8, e9, e10, e11, e12⟩ := v1.c13
  have y6 := v1.free 6
  have y7 := v1.free 7
  have y8 := v1.free 8
  have y9 := v1.free 9
  have y10 := v1.free 10
  have y11 := v1.free 11
  go_upto_region 2 with (fail)
  have x1 : Var 31 (((((((w1.setCell ⟨w.heap.size, 6, none⟩ (.int .i64 h.t.nx)).setCell ⟨w.heap.size, 7, none⟩ (.string h.t.bs)).setCell ⟨w.heap.size, 8, none⟩ (.slice a2 h.t.l.length c2)).setCell ⟨w.heap.size, 9, none⟩ (.int .i64 h.t.cp)).setCell ⟨w.heap.size, 10, none⟩ (.int .i64 h.t.fi)).setCell ⟨w.heap.size, 11, none⟩ (.bool h.t.en))) w.heap.size [.int .i64 h.g.ba, .string h.g.bs, .int .i64 h.g.cp, .int .i64 h.g.lm, .bool h.g.en, .bool h.g.dn, .int .i64 h.t.nx, .string h.t.bs, .slice a2 h.t.l.length c2, .int .i64 h.t.cp, .int .i64 h.t.fi, .bool h.t.en, .slice aW h.ws.length cW] := ((((((v1.set 6 _).set 7 _).set 8 _).set 9 _).set 10 _).set 11 _)
  have x2 : Var 31 (((((((w1.setCell ⟨w.heap.size, 6, none⟩ (.int .i64 h.t.nx)).setCell ⟨w.heap.size, 7, none⟩ (.string h.t.bs)).setCell ⟨w.heap.size, 8, none⟩ (.slice a2 h.t.l.length c2)).setCell ⟨w.heap.size, 9, none⟩ (.int .i64 h.t.cp)).setCell ⟨w.heap.size, 10, none⟩ (.int .i64 h.t.fi)).setCell ⟨w.heap.size, 11, none⟩ (.bool h.t.en))) (w.heap.size + 1) [.int .i64 0, .string ⟨#[]⟩, .int .i64 0, .int .i64 0, .bool false, .bool false, .int .i64 0, .string ⟨#[]⟩, .slice none 0 0, .int .i64 0, .int .i64 0, .bool false, .slice none 0 0] := by
    iterate 6 (refine Var.other ?_ (by simp) _)
    exact v2
  have xT : Tak.partE.Own 69 (((((((w1.setCell ⟨w.heap.size, 6, none⟩ (.int .i64 h.t.nx)).setCell ⟨w.heap.size, 7, none⟩ (.string h.t.bs)).setCell ⟨w.heap.size, 8, none⟩ (.slice a2 h.t.l.length c2)).setCell ⟨w.heap.size, 9, none⟩ (.int .i64 h.t.cp)).setCell ⟨w.heap.size, 10, none⟩ (.int .i64 h.t.fi)).setCell ⟨w.heap.size, 11, none⟩ (.bool h.t.en))) w.heap.size a2 c2 h.t.l := by
    iterate 6 (refine El.Own.setCell ?_ (fun x hx => by have := (oT.lt x hx).1; dsimp only; omega) _)
    exact oT.mono (by omega)
  have xB : Below w.heap.size w (((((((w1.setCell ⟨w.heap.size, 6, none⟩ (.int .i64 h.t.nx)).setCell ⟨w.heap.size, 7, none⟩ (.string h.t.bs)).setCell ⟨w.heap.size, 8, none⟩ (.slice a2 h.t.l.length c2)).setCell ⟨w.heap.size, 9, none⟩ (.int .i64 h.t.cp)).setCell ⟨w.heap.size, 10, none⟩ (.int .i64 h.t.fi)).setCell ⟨w.heap.size, 11, none⟩ (.bool h.t.en))) := by
    iterate 6 (refine Below.setCell ?_ (by dsimp only; omega) _)
    exact B1
  have xs1 : w.heap.size < (((((((w1.setCell ⟨w.heap.size, 6, none⟩ (.int .i64 h.t.nx)).setCell ⟨w.heap.size, 7, none⟩ (.string h.t.bs)).setCell ⟨w.heap.size, 8, none⟩ (.slice a2 h.t.l.length c2)).setCell ⟨w.heap.size, 9, none⟩ (.int .i64 h.t.cp)).setCell ⟨w.heap.size, 10, none⟩ (.int .i64 h.t.fi)).setCell ⟨w.heap.size, 11, none⟩ (.bool h.t.en))).heap.size := x1.lt
  have xs2 : w.heap.size + 1 < (((((((w1.setCell ⟨w.heap.size, 6, none⟩ (.int .i64 h.t.nx)).setCell ⟨w.heap.size, 7, none⟩ (.string h.t.bs)).setCell ⟨w.heap.size, 8, none⟩ (.slice a2 h.t.l.length c2)).setCell ⟨w.heap.size, 9, none⟩ (.int .i64 h.t.cp)).setCell ⟨w.heap.size, 10, none⟩ (.int .i64 h.t.fi)).setCell ⟨w.heap.size, 11, none⟩ (.bool h.t.en))).heap.size := x2.lt
  generalize ((((((w1.setCell ⟨w.heap.size, 6, none⟩ (.int .i64 h.t.nx)).setCell ⟨w.heap.size, 7, none⟩ (.string h.t.bs)).setCell ⟨w.heap.size, 8, none⟩ (.slice a2 h.t.l.length c2)).setCell ⟨w.heap.size, 9, none⟩ (.int .i64 h.t.cp)).setCell ⟨w.heap.size, 10, none⟩ (.int .i64 h.t.fi)).setCell ⟨w.heap.size, 11, none⟩ (.bool h.t.en)) = W1 at *
  clear v1 v2 oT lW B1 e0 e1 e2 e3 e4 e5 e6 e7 e8 e9 e10 e11 e12 y6 y7 y8 y9 y10 y11
  have bA : Below w.heap.size w (W1.alloc (.cells #[] 39)) := xB.alloc xB.size _
  have z1 := x1.alloc (.cells #[] 39)
  have z2 := x2.alloc (.cells #[] 39)
  have zT := xT.alloc (.cells #[] 39)
  have zW := hW.later bA
  have oA := El.Own.made (E := letE) (T := 39) W1
  have hz : ([] : List Lt).length + h.ws.length ≤ 4194304 := by simp; omega
  have hBA : W1.heap.size ≤ (W1.alloc (.cells #[] 39)).heap.size := by simp
  have c12 := z1.cell (i := 12) rfl
  go_wp2_with (at_builtin; refine wpList_app typ (by decide) (by rfl) _ _ (by rfl) W1.heap.size (some ⟨W1.heap.size, 0, none⟩) 0 0 [] h.ws rfl (by rfl) oA hBA aW h.ws.length cW rfl (by rfl) zW hnW hz ?_; intro a4 c4 w4 o4 g4; refine Tak.stand ?_)
  rw [List.nil_append] at o4
  have p1 := z1.grown g4 (by intro g hg; simp [blk] at hg; omega)
  have p2 := z2.grown g4 (by intro g hg; simp [blk] at hg; omega)
  have pT := zT.grown g4 (by intro x hx; have := (xT.lt x hx).2; simp [blk]; omega)
  have pB := grown_below bA (Nat.le_refl _) (by intro g hg; simp [blk] at hg; omega) g4
  clear bA z1 z2 zT zW oA hz hBA c12 g4
  show wpList _ _ _ _ _ _
  have c12 := p1.cell (i := 12) rfl
  have f12 := p1.free 12
  (try rw [Nat.zero_add])
  go_upto_region 3 with (fail)
  have q1 : Var 31 ((w4.setCell ⟨w.heap.size, 12, none⟩ (.slice a4 h.ws.length c4))) w.heap.size [.int .i64 h.g.ba, .string h.g.bs, .int .i64 h.g.cp, .int .i64 h.g.lm, .bool h.g.en, .bool h.g.dn, .int .i64 h.t.nx, .string h.t.bs, .slice a2 h.t.l.length c2, .int .i64 h.t.cp, .int .i64 h.t.fi, .bool h.t.en, .slice a4 h.ws.length c4] := (p1.set 12 _)
  have q2 : Var 31 ((w4.setCell ⟨w.heap.size, 12, none⟩ (.slice a4 h.ws.length c4))) (w.heap.size + 1) [.int .i64 0, .string ⟨#[]⟩, .int .i64 0, .int .i64 0, .bool false, .bool false, .int .i64 0, .string ⟨#[]⟩, .slice none 0 0, .int .i64 0, .int .i64 0, .bool false, .slice none 0 0] := p2.other (by simp) _
  have qT : Tak.partE.Own 69 ((w4.setCell ⟨w.heap.size, 12, none⟩ (.slice a4 h.ws.length c4))) w.heap.size a2 c2 h.t.l := pT.setCell (fun x hx => by have := (own_win (by decide) pT p1.win x hx); exact this) _
  have qW : letE.Own 39 ((w4.setCell ⟨w.heap.size, 12, none⟩ (.slice a4 h.ws.length c4))) w.heap.size a4 c4 h.ws := (o4.mono (by omega)).setCell (fun x hx => by have := (o4.lt x hx).1; dsimp only; omega) _
  have qB : Below w.heap.size w ((w4.setCell ⟨w.heap.size, 12, none⟩ (.slice a4 h.ws.length c4))) := pB.setCell (by dsimp only; omega) _
  generalize (w4.setCell ⟨w.heap.size, 12, none⟩ (.slice a4 h.ws.length c4)) = W3 at *
  clear p1 p2 pT pB o4 c12 f12 x1 x2 xT xB
  obtain ⟨e0, e1, e2, e3, e4, e5, e6, e7, e8, e9, e10, e11, e12⟩ := q1.c13
  obtain ⟨f0, f1, f2, f3, f4, f5, f6, f7, f8, f9, f10, f11, f12⟩ := q2.c13
  obtain ⟨y0, y1, y2, y3, y4, y5, y6, y7, y8, y9, y10, y11, y12⟩ := q2.f13
  go_wp2_with fail
  have r2 : Var 31 ((((((((((((((W3.setCell ⟨(w.heap.size + 1), 0, none⟩ (.int .i64 h.g.ba)).setCell ⟨(w.heap.size + 1), 1, none⟩ (.string h.g.bs)).setCell ⟨(w.heap.size + 1), 2, none⟩ (.int .i64 h.g.cp)).setCell ⟨(w.heap.size + 1), 3, none⟩ (.int .i64 h.g.lm)).setCell ⟨(w.heap.size + 1), 4, none⟩ (.bool h.g.en)).setCell ⟨(w.heap.size + 1), 5, none⟩ (.bool h.g.dn)).setCell ⟨(w.heap.size + 1), 6, none⟩ (.int .i64 h.t.nx)).setCell ⟨(w.heap.size + 1), 7, none⟩ (.string h.t.bs)).setCell ⟨(w.heap.size + 1), 8, none⟩ (.slice a2 h.t.l.length c2)).setCell ⟨(w.heap.size + 1), 9, none⟩ (.int .i64 h.t.cp)).setCell ⟨(w.heap.size + 1), 10, none⟩ (.int .i64 h.t.fi)).setCell ⟨(w.heap.size + 1), 11, none⟩ (.bool h.t.en)).setCell ⟨(w.heap.size + 1), 12, none⟩ (.slice a4 h.ws.length c4))) (w.heap.size + 1) [.int .i64 h.g.ba, .string h.g.bs, .int .i64 h.g.cp, .int .i64 h.g.lm, .bool h.g.en, .bool h.g.dn, .int .i64 h.t.nx, .string h.t.bs, .slice a2 h.t.l.length c2, .int .i64 h.t.cp, .int .i64 h.t.fi, .bool h.t.en, .slice a4 h.ws.length c4] := (((((((((((((q2.set 0 _).set 1 _).set 2 _).set 3 _).set 4 _).set 5 _).set 6 _).set 7 _).set 8 _).set 9 _).set 10 _).set 11 _).set 12 _)
  have rT : Tak.partE.Own 69 ((((((((((((((W3.setCell ⟨(w.heap.size + 1), 0, none⟩ (.int .i64 h.g.ba)).setCell ⟨(w.heap.size + 1), 1, none⟩ (.string h.g.bs)).setCell ⟨(w.heap.size + 1), 2, none⟩ (.int .i64 h.g.cp)).setCell ⟨(w.heap.size + 1), 3, none⟩ (.int .i64 h.g.lm)).setCell ⟨(w.heap.size + 1), 4, none⟩ (.bool h.g.en)).setCell ⟨(w.heap.size + 1), 5, none⟩ (.bool h.g.dn)).setCell ⟨(w.heap.size + 1), 6, none⟩ (.int .i64 h.t.nx)).setCell ⟨(w.heap.size + 1), 7, none⟩ (.string h.t.bs)).setCell ⟨(w.heap.size + 1), 8, none⟩ (.slice a2 h.t.l.length c2)).setCell ⟨(w.heap.size + 1), 9, none⟩ (.int .i64 h.t.cp)).setCell ⟨(w.heap.size + 1), 10, none⟩ (.int .i64 h.t.fi)).setCell ⟨(w.heap.size + 1), 11, none⟩ (.bool h.t.en)).setCell ⟨(w.heap.size + 1), 12, none⟩ (.slice a4 h.ws.length c4))) w.heap.size a2 c2 h.t.l := by
    iterate 13 (refine El.Own.setCell ?_ (fun x hx => by have := (own_win (by decide) qT q2.win x hx); exact this) _)
    exact qT
  have rW : letE.Own 39 ((((((((((((((W3.setCell ⟨(w.heap.size + 1), 0, none⟩ (.int .i64 h.g.ba)).setCell ⟨(w.heap.size + 1), 1, none⟩ (.string h.g.bs)).setCell ⟨(w.heap.size + 1), 2, none⟩ (.int .i64 h.g.cp)).setCell ⟨(w.heap.size + 1), 3, none⟩ (.int .i64 h.g.lm)).setCell ⟨(w.heap.size + 1), 4, none⟩ (.bool h.g.en)).setCell ⟨(w.heap.size + 1), 5, none⟩ (.bool h.g.dn)).setCell ⟨(w.heap.size + 1), 6, none⟩ (.int .i64 h.t.nx)).setCell ⟨(w.heap.size + 1), 7, none⟩ (.string h.t.bs)).setCell ⟨(w.heap.size + 1), 8, none⟩ (.slice a2 h.t.l.length c2)).setCell ⟨(w.heap.size + 1), 9, none⟩ (.int .i64 h.t.cp)).setCell ⟨(w.heap.size + 1), 10, none⟩ (.int .i64 h.t.fi)).setCell ⟨(w.heap.size + 1), 11, none⟩ (.bool h.t.en)).setCell ⟨(w.heap.size + 1), 12, none⟩ (.slice a4 h.ws.length c4))) w.heap.size a4 c4 h.ws := by
    iterate 13 (refine El.Own.setCell ?_ (fun x hx => by have := (own_win (by decide) qW q2.win x hx); exact this) _)
    exact qW
  have rB : Below w.heap.size w ((((((((((((((W3.setCell ⟨(w.heap.size + 1), 0, none⟩ (.int .i64 h.g.ba)).setCell ⟨(w.heap.size + 1), 1, none⟩ (.string h.g.bs)).setCell ⟨(w.heap.size + 1), 2, none⟩ (.int .i64 h.g.cp)).setCell ⟨(w.heap.size + 1), 3, none⟩ (.int .i64 h.g.lm)).setCell ⟨(w.heap.size + 1), 4, none⟩ (.bool h.g.en)).setCell ⟨(w.heap.size + 1), 5, none⟩ (.bool h.g.dn)).setCell ⟨(w.heap.size + 1), 6, none⟩ (.int .i64 h.t.nx)).setCell ⟨(w.heap.size + 1), 7, none⟩ (.string h.t.bs)).setCell ⟨(w.heap.size + 1), 8, none⟩ (.slice a2 h.t.l.length c2)).setCell ⟨(w.heap.size + 1), 9, none⟩ (.int .i64 h.t.cp)).setCell ⟨(w.heap.size + 1), 10, none⟩ (.int .i64 h.t.fi)).setCell ⟨(w.heap.size + 1), 11, none⟩ (.bool h.t.en)).setCell ⟨(w.heap.size + 1), 12, none⟩ (.slice a4 h.ws.length c4))) := by
    iterate 13 (refine Below.setCell ?_ (by dsimp only; omega) _)
    exact qB
  generalize (((((((((((((W3.setCell ⟨(w.heap.size + 1), 0, none⟩ (.int .i64 h.g.ba)).setCell ⟨(w.heap.size + 1), 1, none⟩ (.string h.g.bs)).setCell ⟨(w.heap.size + 1), 2, none⟩ (.int .i64 h.g.cp)).setCell ⟨(w.heap.size + 1), 3, none⟩ (.int .i64 h.g.lm)).setCell ⟨(w.heap.size + 1), 4, none⟩ (.bool h.g.en)).setCell ⟨(w.heap.size + 1), 5, none⟩ (.bool h.g.dn)).setCell ⟨(w.heap.size + 1), 6, none⟩ (.int .i64 h.t.nx)).setCell ⟨(w.heap.size + 1), 7, none⟩ (.string h.t.bs)).setCell ⟨(w.heap.size + 1), 8, none⟩ (.slice a2 h.t.l.length c2)).setCell ⟨(w.heap.size + 1), 9, none⟩ (.int .i64 h.t.cp)).setCell ⟨(w.heap.size + 1), 10, none⟩ (.int .i64 h.t.fi)).setCell ⟨(w.heap.size + 1), 11, none⟩ (.bool h.t.en)).setCell ⟨(w.heap.size + 1), 12, none⟩ (.slice a4 h.ws.length c4)) = W4 at *
  obtain ⟨s0, s1, s2, s3, s4, s5, s6, s7, s8, s9, s10, s11, s12⟩ := r2.c13
  refine bodyPost_ret (v := h.v a2 c2 a4 c4) (by rw [res_one rfl]; clear q1 q2 qT qW qB r2 rT rW rB e0 f0 y0 e1 f1 y1 e2 f2 y2 e3 f3 y3 e4 f4 y4 e5 f5 y5 e6 f6 y6 e7 f7 y7 e8 f8 y8 e9 f9 y9 e10 f10 y10 e11 f11 y11 e12 f12 y12; go_simp; done) rfl ⟨a2, c2, a4, c4, rfl, rT, rW, rB⟩

end Go.Proofs.YtjnkjeajkmgcmaaGreat.Hop

namespace Go.Proofs.YtjnkjeajkmgcmaaGreat.Hop
open Go.RowKit RowG
set_option linter.unusedVariables false
set_option linter.unusedSimpArgs false

def zeroH : Hp := ⟨Giv.zeroG, Tak.zeroK, []⟩
def Lay (T : TypeId) (pre post : List Value) (ow : Nat) (w : World) (B k : Nat) (h : Hp) : Prop :=
  ∃ aT cT aW cW, Win T pre post ow w k (h.c aT cT aW cW) ∧ Tak.partE.Own 69 w B aT cT h.t.l ∧ letE.Own 39 w B aW cW h.ws
structure KB (B k : Nat) (w w' : World) : Prop where
  os : w'.os = w.os
  tape : w'.tape = w.tape
  output : w'.output = w.output
  size : w.heap.size ≤ w'.heap.size
  block : ∀ i, i < B → i ≠ k → w'.heap[i]? = w.heap[i]?
theorem KB.refl (B k : Nat) (w : World) : KB B k w w := ⟨rfl, rfl, rfl, Nat.le_refl _, fun _ _ _ => rfl⟩
theorem KB.trans {B k : Nat} {a b d : World} (h : KB B k a b) (h' : KB B k b d) : KB B k a d := ⟨h'.os.trans h.os, h'.tape.trans h.tape, h'.output.trans h.output, Nat.le_trans h.size h'.size, fun i hi hk => (h'.block i hi hk).trans (h.block i hi hk)⟩
theorem KB.ofKept {B k : Nat} {w w' : World} (h : Draw.Kept k w w') (hB : B ≤ w.heap.size) : KB B k w w' := ⟨h.os, h.tape, h.output, h.size, fun i hi hk => h.block i (by omega) hk⟩
theorem KB.ofKeep {B k : Nat} {r : Option Nat} {w w' : World} (h : Keep k r w w') (hB : B ≤ w.heap.size) (hr : ∀ i, r = some i → B ≤ i) : KB B k w w' := ⟨h.os, h.tape, h.output, h.size, fun i hi hk => h.block i (by omega) hk (fun e => by have := hr i e.symm; omega)⟩
theorem KB.ofBelow {B k : Nat} {w w' : World} (h : Below w.heap.size w w') (hB : B ≤ w.heap.size) : KB B k w w' := ⟨h.os, h.tape, h.output, h.size, fun i hi hk => h.block i (by omega)⟩
theorem KB.below {B B' k : Nat} {w w' : World} (h : KB B k w w') (h1 : B' ≤ B) (h2 : B' ≤ k) : Below B' w w' := ⟨h.os, h.tape, h.output, h.size, fun i hi => h.block i (by omega) (by omega)⟩
theorem KB.var {B k i : Nat} {T : TypeId} {vs : List Value} {w w' : World} (h : KB B k w w') (v : Var T w i vs) (h1 : i < B) (h2 : i ≠ k) : Var T w' i vs := v.same (h.block i h1 h2)
theorem blk_ge {α : Type} {E : El α} {T : TypeId} {w : World} {B : Nat} {a : Option Addr} {c : Nat} {l : List α} (o : E.Own T w B a c l) : ∀ i, blk a = some i → B ≤ i := by
  intro i hi
  cases a with
  | none => simp [blk] at hi
  | some x =>
    simp [blk] at hi
    have := (o.lt x rfl).1
    omega
theorem Lay.later {T : TypeId} {pre post : List Value} {ow : Nat} {w w' : World} {B k : Nat} {h : Hp} (l : Lay T pre post ow w B k h) (b : Below w.heap.size w w') : Lay T pre post ow w' B k h := by
  obtain ⟨aT, cT, aW, cW, v, o1, o2⟩ := l
  exact ⟨aT, cT, aW, cW, v.later b, o1.later b, o2.later b⟩
theorem Lay.kept {T : TypeId} {pre post : List Value} {ow : Nat} {w w' : World} {B k c : Nat} {h : Hp} (l : Lay T pre post ow w B k h) (b : Draw.Kept c w w') (h1 : c < B) (h2 : c ≠ k) : Lay T pre post ow w' B k h := by
  obtain ⟨aT, cT, aW, cW, v, o1, o2⟩ := l
  exact ⟨aT, cT, aW, cW, v.kept b (Ne.symm h2), o1.kept b (fun x hx => by have := (o1.lt x hx).1; omega), o2.kept b (fun x hx => by have := (o2.lt x hx).1; omega)⟩
theorem Lay.drew {T : TypeId} {pre post : List Value} {ow : Nat} {w : World} {B k : Nat} {h : Hp} (l : Lay T pre post ow w B k h) : Lay T pre post ow w.drew B k h := by
  obtain ⟨aT, cT, aW, cW, v, o1, o2⟩ := l
  exact ⟨aT, cT, aW, cW, v.drew, o1.drew, o2.drew⟩
theorem Lay.alloc {T : TypeId} {pre post : List Value} {ow : Nat} {w : World} {B k : Nat} {h : Hp} (l : Lay T pre post ow w B k h) (o : Obj) : Lay T pre post ow (w.alloc o) B k h := l.later ((Below.refl _ _).alloc (Nat.le_refl _) _)

theorem sendLay {T : TypeId} {pre post : List Value} {ow : Nat} (hT : T ≠ 39) (hT2 : T ≠ 69) (k B : Nat) (h : Hp) (road p n : Int) (w : World) (hl : Lay T pre post ow w B k h) (hB : B ≤ w.heap.size) (hn : h.ws.length ≤ 524288) (hg : h.g.ok = true) :
    Calls Tryz.prog 72 #[.pointer (some ⟨k, ow, none⟩), .int .i64 road, .int .i64 p, .int .i64 n] w fun e w' => e = .returned (.bool (sendH h road p n).2) ∧ Lay T pre post ow w' B k (sendH h road p n).1 ∧ KB B k w w' := by
  obtain ⟨aT, cT, aW, cW, v, o1, o2⟩ := hl
  refine (l7Send hT k B h aT cT aW cW road p n w v o2 hB hn hg).mono ?_
  rintro e w' ⟨a', c', rfl, v', o', k'⟩
  refine ⟨rfl, ⟨aT, cT, a', c', v', ?_, o'⟩, KB.ofKeep k' hB (blk_ge o2)⟩
  have : (sendH h road p n).1.t = h.t := by unfold sendH; split <;> simp [postH] <;> split <;> rfl
  rw [this]
  exact o1.keep k' (own_win hT2 o1 v) (own_two (by decide) o1 o2)

theorem tellLay {T : TypeId} {pre post : List Value} {ow : Nat} (hT : T ≠ 39) (hT2 : T ≠ 69) (hT3 : T ≠ 28) (k B : Nat) (h : Hp) (road : Int) (done : Bool) (w : World) (hl : Lay T pre post ow w B k h) (hB : B ≤ w.heap.size) (hn : h.ws.length ≤ 524288) (ht : h.t.ok = true) :
    Calls Tryz.prog 73 #[.pointer (some ⟨k, ow, none⟩), .int .i64 road, .bool done] w fun e w' => e = .returned (.bool (tellH h road done).2) ∧ Lay T pre post ow w' B k (tellH h road done).1 ∧ KB B k w w' := by
  obtain ⟨aT, cT, aW, cW, v, o1, o2⟩ := hl
  have hin : Tak.inT h.t.nx h.t.bs h.t.l h.t.cp := by
    unfold Tak.Tk.ok Tak.takerB at ht
    simp only [Bool.and_eq_true, decide_eq_true_eq] at ht
    exact ht.1
  unfold Tak.inT at hin
  refine (l7Tell hT hT3 k B h aT cT aW cW road done w v o2 hB hn ⟨by omega, by omega⟩ (by omega) ⟨by omega, by omega⟩).mono ?_
  rintro e w' ⟨a', c', rfl, v', o', k'⟩
  refine ⟨rfl, ⟨aT, cT, a', c', v', ?_, o'⟩, KB.ofKeep k' hB (blk_ge o2)⟩
  have : (tellH h road done).1.t = h.t := by unfold tellH; simp [postH]; split <;> rfl
  rw [this]
  exact o1.keep k' (own_win hT2 o1 v) (own_two (by decide) o1 o2)

end Go.Proofs.YtjnkjeajkmgcmaaGreat.Hop
