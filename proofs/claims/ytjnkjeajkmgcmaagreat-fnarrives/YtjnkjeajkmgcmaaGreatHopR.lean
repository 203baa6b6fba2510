/- The program's Clone of letters, ownHop and posted; of hops that are not too great. -/
import Derived.Test.YtjnkjeajkmgcmaaGreatMg16
import Derived.Test.YtjnkjeajkmgcmaaGreatMg10
namespace Go.Proofs.YtjnkjeajkmgcmaaGreat.Hop
open Go.RowKit RowG
set_option linter.unusedVariables false
set_option linter.unusedSimpArgs false

set_option maxRecDepth 10000 in
set_option maxHeartbeats 1000000 in
theorem cloneL (a : Option Addr) (n c : Nat) (l : List Lt) (w : World) (hn : n = l.length) (h : letE.Lies w a l) (hl : l.length ≤ 2097152) (ha : a = none → c = 0) :
    Calls Tryz.prog 50 #[.slice a n c] w fun x w' => ∃ a' c', x = .returned (.slice a' l.length c') ∧ letE.Own 39 w' w.heap.size a' c' l ∧ Below w.heap.size w w' := by
  subst hn
  have q24 : ∀ (w : World) (a : Option Addr) (n c n' c' : Nat), (binOp .eql 29 (.slice a n c) (.slice none n' c')).run Tryz.prog w = .ok (.bool a.isNone) w := fun w a n c n' c' => Lib.run_eql_slice_nil w _ 39 a n c n' c' (by kernel_rfl)
  cases a with
  | none =>
    obtain rfl : l = [] := by
      rcases h with e | ⟨_, _, e, _⟩
      · exact e
      · cases e
    obtain rfl := ha rfl
    clear h ha hl
    go_enter Tryz.func50, Tryz.ntmps50
    go_wp2_with fail
    go_ret
    exact ⟨none, 0, rfl, El.Own.none _ _, Below.refl _ _⟩
  | some x =>
    have b1 : Below w.heap.size w (w.alloc (.cells #[] 39)) := (Below.refl _ _).alloc (Nat.le_refl _) _
    have o0 := El.Own.made (E := letE) (T := 39) w
    have l0 := h.later b1
    have hz : ([] : List Lt).length + l.length ≤ 4194304 := by simp; omega
    clear ha h hl
    go_enter Tryz.func50, Tryz.ntmps50
    go_wp2_with (at_builtin; refine wpList_app typ (by decide) (by rfl) _ _ (by rfl) w.heap.size (some ⟨w.heap.size, 0, none⟩) 0 0 [] l rfl (by rfl) o0 (by simp) (some x) l.length c rfl (by rfl) l0 (by simp) hz ?_; intro a' c' w3 o3 g3; refine Tak.stand ?_)
    have B3 := grown_below b1 (Nat.le_refl _) (by intro g hg; simp [blk] at hg; omega) g3
    rw [List.nil_append] at o3
    show wpList _ _ _ _ _ _
    go_wp2_with fail
    go_ret
    exact ⟨a', c', rfl, o3, B3⟩

set_option maxRecDepth 10000 in
set_option maxHeartbeats 8000000 in
theorem ownHop (h : Hp) (aT : Option Addr) (cT : Nat) (aW : Option Addr) (cW : Nat) (w : World) (hT : Tak.partE.Lies w aT h.t.l) (hW : letE.Lies w aW h.ws) (hnT : aT = none → cT = 0) (hnW : aW = none → cW = 0) (hlT : h.t.l.length ≤ 524288) (hlW : h.ws.length ≤ 524288) :
    Calls Tryz.prog 23 #[h.v aT cT aW cW] w fun e w' => ∃ aT' cT' aW' cW', e = .returned (h.v aT' cT' aW' cW') ∧ Tak.partE.Own 69 w' w.heap.size aT' cT' h.t.l ∧ letE.Own 39 w' w.heap.size aW' cW' h.ws ∧ Below w.heap.size w w' := by
  have v1 : Var 31 ((w.alloc (.cells #[.int .i64 h.g.ba, .string h.g.bs, .int .i64 h.g.cp, .int .i64 h.g.lm, .bool h.g.en, .bool h.g.dn, .int .i64 h.t.nx, .string h.t.bs, .slice aT h.t.l.length cT, .int .i64 h.t.cp, .int .i64 h.t.fi, .bool h.t.en, .slice aW h.ws.length cW] 31)).alloc (.cells #[.int .i64 0, .string ⟨#[]⟩, .int .i64 0, .int .i64 0, .bool false, .bool false, .int .i64 0, .string ⟨#[]⟩, .slice none 0 0, .int .i64 0, .int .i64 0, .bool false, .slice none 0 0] 31)) w.heap.size [.int .i64 h.g.ba, .string h.g.bs, .int .i64 h.g.cp, .int .i64 h.g.lm, .bool h.g.en, .bool h.g.dn, .int .i64 h.t.nx, .string h.t.bs, .slice aT h.t.l.length cT, .int .i64 h.t.cp, .int .i64 h.t.fi, .bool h.t.en, .slice aW h.ws.length cW] := (Var.new w [.int .i64 h.g.ba, .string h.g.bs, .int .i64 h.g.cp, .int .i64 h.g.lm, .bool h.g.en, .bool h.g.dn, .int .i64 h.t.nx, .string h.t.bs, .slice aT h.t.l.length cT, .int .i64 h.t.cp, .int .i64 h.t.fi, .bool h.t.en, .slice aW h.ws.length cW]).alloc _
  have v2 : Var 31 ((w.alloc (.cells #[.int .i64 h.g.ba, .string h.g.bs, .int .i64 h.g.cp, .int .i64 h.g.lm, .bool h.g.en, .bool h.g.dn, .int .i64 h.t.nx, .string h.t.bs, .slice aT h.t.l.length cT, .int .i64 h.t.cp, .int .i64 h.t.fi, .bool h.t.en, .slice aW h.ws.length cW] 31)).alloc (.cells #[.int .i64 0, .string ⟨#[]⟩, .int .i64 0, .int .i64 0, .bool false, .bool false, .int .i64 0, .string ⟨#[]⟩, .slice none 0 0, .int .i64 0, .int .i64 0, .bool false, .slice none 0 0] 31)) (w.heap.size + 1) [.int .i64 0, .string ⟨#[]⟩, .int .i64 0, .int .i64 0, .bool false, .bool false, .int .i64 0, .string ⟨#[]⟩, .slice none 0 0, .int .i64 0, .int .i64 0, .bool false, .slice none 0 0] := by
    have q := Var.new (T := 31) (w.alloc (.cells #[.int .i64 h.g.ba, .string h.g.bs, .int .i64 h.g.cp, .int .i64 h.g.lm, .bool h.g.en, .bool h.g.dn, .int .i64 h.t.nx, .string h.t.bs, .slice aT h.t.l.length cT, .int .i64 h.t.cp, .int .i64 h.t.fi, .bool h.t.en, .slice aW h.ws.length cW] 31)) [.int .i64 0, .string ⟨#[]⟩, .int .i64 0, .int .i64 0, .bool false, .bool false, .int .i64 0, .string ⟨#[]⟩, .slice none 0 0, .int .i64 0, .int .i64 0, .bool false, .slice none 0 0]
    simpa using q
  have b0 : Below w.heap.size w ((w.alloc (.cells #[.int .i64 h.g.ba, .string h.g.bs, .int .i64 h.g.cp, .int .i64 h.g.lm, .bool h.g.en, .bool h.g.dn, .int .i64 h.t.nx, .string h.t.bs, .slice aT h.t.l.length cT, .int .i64 h.t.cp, .int .i64 h.t.fi, .bool h.t.en, .slice aW h.ws.length cW] 31)).alloc (.cells #[.int .i64 0, .string ⟨#[]⟩, .int .i64 0, .int .i64 0, .bool false, .bool false, .int .i64 0, .string ⟨#[]⟩, .slice none 0 0, .int .i64 0, .int .i64 0, .bool false, .slice none 0 0] 31)) := ((Below.refl _ _).alloc (Nat.le_refl _) _).alloc (by simp) _
  have lT := hT.later b0
  have lW := hW.later b0
  have hC := fun w' l' => Tak.ownTaker h.t.nx h.t.bs aT h.t.l.length cT h.t.cp h.t.fi h.t.en h.t.l w' rfl l' (by omega) hnT
  have HC : Hid _ := hC
  clear hC
  go_enter Tryz.func23, Tryz.ntmps23
  go_upto_region 1 with (fail)
  generalize (w.alloc (.cells #[.int .i64 h.g.ba, .string h.g.bs, .int .i64 h.g.cp, .int .i64 h.g.lm, .bool h.g.en, .bool h.g.dn, .int .i64 h.t.nx, .string h.t.bs, .slice aT h.t.l.length cT, .int .i64 h.t.cp, .int .i64 h.t.fi, .bool h.t.en, .slice aW h.ws.length cW] 31)).alloc (.cells #[.int .i64 0, .string ⟨#[]⟩, .int .i64 0, .int .i64 0, .bool false, .bool false, .int .i64 0, .string ⟨#[]⟩, .slice none 0 0, .int .i64 0, .int .i64 0, .bool false, .slice none 0 0] 31) = V at *
  obtain ⟨e0, e1, e2, e3, e4, e5, e6, e7, e8, e9, e10, e11, e12⟩ := v1.c13
  have hV1 : w.heap.size < V.heap.size := v1.lt
  have hV2 : w.heap.size + 1 < V.heap.size := v2.lt
  go_wp2_with fail
  refine (HC.out _ lT).mono ?_
  rintro e w1 ⟨a2, c2, rfl, oT, b1⟩
  replace v1 := v1.later b1
  replace v2 := v2.later b1
  replace lW := lW.later b1
  have B1 := b0.trans (b1.mono b0.size)
  clear HC b1 b0 lT e0 e1 e2 e3 e4 e5 e6 e7 e8 e9 e10 e11 e12
  obtain ⟨e0, e1, e2, e3, e4, e5, e6, e7, e8, e9, e10, e11, e12⟩ := v1.c13
  have y6 := v1.free 6
  have y7 := v1.free 7
  have y8 := v1.free 8
  have y9 := v1.free 9
  have y10 := v1.free 10
  have y11 := v1.free 11
  go_upto_region 2 with (fail)
  have x1 : Var 31 (((((((w1.setCell ⟨w.heap.size, 6, none⟩ (.int .i64 h.t.nx)).setCell ⟨w.heap.size, 7, none⟩ (.string h.t.bs)).setCell ⟨w.heap.size, 8, none⟩ (.slice a2 h.t.l.length c2)).setCell ⟨w.heap.size, 9, none⟩ (.int .i64 h.t.cp)).setCell ⟨w.heap.size, 10, none⟩ (.int .i64 h.t.fi)).setCell ⟨w.heap.size, 11, none⟩ (.bool h.t.en))) w.heap.size [.int .i64 h.g.ba, .string h.g.bs, .int .i64 h.g.cp, .int .i64 h.g.lm, .bool h.g.en, .bool h.g.dn, .int .i64 h.t.nx, .string h.t.bs, .slice a2 h.t.l.length c2, .int .i64 h.t.cp, .int .i64 h.t.fi, .bool h.t.en, .slice aW h.ws.length cW] := ((((((v1.set 6 _).set 7 _).set 8 _).set 9 _).set 10 _).set 11 _)
  have x2 : Var 31 (((((((w1.setCell ⟨w.heap.size, 6, none⟩ (.int .i64 h.t.nx)).setCell ⟨w.heap.size, 7, none⟩ (.string h.t.bs)).setCell ⟨w.heap.size, 8, none⟩ (.slice a2 h.t.l.length c2)).setCell ⟨w.heap.size, 9, none⟩ (.int .i64 h.t.cp)).setCell ⟨w.heap.size, 10, none⟩ (.int .i64 h.t.fi)).setCell ⟨w.heap.size, 11, none⟩ (.bool h.t.en))) (w.heap.size + 1) [.int .i64 0, .string ⟨#[]⟩, .int .i64 0, .int .i64 0, .bool false, .bool false, .int .i64 0, .string ⟨#[]⟩, .slice none 0 0, .int .i64 0, .int .i64 0, .bool false, .slice none 0 0] := by
    iterate 6 (refine Var.other ?_ (by simp) _)
    exact v2
  have xT : Tak.partE.Own 69 (((((((w1.setCell ⟨w.heap.size, 6, none⟩ (.int .i64 h.t.nx)).setCell ⟨w.heap.size, 7, none⟩ (.string h.t.bs)).setCell ⟨w.heap.size, 8, none⟩ (.slice a2 h.t.l.length c2)).setCell ⟨w.heap.size, 9, none⟩ (.int .i64 h.t.cp)).setCell ⟨w.heap.size, 10, none⟩ (.int .i64 h.t.fi)).setCell ⟨w.heap.size, 11, none⟩ (.bool h.t.en))) w.heap.size a2 c2 h.t.l := by
    iterate 6 (refine El.Own.setCell ?_ (fun x hx => by have := (oT.lt x hx).1; dsimp only; omega) _)
    exact oT.mono (by omega)
  have xB : Below w.heap.size w (((((((w1.setCell ⟨w.heap.size, 6, none⟩ (.int .i64 h.t.nx)).setCell ⟨w.heap.size, 7, none⟩ (.string h.t.bs)).setCell ⟨w.heap.size, 8, none⟩ (.slice a2 h.t.l.length c2)).setCell ⟨w.heap.size, 9, none⟩ (.int .i64 h.t.cp)).setCell ⟨w.heap.size, 10, none⟩ (.int .i64 h.t.fi)).setCell ⟨w.heap.size, 11, none⟩ (.bool h.t.en))) := by
    iterate 6 (refine Below.setCell ?_ (by dsimp only; omega) _)
    exact B1
  have xs1 : w.heap.size < (((((((w1.setCell ⟨w.heap.size, 6, none⟩ (.int .i64 h.t.nx)).setCell ⟨w.heap.size, 7, none⟩ (.string h.t.bs)).setCell ⟨w.heap.size, 8, none⟩ (.slice a2 h.t.l.length c2)).setCell ⟨w.heap.size, 9, none⟩ (.int .i64 h.t.cp)).setCell ⟨w.heap.size, 10, none⟩ (.int .i64 h.t.fi)).setCell ⟨w.heap.size, 11, none⟩ (.bool h.t.en))).heap.size := x1.lt
  have xs2 : w.heap.size + 1 < (((((((w1.setCell ⟨w.heap.size, 6, none⟩ (.int .i64 h.t.nx)).setCell ⟨w.heap.size, 7, none⟩ (.string h.t.bs)).setCell ⟨w.heap.size, 8, none⟩ (.slice a2 h.t.l.length c2)).setCell ⟨w.heap.size, 9, none⟩ (.int .i64 h.t.cp)).setCell ⟨w.heap.size, 10, none⟩ (.int .i64 h.t.fi)).setCell ⟨w.heap.size, 11, none⟩ (.bool h.t.en))).heap.size := x2.lt
  generalize ((((((w1.setCell ⟨w.heap.size, 6, none⟩ (.int .i64 h.t.nx)).setCell ⟨w.heap.size, 7, none⟩ (.string h.t.bs)).setCell ⟨w.heap.size, 8, none⟩ (.slice a2 h.t.l.length c2)).setCell ⟨w.heap.size, 9, none⟩ (.int .i64 h.t.cp)).setCell ⟨w.heap.size, 10, none⟩ (.int .i64 h.t.fi)).setCell ⟨w.heap.size, 11, none⟩ (.bool h.t.en)) = W1 at *
  clear v1 v2 oT lW B1 e0 e1 e2 e3 e4 e5 e6 e7 e8 e9 e10 e11 e12 y6 y7 y8 y9 y10 y11
  have e12 := x1.cell (i := 12) rfl
  have lW3 := hW.later xB
  have xz : w.heap.size ≤ W1.heap.size := xB.size
  go_wp2_with fail
  refine (cloneL aW h.ws.length cW h.ws _ rfl lW3 (by omega) hnW).mono ?_
  rintro e w4 ⟨a4, c4, rfl, o4, b4⟩
  have p1 := x1.later b4
  have p2 := x2.later b4
  have pT := xT.later b4
  have pB := xB.trans (b4.mono xB.size)
  clear b4 e12 lW3
  have c12 := p1.cell (i := 12) rfl
  have f12 := p1.free 12
  (try rw [Nat.zero_add])
  go_upto_region 3 with (fail)
  have q1 : Var 31 ((w4.setCell ⟨w.heap.size, 12, none⟩ (.slice a4 h.ws.length c4))) w.heap.size [.int .i64 h.g.ba, .string h.g.bs, .int .i64 h.g.cp, .int .i64 h.g.lm, .bool h.g.en, .bool h.g.dn, .int .i64 h.t.nx, .string h.t.bs, .slice a2 h.t.l.length c2, .int .i64 h.t.cp, .int .i64 h.t.fi, .bool h.t.en, .slice a4 h.ws.length c4] := (p1.set 12 _)
  have q2 : Var 31 ((w4.setCell ⟨w.heap.size, 12, none⟩ (.slice a4 h.ws.length c4))) (w.heap.size + 1) [.int .i64 0, .string ⟨#[]⟩, .int .i64 0, .int .i64 0, .bool false, .bool false, .int .i64 0, .string ⟨#[]⟩, .slice none 0 0, .int .i64 0, .int .i64 0, .bool false, .slice none 0 0] := p2.other (by simp) _
  have qT : Tak.partE.Own 69 ((w4.setCell ⟨w.heap.size, 12, none⟩ (.slice a4 h.ws.length c4))) w.heap.size a2 c2 h.t.l := pT.setCell (fun x hx => by have := (own_win (by decide) pT p1.win x hx); exact this) _
  have qW : letE.Own 39 ((w4.setCell ⟨w.heap.size, 12, none⟩ (.slice a4 h.ws.length c4))) w.heap.size a4 c4 h.ws := (o4.mono (by omega)).setCell (fun x hx => by have := (o4.lt x hx).1; dsimp only; omega) _
  have qB : Below w.heap.size w ((w4.setCell ⟨w.heap.size, 12, none⟩ (.slice a4 h.ws.length c4))) := pB.setCell (by dsimp only; omega) _
  generalize (w4.setCell ⟨w.heap.size, 12, none⟩ (.slice a4 h.ws.length c4)) = W3 at *
  clear p1 p2 pT pB o4 c12 f12 x1 x2 xT xB
  obtain ⟨e0, e1, e2, e3, e4, e5, e6, e7, e8, e9, e10, e11, e12⟩ := q1.c13
  obtain ⟨f0, f1, f2, f3, f4, f5, f6, f7, f8, f9, f10, f11, f12⟩ := q2.c13
  obtain ⟨y0, y1, y2, y3, y4, y5, y6, y7, y8, y9, y10, y11, y12⟩ := q2.f13
  go_wp2_with fail
  have r2 : Var 31 ((((((((((((((W3.setCell ⟨(w.heap.size + 1), 0, none⟩ (.int .i64 h.g.ba)).setCell ⟨(w.heap.size + 1), 1, none⟩ (.string h.g.bs)).setCell ⟨(w.heap.size + 1), 2, none⟩ (.int .i64 h.g.cp)).setCell ⟨(w.heap.size + 1), 3, none⟩ (.int .i64 h.g.lm)).setCell ⟨(w.heap.size + 1), 4, none⟩ (.bool h.g.en)).setCell ⟨(w.heap.size + 1), 5, none⟩ (.bool h.g.dn)).setCell ⟨(w.heap.size + 1), 6, none⟩ (.int .i64 h.t.nx)).setCell ⟨(w.heap.size + 1), 7, none⟩ (.string h.t.bs)).setCell ⟨(w.heap.size + 1), 8, none⟩ (.slice a2 h.t.l.length c2)).setCell ⟨(w.heap.size + 1), 9, none⟩ (.int .i64 h.t.cp)).setCell ⟨(w.heap.size + 1), 10, none⟩ (.int .i64 h.t.fi)).setCell ⟨(w.heap.size + 1), 11, none⟩ (.bool h.t.en)).setCell ⟨(w.heap.size + 1), 12, none⟩ (.slice a4 h.ws.length c4))) (w.heap.size + 1) [.int .i64 h.g.ba, .string h.g.bs, .int .i64 h.g.cp, .int .i64 h.g.lm, .bool h.g.en, .bool h.g.dn, .int .i64 h.t.nx, .string h.t.bs, .slice a2 h.t.l.length c2, .int .i64 h.t.cp, .int .i64 h.t.fi, .bool h.t.en, .slice a4 h.ws.length c4] := (((((((((((((q2.set 0 _).set 1 _).set 2 _).set 3 _).set 4 _).set 5 _).set 6 _).set 7 _).set 8 _).set 9 _).set 10 _).set 11 _).set 12 _)
  have rT : Tak.partE.Own 69 ((((((((((((((W3.setCell ⟨(w.heap.size + 1), 0, none⟩ (.int .i64 h.g.ba)).setCell ⟨(w.heap.size + 1), 1, none⟩ (.string h.g.bs)).setCell ⟨(w.heap.size + 1), 2, none⟩ (.int .i64 h.g.cp)).setCell ⟨(w.heap.size + 1), 3, none⟩ (.int .i64 h.g.lm)).setCell ⟨(w.heap.size + 1), 4, none⟩ (.bool h.g.en)).setCell ⟨(w.heap.size + 1), 5, none⟩ (.bool h.g.dn)).setCell ⟨(w.heap.size + 1), 6, none⟩ (.int .i64 h.t.nx)).setCell ⟨(w.heap.size + 1), 7, none⟩ (.string h.t.bs)).setCell ⟨(w.heap.size + 1), 8, none⟩ (.slice a2 h.t.l.length c2)).setCell ⟨(w.heap.size + 1), 9, none⟩ (.int .i64 h.t.cp)).setCell ⟨(w.heap.size + 1), 10, none⟩ (.int .i64 h.t.fi)).setCell ⟨(w.heap.size + 1), 11, none⟩ (.bool h.t.en)).setCell ⟨(w.heap.size + 1), 12, none⟩ (.slice a4 h.ws.length c4))) w.heap.size a2 c2 h.t.l := by
    iterate 13 (refine El.Own.setCell ?_ (fun x hx => by have := (own_win (by decide) qT q2.win x hx); exact this) _)
    exact qT
  have rW : letE.Own 39 ((((((((((((((W3.setCell ⟨(w.heap.size + 1), 0, none⟩ (.int .i64 h.g.ba)).setCell ⟨(w.heap.size + 1), 1, none⟩ (.string h.g.bs)).setCell ⟨(w.heap.size + 1), 2, none⟩ (.int .i64 h.g.cp)).setCell ⟨(w.heap.size + 1), 3, none⟩ (.int .i64 h.g.lm)).setCell ⟨(w.heap.size + 1), 4, none⟩ (.bool h.g.en)).setCell ⟨(w.heap.size + 1), 5, none⟩ (.bool h.g.dn)).setCell ⟨(w.heap.size + 1), 6, none⟩ (.int .i64 h.t.nx)).setCell ⟨(w.heap.size + 1), 7, none⟩ (.string h.t.bs)).setCell ⟨(w.heap.size + 1), 8, none⟩ (.slice a2 h.t.l.length c2)).setCell ⟨(w.heap.size + 1), 9, none⟩ (.int .i64 h.t.cp)).setCell ⟨(w.heap.size + 1), 10, none⟩ (.int .i64 h.t.fi)).setCell ⟨(w.heap.size + 1), 11, none⟩ (.bool h.t.en)).setCell ⟨(w.heap.size + 1), 12, none⟩ (.slice a4 h.ws.length c4))) w.heap.size a4 c4 h.ws := by
    iterate 13 (refine El.Own.setCell ?_ (fun x hx => by have := (own_win (by decide) qW q2.win x hx); exact this) _)
    exact qW
  have rB : Below w.heap.size w ((((((((((((((W3.setCell ⟨(w.heap.size + 1), 0, none⟩ (.int .i64 h.g.ba)).setCell ⟨(w.heap.size + 1), 1, none⟩ (.string h.g.bs)).setCell ⟨(w.heap.size + 1), 2, none⟩ (.int .i64 h.g.cp)).setCell ⟨(w.heap.size + 1), 3, none⟩ (.int .i64 h.g.lm)).setCell ⟨(w.heap.size + 1), 4, none⟩ (.bool h.g.en)).setCell ⟨(w.heap.size + 1), 5, none⟩ (.bool h.g.dn)).setCell ⟨(w.heap.size + 1), 6, none⟩ (.int .i64 h.t.nx)).setCell ⟨(w.heap.size + 1), 7, none⟩ (.string h.t.bs)).setCell ⟨(w.heap.size + 1), 8, none⟩ (.slice a2 h.t.l.length c2)).setCell ⟨(w.heap.size + 1), 9, none⟩ (.int .i64 h.t.cp)).setCell ⟨(w.heap.size + 1), 10, none⟩ (.int .i64 h.t.fi)).setCell ⟨(w.heap.size + 1), 11, none⟩ (.bool h.t.en)).setCell ⟨(w.heap.size + 1), 12, none⟩ (.slice a4 h.ws.length c4))) := by
    iterate 13 (refine Below.setCell ?_ (by dsimp only; omega) _)
    exact qB
  generalize (((((((((((((W3.setCell ⟨(w.heap.size + 1), 0, none⟩ (.int .i64 h.g.ba)).setCell ⟨(w.heap.size + 1), 1, none⟩ (.string h.g.bs)).setCell ⟨(w.heap.size + 1), 2, none⟩ (.int .i64 h.g.cp)).setCell ⟨(w.heap.size + 1), 3, none⟩ (.int .i64 h.g.lm)).setCell ⟨(w.heap.size + 1), 4, none⟩ (.bool h.g.en)).setCell ⟨(w.heap.size + 1), 5, none⟩ (.bool h.g.dn)).setCell ⟨(w.heap.size + 1), 6, none⟩ (.int .i64 h.t.nx)).setCell ⟨(w.heap.size + 1), 7, none⟩ (.string h.t.bs)).setCell ⟨(w.heap.size + 1), 8, none⟩ (.slice a2 h.t.l.length c2)).setCell ⟨(w.heap.size + 1), 9, none⟩ (.int .i64 h.t.cp)).setCell ⟨(w.heap.size + 1), 10, none⟩ (.int .i64 h.t.fi)).setCell ⟨(w.heap.size + 1), 11, none⟩ (.bool h.t.en)).setCell ⟨(w.heap.size + 1), 12, none⟩ (.slice a4 h.ws.length c4)) = W4 at *
  obtain ⟨s0, s1, s2, s3, s4, s5, s6, s7, s8, s9, s10, s11, s12⟩ := r2.c13
  refine bodyPost_ret (v := h.v a2 c2 a4 c4) (by rw [res_one rfl]; clear q1 q2 qT qW qB r2 rT rW rB e0 f0 y0 e1 f1 y1 e2 f2 y2 e3 f3 y3 e4 f4 y4 e5 f5 y5 e6 f6 y6 e7 f7 y7 e8 f8 y8 e9 f9 y9 e10 f10 y10 e11 f11 y11 e12 f12 y12; go_simp; done) rfl ⟨a2, c2, a4, c4, rfl, rT, rW, rB⟩

end Go.Proofs.YtjnkjeajkmgcmaaGreat.Hop
