/- The program's Arrives; of hops that are not too great. -/
import Derived.Test.YtjnkjeajkmgcmaaGreatMg13
import Derived.Test.YtjnkjeajkmgcmaaGreatHopW
import Derived.Test.YtjnkjeajkmgcmaaGreatHopR
import Derived.Test.YtjnkjeajkmgcmaaGreatMg16
import Derived.Test.YtjnkjeajkmgcmaaGreatMg17
import Derived.Test.YtjnkjeajkmgcmaaGreatHopO
import Derived.Test.YtjnkjeajkmgcmaaGreatMg22
namespace Go.Proofs.YtjnkjeajkmgcmaaGreat.Hop
open Go.RowKit RowG
set_option linter.unusedVariables false
set_option linter.unusedSimpArgs false

set_option maxRecDepth 10000 in
set_option maxHeartbeats 8000000 in
theorem implArrives (sortNil : ∀ (cap : Nat) (fv : Value) (w : World), Calls Tryz.prog 99 #[.slice none 0 cap, fv] w fun e w' => e = .returned (.tuple #[]) ∧ w' = w) (h : Hp) (aT : Option Addr) (cT : Nat) (aW : Option Addr) (cW : Nat) (n : Int) (w : World) (hT : Tak.partE.Lies w aT h.t.l) (hW : letE.Lies w aW h.ws) (hnT : aT = none → cT = 0) (hnW : aW = none → cW = 0) (hs : h.Sm) :
    Calls Tryz.prog 6 #[h.v aT cT aW cW, .int .i64 n] w fun e w' => ∃ aT' cT' aW' cW', e = .returned (.tuple #[(arrivesH h n).1.v aT' cT' aW' cW', .bool (arrivesH h n).2]) ∧ Tak.partE.Own 69 w' w.heap.size aT' cT' (arrivesH h n).1.t.l ∧ letE.Own 39 w' w.heap.size aW' cW' (arrivesH h n).1.ws ∧ Below w.heap.size w w' := by
  have hmix := mix
  have v1 : Var 31 ((w.alloc (.cells #[.int .i64 h.g.ba, .string h.g.bs, .int .i64 h.g.cp, .int .i64 h.g.lm, .bool h.g.en, .bool h.g.dn, .int .i64 h.t.nx, .string h.t.bs, .slice aT h.t.l.length cT, .int .i64 h.t.cp, .int .i64 h.t.fi, .bool h.t.en, .slice aW h.ws.length cW] 31)).alloc (.cells #[.int .i64 0, .string ⟨#[]⟩, .int .i64 0, .int .i64 0, .bool false, .bool false, .int .i64 0, .string ⟨#[]⟩, .slice none 0 0, .int .i64 0, .int .i64 0, .bool false, .slice none 0 0] 31)) w.heap.size [.int .i64 h.g.ba, .string h.g.bs, .int .i64 h.g.cp, .int .i64 h.g.lm, .bool h.g.en, .bool h.g.dn, .int .i64 h.t.nx, .string h.t.bs, .slice aT h.t.l.length cT, .int .i64 h.t.cp, .int .i64 h.t.fi, .bool h.t.en, .slice aW h.ws.length cW] := (Var.new w [.int .i64 h.g.ba, .string h.g.bs, .int .i64 h.g.cp, .int .i64 h.g.lm, .bool h.g.en, .bool h.g.dn, .int .i64 h.t.nx, .string h.t.bs, .slice aT h.t.l.length cT, .int .i64 h.t.cp, .int .i64 h.t.fi, .bool h.t.en, .slice aW h.ws.length cW]).alloc _
  have v2 : Var 31 ((w.alloc (.cells #[.int .i64 h.g.ba, .string h.g.bs, .int .i64 h.g.cp, .int .i64 h.g.lm, .bool h.g.en, .bool h.g.dn, .int .i64 h.t.nx, .string h.t.bs, .slice aT h.t.l.length cT, .int .i64 h.t.cp, .int .i64 h.t.fi, .bool h.t.en, .slice aW h.ws.length cW] 31)).alloc (.cells #[.int .i64 0, .string ⟨#[]⟩, .int .i64 0, .int .i64 0, .bool false, .bool false, .int .i64 0, .string ⟨#[]⟩, .slice none 0 0, .int .i64 0, .int .i64 0, .bool false, .slice none 0 0] 31)) (w.heap.size + 1) [.int .i64 0, .string ⟨#[]⟩, .int .i64 0, .int .i64 0, .bool false, .bool false, .int .i64 0, .string ⟨#[]⟩, .slice none 0 0, .int .i64 0, .int .i64 0, .bool false, .slice none 0 0] := by
    have q := Var.new (T := 31) (w.alloc (.cells #[.int .i64 h.g.ba, .string h.g.bs, .int .i64 h.g.cp, .int .i64 h.g.lm, .bool h.g.en, .bool h.g.dn, .int .i64 h.t.nx, .string h.t.bs, .slice aT h.t.l.length cT, .int .i64 h.t.cp, .int .i64 h.t.fi, .bool h.t.en, .slice aW h.ws.length cW] 31)) [.int .i64 0, .string ⟨#[]⟩, .int .i64 0, .int .i64 0, .bool false, .bool false, .int .i64 0, .string ⟨#[]⟩, .slice none 0 0, .int .i64 0, .int .i64 0, .bool false, .slice none 0 0]
    simpa using q
  have b0 : Below w.heap.size w ((w.alloc (.cells #[.int .i64 h.g.ba, .string h.g.bs, .int .i64 h.g.cp, .int .i64 h.g.lm, .bool h.g.en, .bool h.g.dn, .int .i64 h.t.nx, .string h.t.bs, .slice aT h.t.l.length cT, .int .i64 h.t.cp, .int .i64 h.t.fi, .bool h.t.en, .slice aW h.ws.length cW] 31)).alloc (.cells #[.int .i64 0, .string ⟨#[]⟩, .int .i64 0, .int .i64 0, .bool false, .bool false, .int .i64 0, .string ⟨#[]⟩, .slice none 0 0, .int .i64 0, .int .i64 0, .bool false, .slice none 0 0] 31)) := ((Below.refl _ _).alloc (Nat.le_refl _) _).alloc (by simp) _
  have lT := hT.later b0
  have lW := hW.later b0
  have HOK : Hid _ := fun w' a b => implHopOk h aT cT aW cW w' a b hs
  have HUW : Hid _ := fun w' => isUnderWay h aT cT aW cW n w'
  have HCP : Hid _ := fun w' a b => ownHop h aT cT aW cW w' a b hnT hnW hs.tl hs.wl
  have HR : Hid (arrivesH h n = if hopB h then comeH h n else (zeroH, false)) := rfl
  generalize arrivesH h n = R at *
  go_enter Tryz.func6, Tryz.ntmps6
  go_upto_region 1 with (fail)
  generalize (w.alloc (.cells #[.int .i64 h.g.ba, .string h.g.bs, .int .i64 h.g.cp, .int .i64 h.g.lm, .bool h.g.en, .bool h.g.dn, .int .i64 h.t.nx, .string h.t.bs, .slice aT h.t.l.length cT, .int .i64 h.t.cp, .int .i64 h.t.fi, .bool h.t.en, .slice aW h.ws.length cW] 31)).alloc (.cells #[.int .i64 0, .string ⟨#[]⟩, .int .i64 0, .int .i64 0, .bool false, .bool false, .int .i64 0, .string ⟨#[]⟩, .slice none 0 0, .int .i64 0, .int .i64 0, .bool false, .slice none 0 0] 31) = V at *
  obtain ⟨e0, e1, e2, e3, e4, e5, e6, e7, e8, e9, e10, e11, e12⟩ := v1.c13
  go_wp2_with fail
  refine (HOK.out _ lT lW).mono ?_
  rintro e w1 ⟨rfl, b1⟩
  replace v1 := v1.later b1
  replace v2 := v2.later b1
  replace lW := lW.later b1
  replace lT := lT.later b1
  have B1 := b0.trans (b1.mono b0.size)
  clear HOK b1 b0 e0 e1 e2 e3 e4 e5 e6 e7 e8 e9 e10 e11 e12
  cases hb : hopB h
  case false =>
    have hR : R = (zeroH, false) := by rw [HR.out, hb]; rfl
    subst hR
    dsimp only [zeroH, Tak.zeroK, List.length_nil]
    obtain ⟨f0, f1, f2, f3, f4, f5, f6, f7, f8, f9, f10, f11, f12⟩ := v2.c13
    obtain ⟨y0, y1, y2, y3, y4, y5, y6, y7, y8, y9, y10, y11, y12⟩ := v2.f13
    go_wp2_with fail
    have r2 := var_all v2 [.int .i64 0, .string ⟨#[]⟩, .int .i64 0, .int .i64 0, .bool false, .bool false, .int .i64 0, .string ⟨#[]⟩, .slice none 0 0, .int .i64 0, .int .i64 0, .bool false, .slice none 0 0] rfl
    have rB := below_all (k := w.heap.size + 1) (by omega) [.int .i64 0, .string ⟨#[]⟩, .int .i64 0, .int .i64 0, .bool false, .bool false, .int .i64 0, .string ⟨#[]⟩, .slice none 0 0, .int .i64 0, .int .i64 0, .bool false, .slice none 0 0] 0 w1 B1
    simp only [World.setCells, Nat.reduceAdd] at r2 rB
    generalize (((((((((((((w1.setCell ⟨(w.heap.size + 1), 0, none⟩ (.int .i64 0)).setCell ⟨(w.heap.size + 1), 1, none⟩ (.string ⟨#[]⟩)).setCell ⟨(w.heap.size + 1), 2, none⟩ (.int .i64 0)).setCell ⟨(w.heap.size + 1), 3, none⟩ (.int .i64 0)).setCell ⟨(w.heap.size + 1), 4, none⟩ (.bool false)).setCell ⟨(w.heap.size + 1), 5, none⟩ (.bool false)).setCell ⟨(w.heap.size + 1), 6, none⟩ (.int .i64 0)).setCell ⟨(w.heap.size + 1), 7, none⟩ (.string ⟨#[]⟩)).setCell ⟨(w.heap.size + 1), 8, none⟩ (.slice none 0 0)).setCell ⟨(w.heap.size + 1), 9, none⟩ (.int .i64 0)).setCell ⟨(w.heap.size + 1), 10, none⟩ (.int .i64 0)).setCell ⟨(w.heap.size + 1), 11, none⟩ (.bool false)).setCell ⟨(w.heap.size + 1), 12, none⟩ (.slice none 0 0)) = W4 at *
    obtain ⟨s0, s1, s2, s3, s4, s5, s6, s7, s8, s9, s10, s11, s12⟩ := r2.c13
    exact bodyPost_ret (v := .tuple #[.agg #[.int .i64 0, .string ⟨#[]⟩, .int .i64 0, .int .i64 0, .bool false, .bool false, .int .i64 0, .string ⟨#[]⟩, .slice none 0 0, .int .i64 0, .int .i64 0, .bool false, .slice none 0 0], .bool false]) (by rw [Tak.res_cell_tmp rfl]; clear r2 rB v2 f0 f1 f2 f3 f4 f5 f6 f7 f8 f9 f10 f11 f12 y0 y1 y2 y3 y4 y5 y6 y7 y8 y9 y10 y11 y12 v1; go_simp; done) rfl ⟨none, 0, none, 0, rfl, El.Own.none _ _, El.Own.none _ _, rB⟩

  have hR : R = comeH h n := by rw [HR.out, hb]; rfl
  have HHB : Hid (hopB h = true) := hb
  clear HR hb
  obtain ⟨e0, e1, e2, e3, e4, e5, e6, e7, e8, e9, e10, e11, e12⟩ := v1.c13
  go_wp2_with fail
  refine (HUW.out _).mono ?_
  rintro e w2 ⟨rfl, b2⟩
  replace v1 := v1.later b2
  replace v2 := v2.later b2
  replace lW := lW.later b2
  replace lT := lT.later b2
  have B2 := B1.trans (b2.mono B1.size)
  have hV2 : w.heap.size + 1 < w2.heap.size := v2.lt
  clear HUW b2 B1 e0 e1 e2 e3 e4 e5 e6 e7 e8 e9 e10 e11 e12
  by_cases hn : 0 ≤ n ∧ n < (h.ws.length : Int)
  case neg =>
    rw [decide_eq_false hn]
    have hR2 : R = (h, false) := hR.trans (come_none (by omega))
    subst hR2
    clear hR
    obtain ⟨e0, e1, e2, e3, e4, e5, e6, e7, e8, e9, e10, e11, e12⟩ := v1.c13
    go_wp2_with fail
    refine (HCP.out _ lT lW).mono ?_
    rintro e w3 ⟨a5, c5, a6, c6, rfl, oT, oW, b3⟩
    replace v2 := v2.later b3
    have B4 := B2.trans (b3.mono B2.size)
    replace oT := oT.mono (B := w.heap.size) (by omega)
    replace oW := oW.mono (B := w.heap.size) (by omega)
    clear b3 HCP v1 lT lW B2 e0 e1 e2 e3 e4 e5 e6 e7 e8 e9 e10 e11 e12
    obtain ⟨f0, f1, f2, f3, f4, f5, f6, f7, f8, f9, f10, f11, f12⟩ := v2.c13
    obtain ⟨y0, y1, y2, y3, y4, y5, y6, y7, y8, y9, y10, y11, y12⟩ := v2.f13
    go_wp2_with fail
    have r2 := var_all v2 [.int .i64 h.g.ba, .string h.g.bs, .int .i64 h.g.cp, .int .i64 h.g.lm, .bool h.g.en, .bool h.g.dn, .int .i64 h.t.nx, .string h.t.bs, .slice a5 h.t.l.length c5, .int .i64 h.t.cp, .int .i64 h.t.fi, .bool h.t.en, .slice a6 h.ws.length c6] rfl
    have rT := own_all (k := w.heap.size + 1) (own_win (by decide) oT v2.win) [.int .i64 h.g.ba, .string h.g.bs, .int .i64 h.g.cp, .int .i64 h.g.lm, .bool h.g.en, .bool h.g.dn, .int .i64 h.t.nx, .string h.t.bs, .slice a5 h.t.l.length c5, .int .i64 h.t.cp, .int .i64 h.t.fi, .bool h.t.en, .slice a6 h.ws.length c6] 0 w3 oT
    have rW := own_all (k := w.heap.size + 1) (own_win (by decide) oW v2.win) [.int .i64 h.g.ba, .string h.g.bs, .int .i64 h.g.cp, .int .i64 h.g.lm, .bool h.g.en, .bool h.g.dn, .int .i64 h.t.nx, .string h.t.bs, .slice a5 h.t.l.length c5, .int .i64 h.t.cp, .int .i64 h.t.fi, .bool h.t.en, .slice a6 h.ws.length c6] 0 w3 oW
    have rB := below_all (k := w.heap.size + 1) (by omega) [.int .i64 h.g.ba, .string h.g.bs, .int .i64 h.g.cp, .int .i64 h.g.lm, .bool h.g.en, .bool h.g.dn, .int .i64 h.t.nx, .string h.t.bs, .slice a5 h.t.l.length c5, .int .i64 h.t.cp, .int .i64 h.t.fi, .bool h.t.en, .slice a6 h.ws.length c6] 0 w3 B4
    simp only [World.setCells, Nat.reduceAdd] at r2 rT rW rB
    generalize (((((((((((((w3.setCell ⟨(w.heap.size + 1), 0, none⟩ (.int .i64 h.g.ba)).setCell ⟨(w.heap.size + 1), 1, none⟩ (.string h.g.bs)).setCell ⟨(w.heap.size + 1), 2, none⟩ (.int .i64 h.g.cp)).setCell ⟨(w.heap.size + 1), 3, none⟩ (.int .i64 h.g.lm)).setCell ⟨(w.heap.size + 1), 4, none⟩ (.bool h.g.en)).setCell ⟨(w.heap.size + 1), 5, none⟩ (.bool h.g.dn)).setCell ⟨(w.heap.size + 1), 6, none⟩ (.int .i64 h.t.nx)).setCell ⟨(w.heap.size + 1), 7, none⟩ (.string h.t.bs)).setCell ⟨(w.heap.size + 1), 8, none⟩ (.slice a5 h.t.l.length c5)).setCell ⟨(w.heap.size + 1), 9, none⟩ (.int .i64 h.t.cp)).setCell ⟨(w.heap.size + 1), 10, none⟩ (.int .i64 h.t.fi)).setCell ⟨(w.heap.size + 1), 11, none⟩ (.bool h.t.en)).setCell ⟨(w.heap.size + 1), 12, none⟩ (.slice a6 h.ws.length c6)) = W4 at *
    obtain ⟨s0, s1, s2, s3, s4, s5, s6, s7, s8, s9, s10, s11, s12⟩ := r2.c13
    exact bodyPost_ret (v := .tuple #[.agg #[.int .i64 h.g.ba, .string h.g.bs, .int .i64 h.g.cp, .int .i64 h.g.lm, .bool h.g.en, .bool h.g.dn, .int .i64 h.t.nx, .string h.t.bs, .slice a5 h.t.l.length c5, .int .i64 h.t.cp, .int .i64 h.t.fi, .bool h.t.en, .slice a6 h.ws.length c6], .bool false]) (by rw [Tak.res_cell_tmp rfl]; clear r2 rT rW rB v2 oT oW f0 f1 f2 f3 f4 f5 f6 f7 f8 f9 f10 f11 f12 y0 y1 y2 y3 y4 y5 y6 y7 y8 y9 y10 y11 y12; go_simp; done) rfl ⟨a5, c5, a6, c6, rfl, rT, rW, rB⟩

  rw [decide_eq_true hn]
  obtain ⟨k, rfl⟩ : ∃ k : Nat, n = (k : Int) := ⟨n.toNat, by omega⟩
  have hk : k < h.ws.length := by omega
  obtain ⟨x, hx⟩ : ∃ x, h.ws[k]? = some x := ⟨h.ws[k], List.getElem?_eq_getElem hk⟩
  have i0 : (0 : Int) ≤ (k : Int) := by omega
  have i1 : (k : Int) < (h.ws.length : Int) := hn.2
  clear hn
  have hLW := lW
  rcases lW with hsL | ⟨b, off, haW, hsL⟩
  · rw [hsL] at hk; simp at hk
  subst haW
  have l0 : w2.cell? ⟨b, off + k * 7, none⟩ = some (.bool x.bk) := El.Lies.cell hsL hx (j := 0) rfl
  have l1 : w2.cell? ⟨b, off + k * 7 + 1, none⟩ = some (.int .i64 x.rd) := El.Lies.cell hsL hx (j := 1) rfl
  have l2 : w2.cell? ⟨b, off + k * 7 + 2, none⟩ = some (.int .i64 x.pl) := El.Lies.cell hsL hx (j := 2) rfl
  have l3 : w2.cell? ⟨b, off + k * 7 + 3, none⟩ = some (.string x.bs) := El.Lies.cell hsL hx (j := 3) rfl
  have l4 : w2.cell? ⟨b, off + k * 7 + 4, none⟩ = some (.bool x.en) := El.Lies.cell hsL hx (j := 4) rfl
  have l5 : w2.cell? ⟨b, off + k * 7 + 5, none⟩ = some (.int .i64 x.lm) := El.Lies.cell hsL hx (j := 5) rfl
  have l6 : w2.cell? ⟨b, off + k * 7 + 6, none⟩ = some (.bool x.dn) := El.Lies.cell hsL hx (j := 6) rfl
  have hR2 : R = (comeK h x k, true) := hR.trans (come_some HHB.out hx)
  have hlx := let_in ((hop_ok HHB.out).2.2.2 x (List.mem_of_getElem? hx))
  clear hR hsL
  have e12 := v1.cell (i := 12) rfl
  cases hbk : x.bk
  case true =>
    have hy : comeK h x k = ⟨(Giv.hearsG h.g x.pl x.lm x.dn).1, h.t, h.ws.take k ++ h.ws.drop (k + 1)⟩ := by unfold comeK; rw [hbk]; rfl
    rw [hy] at hR2
    generalize hyy : (⟨(Giv.hearsG h.g x.pl x.lm x.dn).1, h.t, h.ws.take k ++ h.ws.drop (k + 1)⟩ : Hp) = y at hR2
    have HY : Hid _ := hyy
    subst hR2
    clear hy hyy
    have HSH : Hid _ := fun w' => shapeBack x hbk w'
    clear hbk
    go_wp2_with fail
    refine (HSH.out _).mono ?_
    rintro e wS ⟨rfl, bS⟩
    replace v1 := v1.later bS
    replace v2 := v2.later bS
    replace lT := lT.later bS
    replace hLW := hLW.later bS
    have BS := B2.trans (bS.mono B2.size)
    have zS : w2.heap.size ≤ wS.heap.size := bS.size
    clear bS B2 e12
    obtain ⟨e0, e1, e2, e3, e4, e5, e6, e7, e8, e9, e10, e11, e12⟩ := v1.c13
    go_wp2_with fail
    clear HSH l0 l1 l2 l3 l4 l5 l6
    refine (HCP.out _ lT hLW).mono ?_
    rintro e w3 ⟨a5, c5, a6, c6, rfl, oT, oW, b3⟩
    replace v2 := v2.later b3
    have B3 := BS.trans (b3.mono BS.size)
    have z3 : wS.heap.size ≤ w3.heap.size := b3.size
    clear b3 HCP v1 lT hLW BS e0 e1 e2 e3 e4 e5 e6 e7 e8 e9 e10 e11 e12
    obtain ⟨g6, hg6⟩ : ∃ g6, a6 = some ⟨g6, 0, none⟩ := by
      rcases oW.form with ⟨_, _, q⟩ | ⟨g6, q, _⟩
      · rw [q] at hk; simp at hk
      · exact ⟨g6, q⟩
    subst hg6
    have hg6 := (oW.lt _ rfl).1
    simp only at hg6
    go_wp2_with fail
    refine (takenOut wS.heap.size g6 h a5 c5 c6 k _ oW hk hs.wl).mono ?_
    rintro e w4 ⟨rfl, oW4, k4⟩
    replace oT := oT.kept k4 (fun y hy => by have := own_two (by decide) oT oW y hy; simpa [blk] using this)
    replace v2 := v2.kept k4 (by omega)
    have B4 := B3.trans (k4.below (by omega) B3.size)
    have z4 : w3.heap.size ≤ w4.heap.size := k4.size
    clear k4 oW B3
    go_wp2_with fail
    refine (deliveredBack (cutH h k) a5 c5 (some ⟨g6, 0, none⟩) c6 x.pl x.lm x.dn _ (cut_sm hs k)).mono ?_
    rintro e w5 ⟨rfl, b5⟩
    replace v2 := v2.later b5
    replace oT := (oT.later b5).mono (B := w.heap.size) (by omega)
    have oW := (oW4.later b5).mono (B := w.heap.size) (by omega)
    have B5 := B4.trans (b5.mono B4.size)
    clear b5 B4 oW4
    dsimp only [cutH] at oT oW ⊢
    have hyy := HY.out
    rw [hyy]
    have q1 : (Giv.hearsG h.g x.pl x.lm x.dn).1 = y.g := by rw [← hyy]
    have q2 : h.t = y.t := by rw [← hyy]
    have q3 : h.ws.take k ++ h.ws.drop (k + 1) = y.ws := by rw [← hyy]
    rw [q2] at oT
    rw [q3] at oW
    clear q1 q2 q3 hyy HY
    obtain ⟨f0, f1, f2, f3, f4, f5, f6, f7, f8, f9, f10, f11, f12⟩ := v2.c13
    obtain ⟨y0, y1, y2, y3, y4, y5, y6, y7, y8, y9, y10, y11, y12⟩ := v2.f13
    go_wp2_with fail
    have r2 := var_all v2 [.int .i64 y.g.ba, .string y.g.bs, .int .i64 y.g.cp, .int .i64 y.g.lm, .bool y.g.en, .bool y.g.dn, .int .i64 y.t.nx, .string y.t.bs, .slice a5 y.t.l.length c5, .int .i64 y.t.cp, .int .i64 y.t.fi, .bool y.t.en, .slice (some ⟨g6, 0, none⟩) y.ws.length c6] rfl
    have rT := own_all (k := w.heap.size + 1) (own_win (by decide) oT v2.win) [.int .i64 y.g.ba, .string y.g.bs, .int .i64 y.g.cp, .int .i64 y.g.lm, .bool y.g.en, .bool y.g.dn, .int .i64 y.t.nx, .string y.t.bs, .slice a5 y.t.l.length c5, .int .i64 y.t.cp, .int .i64 y.t.fi, .bool y.t.en, .slice (some ⟨g6, 0, none⟩) y.ws.length c6] 0 w5 oT
    have rW := own_all (k := w.heap.size + 1) (own_win (by decide) oW v2.win) [.int .i64 y.g.ba, .string y.g.bs, .int .i64 y.g.cp, .int .i64 y.g.lm, .bool y.g.en, .bool y.g.dn, .int .i64 y.t.nx, .string y.t.bs, .slice a5 y.t.l.length c5, .int .i64 y.t.cp, .int .i64 y.t.fi, .bool y.t.en, .slice (some ⟨g6, 0, none⟩) y.ws.length c6] 0 w5 oW
    have rB := below_all (k := w.heap.size + 1) (by omega) [.int .i64 y.g.ba, .string y.g.bs, .int .i64 y.g.cp, .int .i64 y.g.lm, .bool y.g.en, .bool y.g.dn, .int .i64 y.t.nx, .string y.t.bs, .slice a5 y.t.l.length c5, .int .i64 y.t.cp, .int .i64 y.t.fi, .bool y.t.en, .slice (some ⟨g6, 0, none⟩) y.ws.length c6] 0 w5 B5
    simp only [World.setCells, Nat.reduceAdd] at r2 rT rW rB
    generalize (((((((((((((w5.setCell ⟨(w.heap.size + 1), 0, none⟩ (.int .i64 y.g.ba)).setCell ⟨(w.heap.size + 1), 1, none⟩ (.string y.g.bs)).setCell ⟨(w.heap.size + 1), 2, none⟩ (.int .i64 y.g.cp)).setCell ⟨(w.heap.size + 1), 3, none⟩ (.int .i64 y.g.lm)).setCell ⟨(w.heap.size + 1), 4, none⟩ (.bool y.g.en)).setCell ⟨(w.heap.size + 1), 5, none⟩ (.bool y.g.dn)).setCell ⟨(w.heap.size + 1), 6, none⟩ (.int .i64 y.t.nx)).setCell ⟨(w.heap.size + 1), 7, none⟩ (.string y.t.bs)).setCell ⟨(w.heap.size + 1), 8, none⟩ (.slice a5 y.t.l.length c5)).setCell ⟨(w.heap.size + 1), 9, none⟩ (.int .i64 y.t.cp)).setCell ⟨(w.heap.size + 1), 10, none⟩ (.int .i64 y.t.fi)).setCell ⟨(w.heap.size + 1), 11, none⟩ (.bool y.t.en)).setCell ⟨(w.heap.size + 1), 12, none⟩ (.slice (some ⟨g6, 0, none⟩) y.ws.length c6)) = W4 at *
    obtain ⟨s0, s1, s2, s3, s4, s5, s6, s7, s8, s9, s10, s11, s12⟩ := r2.c13
    exact bodyPost_ret (v := .tuple #[.agg #[.int .i64 y.g.ba, .string y.g.bs, .int .i64 y.g.cp, .int .i64 y.g.lm, .bool y.g.en, .bool y.g.dn, .int .i64 y.t.nx, .string y.t.bs, .slice a5 y.t.l.length c5, .int .i64 y.t.cp, .int .i64 y.t.fi, .bool y.t.en, .slice (some ⟨g6, 0, none⟩) y.ws.length c6], .bool true ]) (by rw [Tak.res_cell_tmp rfl]; clear r2 rT rW rB v2 oT oW f0 f1 f2 f3 f4 f5 f6 f7 f8 f9 f10 f11 f12 y0 y1 y2 y3 y4 y5 y6 y7 y8 y9 y10 y11 y12; go_simp; done) rfl ⟨a5, c5, (some ⟨g6, 0, none⟩), c6, rfl, rT, rW, rB⟩
  case false =>
    have hy : comeK h x k = ⟨h.g, (Tak.takes h.t x.pl x.bs x.en).1, h.ws.take k ++ h.ws.drop (k + 1)⟩ := by unfold comeK; rw [hbk]; rfl
    rw [hy] at hR2
    generalize hyy : (⟨h.g, (Tak.takes h.t x.pl x.bs x.en).1, h.ws.take k ++ h.ws.drop (k + 1)⟩ : Hp) = y at hR2
    have HY : Hid _ := hyy
    subst hR2
    clear hy hyy
    have HSH : Hid _ := fun w' => shapeForth x hbk w'
    clear hbk
    go_wp2_with fail
    refine (HSH.out _).mono ?_
    rintro e wS ⟨rfl, bS⟩
    replace v1 := v1.later bS
    replace v2 := v2.later bS
    replace lT := lT.later bS
    replace hLW := hLW.later bS
    have BS := B2.trans (bS.mono B2.size)
    have zS : w2.heap.size ≤ wS.heap.size := bS.size
    clear bS B2 e12
    obtain ⟨e0, e1, e2, e3, e4, e5, e6, e7, e8, e9, e10, e11, e12⟩ := v1.c13
    go_wp2_with fail
    clear HSH l0 l1 l2 l3 l4 l5 l6
    refine (HCP.out _ lT hLW).mono ?_
    rintro e w3 ⟨a5, c5, a6, c6, rfl, oT, oW, b3⟩
    replace v2 := v2.later b3
    have B3 := BS.trans (b3.mono BS.size)
    have z3 : wS.heap.size ≤ w3.heap.size := b3.size
    clear b3 HCP v1 lT hLW BS e0 e1 e2 e3 e4 e5 e6 e7 e8 e9 e10 e11 e12
    obtain ⟨g6, hg6⟩ : ∃ g6, a6 = some ⟨g6, 0, none⟩ := by
      rcases oW.form with ⟨_, _, q⟩ | ⟨g6, q, _⟩
      · rw [q] at hk; simp at hk
      · exact ⟨g6, q⟩
    subst hg6
    have hg6 := (oW.lt _ rfl).1
    simp only at hg6
    go_wp2_with fail
    refine (takenOut wS.heap.size g6 h a5 c5 c6 k _ oW hk hs.wl).mono ?_
    rintro e w4 ⟨rfl, oW4, k4⟩
    replace oT := oT.kept k4 (fun y hy => by have := own_two (by decide) oT oW y hy; simpa [blk] using this)
    replace v2 := v2.kept k4 (by omega)
    have B4 := B3.trans (k4.below (by omega) B3.size)
    have z4 : w3.heap.size ≤ w4.heap.size := k4.size
    clear k4 oW B3
    go_wp2_with fail
    refine (deliveredForth sortNil (cutH h k) a5 c5 (some ⟨g6, 0, none⟩) c6 x.pl x.bs x.en _ oT.lies oT.none_cap (cut_sm hs k) (by have := hlx.2; omega)).mono ?_
    rintro e w5 ⟨a7, c7, rfl, oT5, b5⟩
    replace v2 := v2.later b5
    have oT := oT5.mono (B := w.heap.size) (by omega)
    have oW := (oW4.later b5).mono (B := w.heap.size) (by omega)
    have B5 := B4.trans (b5.mono B4.size)
    clear b5 B4 oW4 oT5
    dsimp only [cutH] at oT oW ⊢
    have hyy := HY.out
    rw [hyy]
    have q1 : h.g = y.g := by rw [← hyy]
    have q2 : (Tak.takes h.t x.pl x.bs x.en).1 = y.t := by rw [← hyy]
    have q3 : h.ws.take k ++ h.ws.drop (k + 1) = y.ws := by rw [← hyy]
    rw [q2] at oT
    rw [q3] at oW
    clear q1 q2 q3 hyy HY
    obtain ⟨f0, f1, f2, f3, f4, f5, f6, f7, f8, f9, f10, f11, f12⟩ := v2.c13
    obtain ⟨y0, y1, y2, y3, y4, y5, y6, y7, y8, y9, y10, y11, y12⟩ := v2.f13
    go_wp2_with fail
    have r2 := var_all v2 [.int .i64 y.g.ba, .string y.g.bs, .int .i64 y.g.cp, .int .i64 y.g.lm, .bool y.g.en, .bool y.g.dn, .int .i64 y.t.nx, .string y.t.bs, .slice a7 y.t.l.length c7, .int .i64 y.t.cp, .int .i64 y.t.fi, .bool y.t.en, .slice (some ⟨g6, 0, none⟩) y.ws.length c6] rfl
    have rT := own_all (k := w.heap.size + 1) (own_win (by decide) oT v2.win) [.int .i64 y.g.ba, .string y.g.bs, .int .i64 y.g.cp, .int .i64 y.g.lm, .bool y.g.en, .bool y.g.dn, .int .i64 y.t.nx, .string y.t.bs, .slice a7 y.t.l.length c7, .int .i64 y.t.cp, .int .i64 y.t.fi, .bool y.t.en, .slice (some ⟨g6, 0, none⟩) y.ws.length c6] 0 w5 oT
    have rW := own_all (k := w.heap.size + 1) (own_win (by decide) oW v2.win) [.int .i64 y.g.ba, .string y.g.bs, .int .i64 y.g.cp, .int .i64 y.g.lm, .bool y.g.en, .bool y.g.dn, .int .i64 y.t.nx, .string y.t.bs, .slice a7 y.t.l.length c7, .int .i64 y.t.cp, .int .i64 y.t.fi, .bool y.t.en, .slice (some ⟨g6, 0, none⟩) y.ws.length c6] 0 w5 oW
    have rB := below_all (k := w.heap.size + 1) (by omega) [.int .i64 y.g.ba, .string y.g.bs, .int .i64 y.g.cp, .int .i64 y.g.lm, .bool y.g.en, .bool y.g.dn, .int .i64 y.t.nx, .string y.t.bs, .slice a7 y.t.l.length c7, .int .i64 y.t.cp, .int .i64 y.t.fi, .bool y.t.en, .slice (some ⟨g6, 0, none⟩) y.ws.length c6] 0 w5 B5
    simp only [World.setCells, Nat.reduceAdd] at r2 rT rW rB
    generalize (((((((((((((w5.setCell ⟨(w.heap.size + 1), 0, none⟩ (.int .i64 y.g.ba)).setCell ⟨(w.heap.size + 1), 1, none⟩ (.string y.g.bs)).setCell ⟨(w.heap.size + 1), 2, none⟩ (.int .i64 y.g.cp)).setCell ⟨(w.heap.size + 1), 3, none⟩ (.int .i64 y.g.lm)).setCell ⟨(w.heap.size + 1), 4, none⟩ (.bool y.g.en)).setCell ⟨(w.heap.size + 1), 5, none⟩ (.bool y.g.dn)).setCell ⟨(w.heap.size + 1), 6, none⟩ (.int .i64 y.t.nx)).setCell ⟨(w.heap.size + 1), 7, none⟩ (.string y.t.bs)).setCell ⟨(w.heap.size + 1), 8, none⟩ (.slice a7 y.t.l.length c7)).setCell ⟨(w.heap.size + 1), 9, none⟩ (.int .i64 y.t.cp)).setCell ⟨(w.heap.size + 1), 10, none⟩ (.int .i64 y.t.fi)).setCell ⟨(w.heap.size + 1), 11, none⟩ (.bool y.t.en)).setCell ⟨(w.heap.size + 1), 12, none⟩ (.slice (some ⟨g6, 0, none⟩) y.ws.length c6)) = W4 at *
    obtain ⟨s0, s1, s2, s3, s4, s5, s6, s7, s8, s9, s10, s11, s12⟩ := r2.c13
    exact bodyPost_ret (v := .tuple #[.agg #[.int .i64 y.g.ba, .string y.g.bs, .int .i64 y.g.cp, .int .i64 y.g.lm, .bool y.g.en, .bool y.g.dn, .int .i64 y.t.nx, .string y.t.bs, .slice a7 y.t.l.length c7, .int .i64 y.t.cp, .int .i64 y.t.fi, .bool y.t.en, .slice (some ⟨g6, 0, none⟩) y.ws.length c6], .bool true ]) (by rw [Tak.res_cell_tmp rfl]; clear r2 rT rW rB v2 oT oW f0 f1 f2 f3 f4 f5 f6 f7 f8 f9 f10 f11 f12 y0 y1 y2 y3 y4 y5 y6 y7 y8 y9 y10 y11 y12; go_simp; done) rfl ⟨a7, c7, (some ⟨g6, 0, none⟩), c6, rfl, rT, rW, rB⟩

end Go.Proofs.YtjnkjeajkmgcmaaGreat.Hop
