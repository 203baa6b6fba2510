/- The program's Arrives and Loses; of hops that are not too great. -/
import Derived.Test.YtjnkjeajkmgcmaaGreatMg13
import Derived.Test.YtjnkjeajkmgcmaaGreatHopW
import Derived.Test.YtjnkjeajkmgcmaaGreatHopR
import Derived.Test.YtjnkjeajkmgcmaaGreatMg16
import Derived.Test.YtjnkjeajkmgcmaaGreatMg17
namespace Go.Proofs.YtjnkjeajkmgcmaaGreat.Hop
open Go.RowKit RowG
set_option linter.unusedVariables false
set_option linter.unusedSimpArgs false

def comeK (h : Hp) (x : Lt) (k : Nat) : Hp := if x.bk then ⟨(Giv.hearsG h.g x.pl x.lm x.dn).1, h.t, h.ws.take k ++ h.ws.drop (k + 1)⟩ else ⟨h.g, (Tak.takes h.t x.pl x.bs x.en).1, h.ws.take k ++ h.ws.drop (k + 1)⟩
theorem come_some {h : Hp} {k : Nat} {x : Lt} (hb : hopB h = true) (hx : h.ws[k]? = some x) : comeH h k = (comeK h x k, true) := by
  obtain ⟨_, hg, ht, _⟩ := hop_ok hb
  unfold comeH comeK
  rw [outH_some hx]
  dsimp only
  unfold Giv.hearsG Tak.takes
  rw [if_pos hg, if_pos ht]
theorem come_none {h : Hp} {n : Int} (hn : n < 0 ∨ (h.ws.length : Int) ≤ n) : comeH h n = (h, false) := by
  unfold comeH
  rw [outH_none hn]
theorem lose_some {h : Hp} {k : Nat} {x : Lt} (hx : h.ws[k]? = some x) : lose2 h k = (cutH h k, true) := by
  unfold lose2
  rw [outH_some hx]
theorem lose_none {h : Hp} {n : Int} (hn : n < 0 ∨ (h.ws.length : Int) ≤ n) : lose2 h n = (h, false) := by
  unfold lose2
  rw [outH_none hn]
theorem cut_sm {h : Hp} (hs : h.Sm) (k : Nat) : (cutH h k).Sm :=
  ⟨hs.gb, hs.tb, hs.tl, hs.bd, by have := hs.wl; simp only [List.length_append, List.length_take, List.length_drop]; omega, fun x hx => hs.wb x (by
    rcases List.mem_append.1 hx with q | q
    · exact List.mem_of_mem_take q
    · exact List.mem_of_mem_drop q)⟩

set_option maxRecDepth 10000 in
set_option maxHeartbeats 8000000 in
theorem implLoses (h : Hp) (aT : Option Addr) (cT : Nat) (aW : Option Addr) (cW : Nat) (n : Int) (w : World) (hT : Tak.partE.Lies w aT h.t.l) (hW : letE.Lies w aW h.ws) (hnT : aT = none → cT = 0) (hnW : aW = none → cW = 0) (hs : h.Sm) :
    Calls Tryz.prog 7 #[h.v aT cT aW cW, .int .i64 n] w fun e w' => ∃ aT' cT' aW' cW', e = .returned (.tuple #[(losesH h n).1.v aT' cT' aW' cW', .bool (losesH h n).2]) ∧ Tak.partE.Own 69 w' w.heap.size aT' cT' (losesH h n).1.t.l ∧ letE.Own 39 w' w.heap.size aW' cW' (losesH h n).1.ws ∧ Below w.heap.size w w' := by
  have hmix := mix
  have v1 : Var 31 ((w.alloc (.cells #[.int .i64 h.g.ba, .string h.g.bs, .int .i64 h.g.cp, .int .i64 h.g.lm, .bool h.g.en, .bool h.g.dn, .int .i64 h.t.nx, .string h.t.bs, .slice aT h.t.l.length cT, .int .i64 h.t.cp, .int .i64 h.t.fi, .bool h.t.en, .slice aW h.ws.length cW] 31)).alloc (.cells #[.int .i64 0, .string ⟨#[]⟩, .int .i64 0, .int .i64 0, .bool false, .bool false, .int .i64 0, .string ⟨#[]⟩, .slice none 0 0, .int .i64 0, .int .i64 0, .bool false, .slice none 0 0] 31)) w.heap.size [.int .i64 h.g.ba, .string h.g.bs, .int .i64 h.g.cp, .int .i64 h.g.lm, .bool h.g.en, .bool h.g.dn, .int .i64 h.t.nx, .string h.t.bs, .slice aT h.t.l.length cT, .int .i64 h.t.cp, .int .i64 h.t.fi, .bool h.t.en, .slice aW h.ws.length cW] := (Var.new w [.int .i64 h.g.ba, .string h.g.bs, .int .i64 h.g.cp, .int .i64 h.g.lm, .bool h.g.en, .bool h.g.dn, .int .i64 h.t.nx, .string h.t.bs, .slice aT h.t.l.length cT, .int .i64 h.t.cp, .int .i64 h.t.fi, .bool h.t.en, .slice aW h.ws.length cW]).alloc _
  have v2 : Var 31 ((w.alloc (.cells #[.int .i64 h.g.ba, .string h.g.bs, .int .i64 h.g.cp, .int .i64 h.g.lm, .bool h.g.en, .bool h.g.dn, .int .i64 h.t.nx, .string h.t.bs, .slice aT h.t.l.length cT, .int .i64 h.t.cp, .int .i64 h.t.fi, .bool h.t.en, .slice aW h.ws.length cW] 31)).alloc (.cells #[.int .i64 0, .string ⟨#[]⟩, .int .i64 0, .int .i64 0, .bool false, .bool false, .int .i64 0, .string ⟨#[]⟩, .slice none 0 0, .int .i64 0, .int .i64 0, .bool false, .slice none 0 0] 31)) (w.heap.size + 1) [.int .i64 0, .string ⟨#[]⟩, .int .i64 0, .int .i64 0, .bool false, .bool false, .int .i64 0, .string ⟨#[]⟩, .slice none 0 0, .int .i64 0, .int .i64 0, .bool false, .slice none 0 0] := by
    have q := Var.new (T := 31) (w.alloc (.cells #[.int .i64 h.g.ba, .string h.g.bs, .int .i64 h.g.cp, .int .i64 h.g.lm, .bool h.g.en, .bool h.g.dn, .int .i64 h.t.nx, .string h.t.bs, .slice aT h.t.l.length cT, .int .i64 h.t.cp, .int .i64 h.t.fi, .bool h.t.en, .slice aW h.ws.length cW] 31)) [.int .i64 0, .string ⟨#[]⟩, .int .i64 0, .int .i64 0, .bool false, .bool false, .int .i64 0, .string ⟨#[]⟩, .slice none 0 0, .int .i64 0, .int .i64 0, .bool false, .slice none 0 0]
    simpa using q
  have b0 : Below w.heap.size w ((w.alloc (.cells #[.int .i64 h.g.ba, .string h.g.bs, .int .i64 h.g.cp, .int .i64 h.g.lm, .bool h.g.en, .bool h.g.dn, .int .i64 h.t.nx, .string h.t.bs, .slice aT h.t.l.length cT, .int .i64 h.t.cp, .int .i64 h.t.fi, .bool h.t.en, .slice aW h.ws.length cW] 31)).alloc (.cells #[.int .i64 0, .string ⟨#[]⟩, .int .i64 0, .int .i64 0, .bool false, .bool false, .int .i64 0, .string ⟨#[]⟩, .slice none 0 0, .int .i64 0, .int .i64 0, .bool false, .slice none 0 0] 31)) := ((Below.refl _ _).alloc (Nat.le_refl _) _).alloc (by simp) _
  have lT := hT.later b0
  have lW := hW.later b0
  have HOK : Hid _ := fun w' a b => implHopOk h aT cT aW cW w' a b hs
  have HUW : Hid _ := fun w' => isUnderWay h aT cT aW cW n w'
  have HCP : Hid _ := fun w' a b => ownHop h aT cT aW cW w' a b hnT hnW hs.tl hs.wl
  have HR : Hid (losesH h n = if hopB h then lose2 h n else (zeroH, false)) := rfl
  generalize losesH h n = R at *
  go_enter Tryz.func7, Tryz.ntmps7
  go_upto_region 1 with (fail)
  generalize (w.alloc (.cells #[.int .i64 h.g.ba, .string h.g.bs, .int .i64 h.g.cp, .int .i64 h.g.lm, .bool h.g.en, .bool h.g.dn, .int .i64 h.t.nx, .string h.t.bs, .slice aT h.t.l.length cT, .int .i64 h.t.cp, .int .i64 h.t.fi, .bool h.t.en, .slice aW h.ws.length cW] 31)).alloc (.cells #[.int .i64 0, .string ⟨#[]⟩, .int .i64 0, .int .i64 0, .bool false, .bool false, .int .i64 0, .string ⟨#[]⟩, .slice none 0 0, .int .i64 0, .int .i64 0, .bool false, .slice none 0 0] 31) = V at *
  obtain ⟨e0, e1, e2, e3, e4, e5, e6, e7, e8, e9, e10, e11, e12⟩ := v1.c13
  go_wp2_with fail
  refine (HOK.out _ lT lW).mono ?_
  rintro e w1 ⟨rfl, b1⟩
  replace v1 := v1.later b1
  replace v2 := v2.later b1
  replace lW := lW.later b1
  replace lT := lT.later b1
  have B1 := b0.trans (b1.mono b0.size)
  clear HOK b1 b0 e0 e1 e2 e3 e4 e5 e6 e7 e8 e9 e10 e11 e12
  cases hb : hopB h
  case false =>
    have hR : R = (zeroH, false) := by rw [HR.out, hb]; rfl
    subst hR
    dsimp only [zeroH, Tak.zeroK, List.length_nil]
    obtain ⟨f0, f1, f2, f3, f4, f5, f6, f7, f8, f9, f10, f11, f12⟩ := v2.c13
    obtain ⟨y0, y1, y2, y3, y4, y5, y6, y7, y8, y9, y10, y11, y12⟩ := v2.f13
    go_wp2_with fail
    have r2 := var_all v2 [.int .i64 0, .string ⟨#[]⟩, .int .i64 0, .int .i64 0, .bool false, .bool false, .int .i64 0, .string ⟨#[]⟩, .slice none 0 0, .int .i64 0, .int .i64 0, .bool false, .slice none 0 0] rfl
    have rB := below_all (k := w.heap.size + 1) (by omega) [.int .i64 0, .string ⟨#[]⟩, .int .i64 0, .int .i64 0, .bool false, .bool false, .int .i64 0, .string ⟨#[]⟩, .slice none 0 0, .int .i64 0, .int .i64 0, .bool false, .slice none 0 0] 0 w1 B1
    simp only [World.setCells, Nat.reduceAdd] at r2 rB
    generalize (((((((((((((w1.setCell ⟨(w.heap.size + 1), 0, none⟩ (.int .i64 0)).setCell ⟨(w.heap.size + 1), 1, none⟩ (.string ⟨#[]⟩)).setCell ⟨(w.heap.size + 1), 2, none⟩ (.int .i64 0)).setCell ⟨(w.heap.size + 1), 3, none⟩ (.int .i64 0)).setCell ⟨(w.heap.size + 1), 4, none⟩ (.bool false)).setCell ⟨(w.heap.size + 1), 5, none⟩ (.bool false)).setCell ⟨(w.heap.size + 1), 6, none⟩ (.int .i64 0)).setCell ⟨(w.heap.size + 1), 7, none⟩ (.string ⟨#[]⟩)).setCell ⟨(w.heap.size + 1), 8, none⟩ (.slice none 0 0)).setCell ⟨(w.heap.size + 1), 9, none⟩ (.int .i64 0)).setCell ⟨(w.heap.size + 1), 10, none⟩ (.int .i64 0)).setCell ⟨(w.heap.size + 1), 11, none⟩ (.bool false)).setCell ⟨(w.heap.size + 1), 12, none⟩ (.slice none 0 0)) = W4 at *
    obtain ⟨s0, s1, s2, s3, s4, s5, s6, s7, s8, s9, s10, s11, s12⟩ := r2.c13
    exact bodyPost_ret (v := .tuple #[.agg #[.int .i64 0, .string ⟨#[]⟩, .int .i64 0, .int .i64 0, .bool false, .bool false, .int .i64 0, .string ⟨#[]⟩, .slice none 0 0, .int .i64 0, .int .i64 0, .bool false, .slice none 0 0], .bool false]) (by rw [Tak.res_cell_tmp rfl]; clear r2 rB v2 f0 f1 f2 f3 f4 f5 f6 f7 f8 f9 f10 f11 f12 y0 y1 y2 y3 y4 y5 y6 y7 y8 y9 y10 y11 y12 v1; go_simp; done) rfl ⟨none, 0, none, 0, rfl, El.Own.none _ _, El.Own.none _ _, rB⟩

  have hR : R = lose2 h n := by rw [HR.out, hb]; rfl
  have HHB : Hid (hopB h = true) := hb
  clear HR hb
  obtain ⟨e0, e1, e2, e3, e4, e5, e6, e7, e8, e9, e10, e11, e12⟩ := v1.c13
  go_wp2_with fail
  refine (HUW.out _).mono ?_
  rintro e w2 ⟨rfl, b2⟩
  replace v1 := v1.later b2
  replace v2 := v2.later b2
  replace lW := lW.later b2
  replace lT := lT.later b2
  have B2 := B1.trans (b2.mono B1.size)
  have hV2 : w.heap.size + 1 < w2.heap.size := v2.lt
  clear HUW b2 B1 e0 e1 e2 e3 e4 e5 e6 e7 e8 e9 e10 e11 e12
  by_cases hn : 0 ≤ n ∧ n < (h.ws.length : Int)
  case neg =>
    rw [decide_eq_false hn]
    have hR2 : R = (h, false) := hR.trans (lose_none (by omega))
    subst hR2
    clear hR
    obtain ⟨e0, e1, e2, e3, e4, e5, e6, e7, e8, e9, e10, e11, e12⟩ := v1.c13
    go_wp2_with fail
    refine (HCP.out _ lT lW).mono ?_
    rintro e w3 ⟨a5, c5, a6, c6, rfl, oT, oW, b3⟩
    replace v2 := v2.later b3
    have B4 := B2.trans (b3.mono B2.size)
    replace oT := oT.mono (B := w.heap.size) (by omega)
    replace oW := oW.mono (B := w.heap.size) (by omega)
    clear b3 HCP v1 lT lW B2 e0 e1 e2 e3 e4 e5 e6 e7 e8 e9 e10 e11 e12
    obtain ⟨f0, f1, f2, f3, f4, f5, f6, f7, f8, f9, f10, f11, f12⟩ := v2.c13
    obtain ⟨y0, y1, y2, y3, y4, y5, y6, y7, y8, y9, y10, y11, y12⟩ := v2.f13
    go_wp2_with fail
    have r2 := var_all v2 [.int .i64 h.g.ba, .string h.g.bs, .int .i64 h.g.cp, .int .i64 h.g.lm, .bool h.g.en, .bool h.g.dn, .int .i64 h.t.nx, .string h.t.bs, .slice a5 h.t.l.length c5, .int .i64 h.t.cp, .int .i64 h.t.fi, .bool h.t.en, .slice a6 h.ws.length c6] rfl
    have rT := own_all (k := w.heap.size + 1) (own_win (by decide) oT v2.win) [.int .i64 h.g.ba, .string h.g.bs, .int .i64 h.g.cp, .int .i64 h.g.lm, .bool h.g.en, .bool h.g.dn, .int .i64 h.t.nx, .string h.t.bs, .slice a5 h.t.l.length c5, .int .i64 h.t.cp, .int .i64 h.t.fi, .bool h.t.en, .slice a6 h.ws.length c6] 0 w3 oT
    have rW := own_all (k := w.heap.size + 1) (own_win (by decide) oW v2.win) [.int .i64 h.g.ba, .string h.g.bs, .int .i64 h.g.cp, .int .i64 h.g.lm, .bool h.g.en, .bool h.g.dn, .int .i64 h.t.nx, .string h.t.bs, .slice a5 h.t.l.length c5, .int .i64 h.t.cp, .int .i64 h.t.fi, .bool h.t.en, .slice a6 h.ws.length c6] 0 w3 oW
    have rB := below_all (k := w.heap.size + 1) (by omega) [.int .i64 h.g.ba, .string h.g.bs, .int .i64 h.g.cp, .int .i64 h.g.lm, .bool h.g.en, .bool h.g.dn, .int .i64 h.t.nx, .string h.t.bs, .slice a5 h.t.l.length c5, .int .i64 h.t.cp, .int .i64 h.t.fi, .bool h.t.en, .slice a6 h.ws.length c6] 0 w3 B4
    simp only [World.setCells, Nat.reduceAdd] at r2 rT rW rB
    generalize (((((((((((((w3.setCell ⟨(w.heap.size + 1), 0, none⟩ (.int .i64 h.g.ba)).setCell ⟨(w.heap.size + 1), 1, none⟩ (.string h.g.bs)).setCell ⟨(w.heap.size + 1), 2, none⟩ (.int .i64 h.g.cp)).setCell ⟨(w.heap.size + 1), 3, none⟩ (.int .i64 h.g.lm)).setCell ⟨(w.heap.size + 1), 4, none⟩ (.bool h.g.en)).setCell ⟨(w.heap.size + 1), 5, none⟩ (.bool h.g.dn)).setCell ⟨(w.heap.size + 1), 6, none⟩ (.int .i64 h.t.nx)).setCell ⟨(w.heap.size + 1), 7, none⟩ (.string h.t.bs)).setCell ⟨(w.heap.size + 1), 8, none⟩ (.slice a5 h.t.l.length c5)).setCell ⟨(w.heap.size + 1), 9, none⟩ (.int .i64 h.t.cp)).setCell ⟨(w.heap.size + 1), 10, none⟩ (.int .i64 h.t.fi)).setCell ⟨(w.heap.size + 1), 11, none⟩ (.bool h.t.en)).setCell ⟨(w.heap.size + 1), 12, none⟩ (.slice a6 h.ws.length c6)) = W4 at *
    obtain ⟨s0, s1, s2, s3, s4, s5, s6, s7, s8, s9, s10, s11, s12⟩ := r2.c13
    exact bodyPost_ret (v := .tuple #[.agg #[.int .i64 h.g.ba, .string h.g.bs, .int .i64 h.g.cp, .int .i64 h.g.lm, .bool h.g.en, .bool h.g.dn, .int .i64 h.t.nx, .string h.t.bs, .slice a5 h.t.l.length c5, .int .i64 h.t.cp, .int .i64 h.t.fi, .bool h.t.en, .slice a6 h.ws.length c6], .bool false]) (by rw [Tak.res_cell_tmp rfl]; clear r2 rT rW rB v2 oT oW f0 f1 f2 f3 f4 f5 f6 f7 f8 f9 f10 f11 f12 y0 y1 y2 y3 y4 y5 y6 y7 y8 y9 y10 y11 y12; go_simp; done) rfl ⟨a5, c5, a6, c6, rfl, rT, rW, rB⟩

  rw [decide_eq_true hn]
  obtain ⟨k, rfl⟩ : ∃ k : Nat, n = (k : Int) := ⟨n.toNat, by omega⟩
  have hk : k < h.ws.length := by omega
  obtain ⟨x, hx⟩ : ∃ x, h.ws[k]? = some x := ⟨h.ws[k], List.getElem?_eq_getElem hk⟩
  have i0 : (0 : Int) ≤ (k : Int) := by omega
  have i1 : (k : Int) < (h.ws.length : Int) := hn.2
  clear hn
  have hR2 : R = (cutH h k, true) := hR.trans (lose_some hx)
  subst hR2
  clear hR
  obtain ⟨e0, e1, e2, e3, e4, e5, e6, e7, e8, e9, e10, e11, e12⟩ := v1.c13
  go_wp2_with fail
  refine (HCP.out _ lT lW).mono ?_
  rintro e w3 ⟨a5, c5, a6, c6, rfl, oT, oW, b3⟩
  replace v2 := v2.later b3
  have B3 := B2.trans (b3.mono B2.size)
  have z3 : w2.heap.size ≤ w3.heap.size := b3.size
  clear b3 HCP v1 lT lW B2 e0 e1 e2 e3 e4 e5 e6 e7 e8 e9 e10 e11 e12
  obtain ⟨g6, hg6⟩ : ∃ g6, a6 = some ⟨g6, 0, none⟩ := by
    rcases oW.form with ⟨_, _, q⟩ | ⟨g6, q, _⟩
    · rw [q] at hk; simp at hk
    · exact ⟨g6, q⟩
  subst hg6
  have hg6 := (oW.lt _ rfl).1
  simp only at hg6
  go_wp2_with fail
  refine (takenOut w2.heap.size g6 h a5 c5 c6 k _ oW hk hs.wl).mono ?_
  rintro e w4 ⟨rfl, oW4, k4⟩
  replace oT := oT.kept k4 (fun y hy => by have := own_two (by decide) oT oW y hy; simpa [blk] using this)
  replace v2 := v2.kept k4 (by omega)
  have B4 := B3.trans (k4.below (by omega) B3.size)
  have z4 : w3.heap.size ≤ w4.heap.size := k4.size
  clear k4 oW B3
  replace oT := oT.mono (B := w.heap.size) (by omega)
  have oW := oW4.mono (B := w.heap.size) (by omega)
  clear oW4
  dsimp only [cutH] at oT oW ⊢
  generalize hyy : (⟨h.g, h.t, h.ws.take k ++ h.ws.drop (k + 1)⟩ : Hp) = y
  have q1 : h.g = y.g := by rw [← hyy]
  have q2 : h.t = y.t := by rw [← hyy]
  have q3 : h.ws.take k ++ h.ws.drop (k + 1) = y.ws := by rw [← hyy]
  rw [q2] at oT
  rw [q3] at oW
  have HY : Hid _ := hyy
  clear q1 q2 q3 hyy
  obtain ⟨f0, f1, f2, f3, f4, f5, f6, f7, f8, f9, f10, f11, f12⟩ := v2.c13
  obtain ⟨y0, y1, y2, y3, y4, y5, y6, y7, y8, y9, y10, y11, y12⟩ := v2.f13
  go_wp2_with fail
  have r2 := var_all v2 [.int .i64 y.g.ba, .string y.g.bs, .int .i64 y.g.cp, .int .i64 y.g.lm, .bool y.g.en, .bool y.g.dn, .int .i64 y.t.nx, .string y.t.bs, .slice a5 y.t.l.length c5, .int .i64 y.t.cp, .int .i64 y.t.fi, .bool y.t.en, .slice (some ⟨g6, 0, none⟩) y.ws.length c6] rfl
  have rT := own_all (k := w.heap.size + 1) (own_win (by decide) oT v2.win) [.int .i64 y.g.ba, .string y.g.bs, .int .i64 y.g.cp, .int .i64 y.g.lm, .bool y.g.en, .bool y.g.dn, .int .i64 y.t.nx, .string y.t.bs, .slice a5 y.t.l.length c5, .int .i64 y.t.cp, .int .i64 y.t.fi, .bool y.t.en, .slice (some ⟨g6, 0, none⟩) y.ws.length c6] 0 w4 oT
  have rW := own_all (k := w.heap.size + 1) (own_win (by decide) oW v2.win) [.int .i64 y.g.ba, .string y.g.bs, .int .i64 y.g.cp, .int .i64 y.g.lm, .bool y.g.en, .bool y.g.dn, .int .i64 y.t.nx, .string y.t.bs, .slice a5 y.t.l.length c5, .int .i64 y.t.cp, .int .i64 y.t.fi, .bool y.t.en, .slice (some ⟨g6, 0, none⟩) y.ws.length c6] 0 w4 oW
  have rB := below_all (k := w.heap.size + 1) (by omega) [.int .i64 y.g.ba, .string y.g.bs, .int .i64 y.g.cp, .int .i64 y.g.lm, .bool y.g.en, .bool y.g.dn, .int .i64 y.t.nx, .string y.t.bs, .slice a5 y.t.l.length c5, .int .i64 y.t.cp, .int .i64 y.t.fi, .bool y.t.en, .slice (some ⟨g6, 0, none⟩) y.ws.length c6] 0 w4 B4
  simp only [World.setCells, Nat.reduceAdd] at r2 rT rW rB
  generalize (((((((((((((w4.setCell ⟨(w.heap.size + 1), 0, none⟩ (.int .i64 y.g.ba)).setCell ⟨(w.heap.size + 1), 1, none⟩ (.string y.g.bs)).setCell ⟨(w.heap.size + 1), 2, none⟩ (.int .i64 y.g.cp)).setCell ⟨(w.heap.size + 1), 3, none⟩ (.int .i64 y.g.lm)).setCell ⟨(w.heap.size + 1), 4, none⟩ (.bool y.g.en)).setCell ⟨(w.heap.size + 1), 5, none⟩ (.bool y.g.dn)).setCell ⟨(w.heap.size + 1), 6, none⟩ (.int .i64 y.t.nx)).setCell ⟨(w.heap.size + 1), 7, none⟩ (.string y.t.bs)).setCell ⟨(w.heap.size + 1), 8, none⟩ (.slice a5 y.t.l.length c5)).setCell ⟨(w.heap.size + 1), 9, none⟩ (.int .i64 y.t.cp)).setCell ⟨(w.heap.size + 1), 10, none⟩ (.int .i64 y.t.fi)).setCell ⟨(w.heap.size + 1), 11, none⟩ (.bool y.t.en)).setCell ⟨(w.heap.size + 1), 12, none⟩ (.slice (some ⟨g6, 0, none⟩) y.ws.length c6)) = W4 at *
  obtain ⟨s0, s1, s2, s3, s4, s5, s6, s7, s8, s9, s10, s11, s12⟩ := r2.c13
  exact bodyPost_ret (v := .tuple #[.agg #[.int .i64 y.g.ba, .string y.g.bs, .int .i64 y.g.cp, .int .i64 y.g.lm, .bool y.g.en, .bool y.g.dn, .int .i64 y.t.nx, .string y.t.bs, .slice a5 y.t.l.length c5, .int .i64 y.t.cp, .int .i64 y.t.fi, .bool y.t.en, .slice (some ⟨g6, 0, none⟩) y.ws.length c6], .bool true]) (by rw [Tak.res_cell_tmp rfl]; clear r2 rT rW rB v2 oT oW f0 f1 f2 f3 f4 f5 f6 f7 f8 f9 f10 f11 f12 y0 y1 y2 y3 y4 y5 y6 y7 y8 y9 y10 y11 y12; go_simp; done) rfl (by have hyy := HY.out; subst hyy; exact ⟨a5, c5, (some ⟨g6, 0, none⟩), c6, rfl, rT, rW, rB⟩)

end Go.Proofs.YtjnkjeajkmgcmaaGreat.Hop
