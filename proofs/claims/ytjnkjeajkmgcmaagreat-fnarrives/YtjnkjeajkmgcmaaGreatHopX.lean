/- The program's Doubles; of hops that are not too great. -/
import Derived.Test.YtjnkjeajkmgcmaaGreatMg13
import Derived.Test.YtjnkjeajkmgcmaaGreatHopW
import Derived.Test.YtjnkjeajkmgcmaaGreatHopR
import Derived.Test.YtjnkjeajkmgcmaaGreatMg16
import Derived.Test.YtjnkjeajkmgcmaaGreatMg17
import Derived.Test.YtjnkjeajkmgcmaaGreatHopS
import Derived.Test.YtjnkjeajkmgcmaaGreatMg6
namespace Go.Proofs.YtjnkjeajkmgcmaaGreat.Hop
open Go.RowKit RowG
set_option linter.unusedVariables false
set_option linter.unusedSimpArgs false

theorem room_post {h : Hp} {x : Lt} (hl : letB x = true) : roomB h x = postB h x ∧ roomH h x = postH h x := by
  have hr : decide (0 ≤ x.rd ∧ x.rd ≤ 3) = true := by
    unfold letB at hl
    simp only [Bool.and_eq_true] at hl
    exact hl.1
  have e : roomB h x = postB h x := by
    unfold roomB postB
    rw [hr, hl, Bool.true_and, Bool.and_true]
  refine ⟨e, ?_⟩
  unfold roomH postH
  rw [e]
theorem let_cells {w : World} {b off : Nat} {l : List Lt} (h : letE.Lies w (some ⟨b, off, none⟩) l) {k : Nat} {x : Lt} (hx : l[k]? = some x) :
    w.cell? ⟨b, off + k * 7, none⟩ = some (.bool x.bk) ∧ w.cell? ⟨b, off + k * 7 + 1, none⟩ = some (.int .i64 x.rd) ∧ w.cell? ⟨b, off + k * 7 + 2, none⟩ = some (.int .i64 x.pl) ∧ w.cell? ⟨b, off + k * 7 + 3, none⟩ = some (.string x.bs) ∧ w.cell? ⟨b, off + k * 7 + 4, none⟩ = some (.bool x.en) ∧ w.cell? ⟨b, off + k * 7 + 5, none⟩ = some (.int .i64 x.lm) ∧ w.cell? ⟨b, off + k * 7 + 6, none⟩ = some (.bool x.dn) := by
  rcases h with h | ⟨b', off', e, hs⟩
  · rw [h] at hx; simp at hx
  cases e
  exact ⟨El.Lies.cell hs hx (j := 0) rfl, El.Lies.cell hs hx (j := 1) rfl, El.Lies.cell hs hx (j := 2) rfl, El.Lies.cell hs hx (j := 3) rfl, El.Lies.cell hs hx (j := 4) rfl, El.Lies.cell hs hx (j := 5) rfl, El.Lies.cell hs hx (j := 6) rfl⟩
theorem keep_var {T : TypeId} {w w' : World} {B k c j : Nat} {a : Option Addr} {l : List Lt} {vs : List Value} (h : Keep k (blk a) w w') (v : Var T w j vs) (o : letE.Own 39 w B a c l) (hj : j ≠ k) (hB : j < B) : Var T w' j vs :=
  v.same (h.block j v.lt hj (fun e => by have := blk_ge o j e.symm; omega))
theorem keep_lies {w w' : World} {B k c b off : Nat} {a : Option Addr} {l l' : List Lt} (h : Keep k (blk a) w w') (L : letE.Lies w (some ⟨b, off, none⟩) l') (o : letE.Own 39 w B a c l) (hb : b < B) (hk : b ≠ k) : letE.Lies w' (some ⟨b, off, none⟩) l' :=
  L.same fun x hx hlt => by
    cases hx
    exact h.block b hlt hk (fun e => by have := blk_ge o b e.symm; omega)

set_option maxRecDepth 10000 in
set_option maxHeartbeats 8000000 in
theorem implDoubles (h : Hp) (aT : Option Addr) (cT : Nat) (aW : Option Addr) (cW : Nat) (n : Int) (w : World) (hT : Tak.partE.Lies w aT h.t.l) (hW : letE.Lies w aW h.ws) (hnT : aT = none → cT = 0) (hnW : aW = none → cW = 0) (hs : h.Sm) :
    Calls Tryz.prog 8 #[h.v aT cT aW cW, .int .i64 n] w fun e w' => ∃ aT' cT' aW' cW', e = .returned (.tuple #[(doublesH h n).1.v aT' cT' aW' cW', .bool (doublesH h n).2]) ∧ Tak.partE.Own 69 w' w.heap.size aT' cT' (doublesH h n).1.t.l ∧ letE.Own 39 w' w.heap.size aW' cW' (doublesH h n).1.ws ∧ Below w.heap.size w w' := by
  have hmix := mix
  have v1 : Var 31 ((w.alloc (.cells #[.int .i64 h.g.ba, .string h.g.bs, .int .i64 h.g.cp, .int .i64 h.g.lm, .bool h.g.en, .bool h.g.dn, .int .i64 h.t.nx, .string h.t.bs, .slice aT h.t.l.length cT, .int .i64 h.t.cp, .int .i64 h.t.fi, .bool h.t.en, .slice aW h.ws.length cW] 31)).alloc (.cells #[.int .i64 0, .string ⟨#[]⟩, .int .i64 0, .int .i64 0, .bool false, .bool false, .int .i64 0, .string ⟨#[]⟩, .slice none 0 0, .int .i64 0, .int .i64 0, .bool false, .slice none 0 0] 31)) w.heap.size [.int .i64 h.g.ba, .string h.g.bs, .int .i64 h.g.cp, .int .i64 h.g.lm, .bool h.g.en, .bool h.g.dn, .int .i64 h.t.nx, .string h.t.bs, .slice aT h.t.l.length cT, .int .i64 h.t.cp, .int .i64 h.t.fi, .bool h.t.en, .slice aW h.ws.length cW] := (Var.new w [.int .i64 h.g.ba, .string h.g.bs, .int .i64 h.g.cp, .int .i64 h.g.lm, .bool h.g.en, .bool h.g.dn, .int .i64 h.t.nx, .string h.t.bs, .slice aT h.t.l.length cT, .int .i64 h.t.cp, .int .i64 h.t.fi, .bool h.t.en, .slice aW h.ws.length cW]).alloc _
  have v2 : Var 31 ((w.alloc (.cells #[.int .i64 h.g.ba, .string h.g.bs, .int .i64 h.g.cp, .int .i64 h.g.lm, .bool h.g.en, .bool h.g.dn, .int .i64 h.t.nx, .string h.t.bs, .slice aT h.t.l.length cT, .int .i64 h.t.cp, .int .i64 h.t.fi, .bool h.t.en, .slice aW h.ws.length cW] 31)).alloc (.cells #[.int .i64 0, .string ⟨#[]⟩, .int .i64 0, .int .i64 0, .bool false, .bool false, .int .i64 0, .string ⟨#[]⟩, .slice none 0 0, .int .i64 0, .int .i64 0, .bool false, .slice none 0 0] 31)) (w.heap.size + 1) [.int .i64 0, .string ⟨#[]⟩, .int .i64 0, .int .i64 0, .bool false, .bool false, .int .i64 0, .string ⟨#[]⟩, .slice none 0 0, .int .i64 0, .int .i64 0, .bool false, .slice none 0 0] := by
    have q := Var.new (T := 31) (w.alloc (.cells #[.int .i64 h.g.ba, .string h.g.bs, .int .i64 h.g.cp, .int .i64 h.g.lm, .bool h.g.en, .bool h.g.dn, .int .i64 h.t.nx, .string h.t.bs, .slice aT h.t.l.length cT, .int .i64 h.t.cp, .int .i64 h.t.fi, .bool h.t.en, .slice aW h.ws.length cW] 31)) [.int .i64 0, .string ⟨#[]⟩, .int .i64 0, .int .i64 0, .bool false, .bool false, .int .i64 0, .string ⟨#[]⟩, .slice none 0 0, .int .i64 0, .int .i64 0, .bool false, .slice none 0 0]
    simpa using q
  have b0 : Below w.heap.size w ((w.alloc (.cells #[.int .i64 h.g.ba, .string h.g.bs, .int .i64 h.g.cp, .int .i64 h.g.lm, .bool h.g.en, .bool h.g.dn, .int .i64 h.t.nx, .string h.t.bs, .slice aT h.t.l.length cT, .int .i64 h.t.cp, .int .i64 h.t.fi, .bool h.t.en, .slice aW h.ws.length cW] 31)).alloc (.cells #[.int .i64 0, .string ⟨#[]⟩, .int .i64 0, .int .i64 0, .bool false, .bool false, .int .i64 0, .string ⟨#[]⟩, .slice none 0 0, .int .i64 0, .int .i64 0, .bool false, .slice none 0 0] 31)) := ((Below.refl _ _).alloc (Nat.le_refl _) _).alloc (by simp) _
  have lT := hT.later b0
  have lW := hW.later b0
  have HOK : Hid _ := fun w' a b => implHopOk h aT cT aW cW w' a b hs
  have HUW : Hid _ := fun w' => isUnderWay h aT cT aW cW n w'
  have HCP : Hid _ := fun w' a b => ownHop h aT cT aW cW w' a b hnT hnW hs.tl hs.wl
  have HR : Hid (doublesH h n = if hopB h then dbl2 h n else (zeroH, false)) := rfl
  generalize doublesH h n = R at *
  go_enter Tryz.func8, Tryz.ntmps8
  go_upto_region 1 with (fail)
  generalize (w.alloc (.cells #[.int .i64 h.g.ba, .string h.g.bs, .int .i64 h.g.cp, .int .i64 h.g.lm, .bool h.g.en, .bool h.g.dn, .int .i64 h.t.nx, .string h.t.bs, .slice aT h.t.l.length cT, .int .i64 h.t.cp, .int .i64 h.t.fi, .bool h.t.en, .slice aW h.ws.length cW] 31)).alloc (.cells #[.int .i64 0, .string ⟨#[]⟩, .int .i64 0, .int .i64 0, .bool false, .bool false, .int .i64 0, .string ⟨#[]⟩, .slice none 0 0, .int .i64 0, .int .i64 0, .bool false, .slice none 0 0] 31) = V at *
  obtain ⟨e0, e1, e2, e3, e4, e5, e6, e7, e8, e9, e10, e11, e12⟩ := v1.c13
  go_wp2_with fail
  refine (HOK.out _ lT lW).mono ?_
  rintro e w1 ⟨rfl, b1⟩
  replace v1 := v1.later b1
  replace v2 := v2.later b1
  replace lW := lW.later b1
  replace lT := lT.later b1
  have B1 := b0.trans (b1.mono b0.size)
  clear HOK b1 b0 e0 e1 e2 e3 e4 e5 e6 e7 e8 e9 e10 e11 e12
  cases hb : hopB h
  case false =>
    have hR : R = (zeroH, false) := by rw [HR.out, hb]; rfl
    subst hR
    dsimp only [zeroH, Tak.zeroK, List.length_nil]
    obtain ⟨f0, f1, f2, f3, f4, f5, f6, f7, f8, f9, f10, f11, f12⟩ := v2.c13
    obtain ⟨y0, y1, y2, y3, y4, y5, y6, y7, y8, y9, y10, y11, y12⟩ := v2.f13
    go_wp2_with fail
    have r2 := var_all v2 [.int .i64 0, .string ⟨#[]⟩, .int .i64 0, .int .i64 0, .bool false, .bool false, .int .i64 0, .string ⟨#[]⟩, .slice none 0 0, .int .i64 0, .int .i64 0, .bool false, .slice none 0 0] rfl
    have rB := below_all (k := w.heap.size + 1) (by omega) [.int .i64 0, .string ⟨#[]⟩, .int .i64 0, .int .i64 0, .bool false, .bool false, .int .i64 0, .string ⟨#[]⟩, .slice none 0 0, .int .i64 0, .int .i64 0, .bool false, .slice none 0 0] 0 w1 B1
    simp only [World.setCells, Nat.reduceAdd] at r2 rB
    generalize (((((((((((((w1.setCell ⟨(w.heap.size + 1), 0, none⟩ (.int .i64 0)).setCell ⟨(w.heap.size + 1), 1, none⟩ (.string ⟨#[]⟩)).setCell ⟨(w.heap.size + 1), 2, none⟩ (.int .i64 0)).setCell ⟨(w.heap.size + 1), 3, none⟩ (.int .i64 0)).setCell ⟨(w.heap.size + 1), 4, none⟩ (.bool false)).setCell ⟨(w.heap.size + 1), 5, none⟩ (.bool false)).setCell ⟨(w.heap.size + 1), 6, none⟩ (.int .i64 0)).setCell ⟨(w.heap.size + 1), 7, none⟩ (.string ⟨#[]⟩)).setCell ⟨(w.heap.size + 1), 8, none⟩ (.slice none 0 0)).setCell ⟨(w.heap.size + 1), 9, none⟩ (.int .i64 0)).setCell ⟨(w.heap.size + 1), 10, none⟩ (.int .i64 0)).setCell ⟨(w.heap.size + 1), 11, none⟩ (.bool false)).setCell ⟨(w.heap.size + 1), 12, none⟩ (.slice none 0 0)) = W4 at *
    obtain ⟨s0, s1, s2, s3, s4, s5, s6, s7, s8, s9, s10, s11, s12⟩ := r2.c13
    exact bodyPost_ret (v := .tuple #[.agg #[.int .i64 0, .string ⟨#[]⟩, .int .i64 0, .int .i64 0, .bool false, .bool false, .int .i64 0, .string ⟨#[]⟩, .slice none 0 0, .int .i64 0, .int .i64 0, .bool false, .slice none 0 0], .bool false]) (by rw [Tak.res_cell_tmp rfl]; clear r2 rB v2 f0 f1 f2 f3 f4 f5 f6 f7 f8 f9 f10 f11 f12 y0 y1 y2 y3 y4 y5 y6 y7 y8 y9 y10 y11 y12 v1; go_simp; done) rfl ⟨none, 0, none, 0, rfl, El.Own.none _ _, El.Own.none _ _, rB⟩

  have hR : R = dbl2 h n := by rw [HR.out, hb]; rfl
  have HHB : Hid (hopB h = true) := hb
  clear HR hb
  obtain ⟨e0, e1, e2, e3, e4, e5, e6, e7, e8, e9, e10, e11, e12⟩ := v1.c13
  go_wp2_with fail
  refine (HUW.out _).mono ?_
  rintro e w2 ⟨rfl, b2⟩
  replace v1 := v1.later b2
  replace v2 := v2.later b2
  replace lW := lW.later b2
  replace lT := lT.later b2
  have B2 := B1.trans (b2.mono B1.size)
  have hV2 : w.heap.size + 1 < w2.heap.size := v2.lt
  clear HUW b2 B1 e0 e1 e2 e3 e4 e5 e6 e7 e8 e9 e10 e11 e12
  by_cases hn : 0 ≤ n ∧ n < (h.ws.length : Int)
  case neg =>
    rw [decide_eq_false hn]
    have hR2 : R = (h, false) := hR.trans (dbl_none (by omega))
    subst hR2
    clear hR
    obtain ⟨e0, e1, e2, e3, e4, e5, e6, e7, e8, e9, e10, e11, e12⟩ := v1.c13
    go_wp2_with fail
    refine (HCP.out _ lT lW).mono ?_
    rintro e w3 ⟨a5, c5, a6, c6, rfl, oT, oW, b3⟩
    replace v2 := v2.later b3
    have B4 := B2.trans (b3.mono B2.size)
    replace oT := oT.mono (B := w.heap.size) (by omega)
    replace oW := oW.mono (B := w.heap.size) (by omega)
    clear b3 HCP v1 lT lW B2 e0 e1 e2 e3 e4 e5 e6 e7 e8 e9 e10 e11 e12
    obtain ⟨f0, f1, f2, f3, f4, f5, f6, f7, f8, f9, f10, f11, f12⟩ := v2.c13
    obtain ⟨y0, y1, y2, y3, y4, y5, y6, y7, y8, y9, y10, y11, y12⟩ := v2.f13
    go_wp2_with fail
    have r2 := var_all v2 [.int .i64 h.g.ba, .string h.g.bs, .int .i64 h.g.cp, .int .i64 h.g.lm, .bool h.g.en, .bool h.g.dn, .int .i64 h.t.nx, .string h.t.bs, .slice a5 h.t.l.length c5, .int .i64 h.t.cp, .int .i64 h.t.fi, .bool h.t.en, .slice a6 h.ws.length c6] rfl
    have rT := own_all (k := w.heap.size + 1) (own_win (by decide) oT v2.win) [.int .i64 h.g.ba, .string h.g.bs, .int .i64 h.g.cp, .int .i64 h.g.lm, .bool h.g.en, .bool h.g.dn, .int .i64 h.t.nx, .string h.t.bs, .slice a5 h.t.l.length c5, .int .i64 h.t.cp, .int .i64 h.t.fi, .bool h.t.en, .slice a6 h.ws.length c6] 0 w3 oT
    have rW := own_all (k := w.heap.size + 1) (own_win (by decide) oW v2.win) [.int .i64 h.g.ba, .string h.g.bs, .int .i64 h.g.cp, .int .i64 h.g.lm, .bool h.g.en, .bool h.g.dn, .int .i64 h.t.nx, .string h.t.bs, .slice a5 h.t.l.length c5, .int .i64 h.t.cp, .int .i64 h.t.fi, .bool h.t.en, .slice a6 h.ws.length c6] 0 w3 oW
    have rB := below_all (k := w.heap.size + 1) (by omega) [.int .i64 h.g.ba, .string h.g.bs, .int .i64 h.g.cp, .int .i64 h.g.lm, .bool h.g.en, .bool h.g.dn, .int .i64 h.t.nx, .string h.t.bs, .slice a5 h.t.l.length c5, .int .i64 h.t.cp, .int .i64 h.t.fi, .bool h.t.en, .slice a6 h.ws.length c6] 0 w3 B4
    simp only [World.setCells, Nat.reduceAdd] at r2 rT rW rB
    generalize (((((((((((((w3.setCell ⟨(w.heap.size + 1), 0, none⟩ (.int .i64 h.g.ba)).setCell ⟨(w.heap.size + 1), 1, none⟩ (.string h.g.bs)).setCell ⟨(w.heap.size + 1), 2, none⟩ (.int .i64 h.g.cp)).setCell ⟨(w.heap.size + 1), 3, none⟩ (.int .i64 h.g.lm)).setCell ⟨(w.heap.size + 1), 4, none⟩ (.bool h.g.en)).setCell ⟨(w.heap.size + 1), 5, none⟩ (.bool h.g.dn)).setCell ⟨(w.heap.size + 1), 6, none⟩ (.int .i64 h.t.nx)).setCell ⟨(w.heap.size + 1), 7, none⟩ (.string h.t.bs)).setCell ⟨(w.heap.size + 1), 8, none⟩ (.slice a5 h.t.l.length c5)).setCell ⟨(w.heap.size + 1), 9, none⟩ (.int .i64 h.t.cp)).setCell ⟨(w.heap.size + 1), 10, none⟩ (.int .i64 h.t.fi)).setCell ⟨(w.heap.size + 1), 11, none⟩ (.bool h.t.en)).setCell ⟨(w.heap.size + 1), 12, none⟩ (.slice a6 h.ws.length c6)) = W4 at *
    obtain ⟨s0, s1, s2, s3, s4, s5, s6, s7, s8, s9, s10, s11, s12⟩ := r2.c13
    exact bodyPost_ret (v := .tuple #[.agg #[.int .i64 h.g.ba, .string h.g.bs, .int .i64 h.g.cp, .int .i64 h.g.lm, .bool h.g.en, .bool h.g.dn, .int .i64 h.t.nx, .string h.t.bs, .slice a5 h.t.l.length c5, .int .i64 h.t.cp, .int .i64 h.t.fi, .bool h.t.en, .slice a6 h.ws.length c6], .bool false]) (by rw [Tak.res_cell_tmp rfl]; clear r2 rT rW rB v2 oT oW f0 f1 f2 f3 f4 f5 f6 f7 f8 f9 f10 f11 f12 y0 y1 y2 y3 y4 y5 y6 y7 y8 y9 y10 y11 y12; go_simp; done) rfl ⟨a5, c5, a6, c6, rfl, rT, rW, rB⟩

  rw [decide_eq_true hn]
  obtain ⟨k, rfl⟩ : ∃ k : Nat, n = (k : Int) := ⟨n.toNat, by omega⟩
  have hk : k < h.ws.length := by omega
  obtain ⟨x, hx⟩ : ∃ x, h.ws[k]? = some x := ⟨h.ws[k], List.getElem?_eq_getElem hk⟩
  have i0 : (0 : Int) ≤ (k : Int) := by omega
  have i1 : (k : Int) < (h.ws.length : Int) := hn.2
  clear hn
  have hLW := lW
  rcases lW with hsL | ⟨b, off, haW, hsL⟩
  · rw [hsL] at hk; simp at hk
  subst haW
  have l0 : w2.cell? ⟨b, off + k * 7, none⟩ = some (.bool x.bk) := El.Lies.cell hsL hx (j := 0) rfl
  have l1 : w2.cell? ⟨b, off + k * 7 + 1, none⟩ = some (.int .i64 x.rd) := El.Lies.cell hsL hx (j := 1) rfl
  have l2 : w2.cell? ⟨b, off + k * 7 + 2, none⟩ = some (.int .i64 x.pl) := El.Lies.cell hsL hx (j := 2) rfl
  have l3 : w2.cell? ⟨b, off + k * 7 + 3, none⟩ = some (.string x.bs) := El.Lies.cell hsL hx (j := 3) rfl
  have l4 : w2.cell? ⟨b, off + k * 7 + 4, none⟩ = some (.bool x.en) := El.Lies.cell hsL hx (j := 4) rfl
  have l5 : w2.cell? ⟨b, off + k * 7 + 5, none⟩ = some (.int .i64 x.lm) := El.Lies.cell hsL hx (j := 5) rfl
  have l6 : w2.cell? ⟨b, off + k * 7 + 6, none⟩ = some (.bool x.dn) := El.Lies.cell hsL hx (j := 6) rfl
  have hR2 : R = (postH h x, postB h x) := hR.trans (dbl_some hx)
  have hlx := (hop_ok HHB.out).2.2.2 x (List.mem_of_getElem? hx)
  obtain ⟨hrm1, hrm2⟩ := room_post (h := h) hlx
  rw [← hrm1, ← hrm2] at hR2
  clear hR hrm1 hrm2
  obtain ⟨y, bb⟩ := R
  simp only [Prod.mk.injEq] at hR2
  obtain ⟨hy, hbb⟩ := hR2
  have hyt : y.t = h.t := by rw [hy]; unfold roomH; split <;> rfl
  have HYT : Hid (y.t = h.t) := hyt
  have HPO : Hid (∀ (B : Nat) (a5 : Option Addr) (c5 : Nat) (a6 : Option Addr) (c6 : Nat) (w' : World), letE.Own 39 w' B a6 c6 h.ws → B ≤ w'.heap.size → Calls Tryz.prog 27 #[.agg #[.int .i64 h.g.ba, .string h.g.bs, .int .i64 h.g.cp, .int .i64 h.g.lm, .bool h.g.en, .bool h.g.dn, .int .i64 h.t.nx, .string h.t.bs, .slice a5 h.t.l.length c5, .int .i64 h.t.cp, .int .i64 h.t.fi, .bool h.t.en, .slice a6 h.ws.length c6], .agg #[.bool x.bk, .int .i64 x.rd, .int .i64 x.pl, .string x.bs, .bool x.en, .int .i64 x.lm, .bool x.dn]] w' fun e w'' => ∃ aW' cW', e = .returned (.tuple #[.agg #[.int .i64 y.g.ba, .string y.g.bs, .int .i64 y.g.cp, .int .i64 y.g.lm, .bool y.g.en, .bool y.g.dn, .int .i64 y.t.nx, .string y.t.bs, .slice a5 y.t.l.length c5, .int .i64 y.t.cp, .int .i64 y.t.fi, .bool y.t.en, .slice aW' y.ws.length cW'], .bool bb]) ∧ letE.Own 39 w'' B aW' cW' y.ws ∧ Keep w'.heap.size (blk a6) w' w'') := by
    intro B a5 c5 a6 c6 w' o' b'
    have q := posted B h a5 c5 a6 c6 x w' o' b' hs.wl
    rw [← hy, ← hbb] at q
    exact q
  have hbl : b < w2.heap.size := Draw.lt_of_cell l0
  clear hy hbb hyt hlx hsL
  obtain ⟨e0, e1, e2, e3, e4, e5, e6, e7, e8, e9, e10, e11, e12⟩ := v1.c13
  go_upto_region 5 with (fail)
  refine Draw.wp_region_Y (S := (fun w' => w'.cell? ⟨w.heap.size, 0, none⟩ = some (.int .i64 h.g.ba) ∧ w'.cell? ⟨w.heap.size, 1, none⟩ = some (.string h.g.bs) ∧ w'.cell? ⟨w.heap.size, 2, none⟩ = some (.int .i64 h.g.cp) ∧ w'.cell? ⟨w.heap.size, 3, none⟩ = some (.int .i64 h.g.lm) ∧ w'.cell? ⟨w.heap.size, 4, none⟩ = some (.bool h.g.en) ∧ w'.cell? ⟨w.heap.size, 5, none⟩ = some (.bool h.g.dn) ∧ w'.cell? ⟨w.heap.size, 6, none⟩ = some (.int .i64 h.t.nx) ∧ w'.cell? ⟨w.heap.size, 7, none⟩ = some (.string h.t.bs) ∧ w'.cell? ⟨w.heap.size, 8, none⟩ = some (.slice aT h.t.l.length cT) ∧ w'.cell? ⟨w.heap.size, 9, none⟩ = some (.int .i64 h.t.cp) ∧ w'.cell? ⟨w.heap.size, 10, none⟩ = some (.int .i64 h.t.fi) ∧ w'.cell? ⟨w.heap.size, 11, none⟩ = some (.bool h.t.en) ∧ w'.cell? ⟨w.heap.size, 12, none⟩ = some (.slice (some ⟨b, off, none⟩) h.ws.length cW) ∧ w'.cell? ⟨b, off + k * 7, none⟩ = some (.bool x.bk) ∧ w'.cell? ⟨b, off + k * 7 + 1, none⟩ = some (.int .i64 x.rd) ∧ w'.cell? ⟨b, off + k * 7 + 2, none⟩ = some (.int .i64 x.pl) ∧ w'.cell? ⟨b, off + k * 7 + 3, none⟩ = some (.string x.bs) ∧ w'.cell? ⟨b, off + k * 7 + 4, none⟩ = some (.bool x.en) ∧ w'.cell? ⟨b, off + k * 7 + 5, none⟩ = some (.int .i64 x.lm) ∧ w'.cell? ⟨b, off + k * 7 + 6, none⟩ = some (.bool x.dn))) 10 (by kernel_rfl) ?_ (fun hHeld => ?_)
  focus ((try dsimp only) <;> (first | with_reducible exact hHeld | with_reducible exact hS2 | exact ⟨e0, e1, e2, e3, e4, e5, e6, e7, e8, e9, e10, e11, e12, l0, l1, l2, l3, l4, l5, l6⟩))
  refine Draw.wpAnyY_takeP (ps := [8, 7, 1]) (i := 0) (v := ?_) rfl (by kernel_rfl) (by kernel_rfl) (by kernel_rfl) (by kernel_rfl) (by kernel_rfl) (fun _ _ _ h => h) (Or.inl ⟨by rfl, ?_⟩) (by assumption) ?_
  rotate_left 1
  focus (intro wS hSw; (try dsimp only at hSw); go_simp; first | done | (constructor <;> with_reducible rfl) | with_reducible rfl)
  (try simp only [Act.put, List.getElem_toArray, List.getElem_cons_zero, List.getElem_cons_succ, List.setIfInBounds_toArray, List.set_cons_zero, List.set_cons_succ])
  refine Draw.wpAnyY_takeT (i := 2) (v := ?_) rfl (by kernel_rfl) (by kernel_rfl) (by kernel_rfl) (fun _ _ _ h => h) (Or.inl ⟨by rfl, ?_⟩) ?_
  rotate_left 1
  focus (intro wS hSw; (try dsimp only at hSw); go_simp; first | done | (constructor <;> with_reducible rfl) | with_reducible rfl)
  (try simp only [Act.put, List.getElem_toArray, List.getElem_cons_zero, List.getElem_cons_succ, List.setIfInBounds_toArray, List.set_cons_zero, List.set_cons_succ])
  refine Draw.wpAnyY_takeP (ps := [8, 7, 6, 5]) (i := 3) (v := ?_) rfl (by kernel_rfl) (by kernel_rfl) (by kernel_rfl) (by kernel_rfl) (by kernel_rfl) (fun _ _ _ h => h) (Or.inl ⟨by rfl, ?_⟩) (by assumption) ?_
  rotate_left 1
  focus (intro wS hSw; (try dsimp only at hSw); go_simp; first | done | (constructor <;> with_reducible rfl) | with_reducible rfl)
  (try simp only [Act.put, List.getElem_toArray, List.getElem_cons_zero, List.getElem_cons_succ, List.setIfInBounds_toArray, List.set_cons_zero, List.set_cons_succ])
  refine Draw.wpAnyY_takeT (i := 4) (v := ?_) rfl (by kernel_rfl) (by kernel_rfl) (by kernel_rfl) (fun _ _ _ h => h) (Or.inl ⟨by rfl, ?_⟩) ?_
  rotate_left 1
  focus (intro wS hSw; (try dsimp only at hSw); go_simp; first | done | (constructor <;> with_reducible rfl) | with_reducible rfl)
  (try simp only [Act.put, List.getElem_toArray, List.getElem_cons_zero, List.getElem_cons_succ, List.setIfInBounds_toArray, List.set_cons_zero, List.set_cons_succ])
  refine Draw.wpAnyY_takeT (i := 5) (v := ?_) rfl (by kernel_rfl) (by kernel_rfl) (by kernel_rfl) (fun _ _ _ h => h) (Or.inl ⟨by rfl, ?_⟩) ?_
  rotate_left 1
  focus (intro wS hSw; (try dsimp only at hSw); go_simp; first | done | (constructor <;> with_reducible rfl) | with_reducible rfl)
  (try simp only [Act.put, List.getElem_toArray, List.getElem_cons_zero, List.getElem_cons_succ, List.setIfInBounds_toArray, List.set_cons_zero, List.set_cons_succ])
  refine Draw.wpAnyY_takeP (ps := [8, 7]) (i := 6) (v := ?_) rfl (by kernel_rfl) (by kernel_rfl) (by kernel_rfl) (by kernel_rfl) (by kernel_rfl) (fun _ _ _ h => h) (Or.inl ⟨by rfl, ?_⟩) (by assumption) ?_
  rotate_left 1
  focus (intro wS hSw; (try dsimp only at hSw); go_simp; first | done | (constructor <;> with_reducible rfl) | with_reducible rfl)
  (try simp only [Act.put, List.getElem_toArray, List.getElem_cons_zero, List.getElem_cons_succ, List.setIfInBounds_toArray, List.set_cons_zero, List.set_cons_succ])
  refine Draw.wpAnyY_ready (rs := [1]) (by kernel_rfl) (by simp) ?_
  refine Draw.AllReadyY.cons rfl (fun K hK => ?_) Draw.AllReadyY.nil
  (go_simp; refine (HCP.out _ lT.drew hLW.drew).mono ?_; rintro e w3 ⟨a5, c5, a6, c6, rfl, oT, oW, b3⟩; have v1b := v1.drew.later b3; have v2b := v2.drew.later b3; have lWb := hLW.drew.later b3; have B3 := B2.drew.trans (b3.mono B2.size); have z3 : w2.heap.size ≤ w3.heap.size := b3.size; have s0 := v1b.cell (i := 0) rfl; have s1 := v1b.cell (i := 1) rfl; have s2 := v1b.cell (i := 2) rfl; have s3 := v1b.cell (i := 3) rfl; have s4 := v1b.cell (i := 4) rfl; have s5 := v1b.cell (i := 5) rfl; have s6 := v1b.cell (i := 6) rfl; have s7 := v1b.cell (i := 7) rfl; have s8 := v1b.cell (i := 8) rfl; have s9 := v1b.cell (i := 9) rfl; have s10 := v1b.cell (i := 10) rfl; have s11 := v1b.cell (i := 11) rfl; have s12 := v1b.cell (i := 12) rfl; obtain ⟨t0, t1, t2, t3, t4, t5, t6⟩ := let_cells lWb hx; have hS2 := And.intro s0 (And.intro s1 (And.intro s2 (And.intro s3 (And.intro s4 (And.intro s5 (And.intro s6 (And.intro s7 (And.intro s8 (And.intro s9 (And.intro s10 (And.intro s11 (And.intro s12 (And.intro t0 (And.intro t1 (And.intro t2 (And.intro t3 (And.intro t4 (And.intro t5 (t6))))))))))))))))))))
  refine hK.out _ _ ?_ (fun hHeld2 => ?_)
  focus (intro _ _; (try dsimp only) <;> (first | with_reducible exact hHeld | with_reducible exact hS2 | exact ⟨e0, e1, e2, e3, e4, e5, e6, e7, e8, e9, e10, e11, e12, l0, l1, l2, l3, l4, l5, l6⟩))
  clear hK K
  replace hHeld := hHeld2 (by decide) hHeld
  clear hHeld2
  (try simp only [Act.put, List.getElem_toArray, List.getElem_cons_zero, List.getElem_cons_succ, List.setIfInBounds_toArray, List.set_cons_zero, List.set_cons_succ])
  refine Draw.wpAnyY_ready (rs := [7]) (by kernel_rfl) (by simp) ?_
  refine Draw.AllReadyY.cons rfl (fun K hK => ?_) Draw.AllReadyY.nil
  (go_simp; refine (HPO.out w2.heap.size a5 c5 a6 c6 _ oW z3).mono ?_; rintro e w5 ⟨a8, c8, rfl, oW5, k5⟩; have hdr : w2.drew.heap.size = w2.heap.size := rfl; have v1d := keep_var k5 v1b oW (by omega) (by omega); have v2d := keep_var k5 v2b oW (by omega) (by omega); have lWd := keep_lies k5 lWb oW hbl (by omega); have oT5 := oT.keep k5 (fun y hy => (by have := (oT.lt y hy).2; omega)) (own_two (by decide) oT oW); have B6 := B3.trans (k5.below (by omega) (fun i hi => (by have := blk_ge oW i hi; omega)) B3.size); clear hS2 s0 s1 s2 s3 s4 s5 s6 s7 s8 s9 s10 s11 s12 t0 t1 t2 t3 t4 t5 t6; have s0 := v1d.cell (i := 0) rfl; have s1 := v1d.cell (i := 1) rfl; have s2 := v1d.cell (i := 2) rfl; have s3 := v1d.cell (i := 3) rfl; have s4 := v1d.cell (i := 4) rfl; have s5 := v1d.cell (i := 5) rfl; have s6 := v1d.cell (i := 6) rfl; have s7 := v1d.cell (i := 7) rfl; have s8 := v1d.cell (i := 8) rfl; have s9 := v1d.cell (i := 9) rfl; have s10 := v1d.cell (i := 10) rfl; have s11 := v1d.cell (i := 11) rfl; have s12 := v1d.cell (i := 12) rfl; obtain ⟨t0, t1, t2, t3, t4, t5, t6⟩ := let_cells lWd hx; have hS2 := And.intro s0 (And.intro s1 (And.intro s2 (And.intro s3 (And.intro s4 (And.intro s5 (And.intro s6 (And.intro s7 (And.intro s8 (And.intro s9 (And.intro s10 (And.intro s11 (And.intro s12 (And.intro t0 (And.intro t1 (And.intro t2 (And.intro t3 (And.intro t4 (And.intro t5 (t6))))))))))))))))))); have f0 := v2d.cell (i := 0) rfl; have f1 := v2d.cell (i := 1) rfl; have f2 := v2d.cell (i := 2) rfl; have f3 := v2d.cell (i := 3) rfl; have f4 := v2d.cell (i := 4) rfl; have f5 := v2d.cell (i := 5) rfl; have f6 := v2d.cell (i := 6) rfl; have f7 := v2d.cell (i := 7) rfl; have f8 := v2d.cell (i := 8) rfl; have f9 := v2d.cell (i := 9) rfl; have f10 := v2d.cell (i := 10) rfl; have f11 := v2d.cell (i := 11) rfl; have f12 := v2d.cell (i := 12) rfl; have y0 := v2d.free 0; have y1 := v2d.free 1; have y2 := v2d.free 2; have y3 := v2d.free 3; have y4 := v2d.free 4; have y5 := v2d.free 5; have y6 := v2d.free 6; have y7 := v2d.free 7; have y8 := v2d.free 8; have y9 := v2d.free 9; have y10 := v2d.free 10; have y11 := v2d.free 11; have y12 := v2d.free 12)
  refine hK.out _ _ ?_ (fun hHeld2 => ?_)
  focus (intro _ _; (try dsimp only) <;> (first | with_reducible exact hHeld | with_reducible exact hS2 | exact ⟨e0, e1, e2, e3, e4, e5, e6, e7, e8, e9, e10, e11, e12, l0, l1, l2, l3, l4, l5, l6⟩))
  clear hK K
  replace hHeld := hHeld2 (by decide) hHeld
  clear hHeld2
  (try simp only [Act.put, List.getElem_toArray, List.getElem_cons_zero, List.getElem_cons_succ, List.setIfInBounds_toArray, List.set_cons_zero, List.set_cons_succ])
  refine Draw.wpAnyY_takeT (i := 8) (v := ?_) rfl (by kernel_rfl) (by kernel_rfl) (by kernel_rfl) (fun _ _ _ h => h) (Or.inl ⟨by rfl, ?_⟩) ?_
  rotate_left 1
  focus (intro wS hSw; (try dsimp only at hSw); go_simp; first | done | (constructor <;> with_reducible rfl) | with_reducible rfl)
  (try simp only [Act.put, List.getElem_toArray, List.getElem_cons_zero, List.getElem_cons_succ, List.setIfInBounds_toArray, List.set_cons_zero, List.set_cons_succ])
  refine Draw.wpAnyY_takeT (i := 9) (v := ?_) rfl (by kernel_rfl) (by kernel_rfl) (by kernel_rfl) (fun _ _ _ h => h) (Or.inl ⟨by rfl, ?_⟩) ?_
  rotate_left 1
  focus (intro wS hSw; (try dsimp only at hSw); go_simp; first | done | (constructor <;> with_reducible rfl) | with_reducible rfl)
  (try simp only [Act.put, List.getElem_toArray, List.getElem_cons_zero, List.getElem_cons_succ, List.setIfInBounds_toArray, List.set_cons_zero, List.set_cons_succ])
  refine Draw.wpAnyY_ready (rs := [10]) (by kernel_rfl) (by simp) ?_
  refine Draw.AllReadyY.cons rfl (fun K hK => ?_) Draw.AllReadyY.nil
  go_simp
  refine hK.out _ _ (fun h => absurd rfl h) (fun hHeld2 => ?_)
  clear hK K hHeld hHeld2
  (try simp only [Act.put, List.getElem_toArray, List.getElem_cons_zero, List.getElem_cons_succ, List.setIfInBounds_toArray, List.set_cons_zero, List.set_cons_succ])
  refine Draw.wpAnyY_takeT (i := 11) (v := ?_) rfl (by kernel_rfl) (by kernel_rfl) (by kernel_rfl) (fun _ _ _ h => h) (Or.inl ⟨by rfl, ?_⟩) ?_
  rotate_left 1
  focus (intro wS hSw; (try dsimp only at hSw); go_simp; first | done | (constructor <;> with_reducible rfl) | with_reducible rfl)
  (try simp only [Act.put, List.getElem_toArray, List.getElem_cons_zero, List.getElem_cons_succ, List.setIfInBounds_toArray, List.set_cons_zero, List.set_cons_succ])
  refine Draw.wpAnyY_done (by kernel_rfl) ?_ _
  clear f0 f1 f2 f3 f4 f5 f6 f7 f8 f9 f10 f11 f12 y0 y1 y2 y3 y4 y5 y6 y7 y8 y9 y10 y11 y12 s0 s1 s2 s3 s4 s5 s6 s7 s8 s9 s10 s11 s12 e0 e1 e2 e3 e4 e5 e6 e7 e8 e9 e10 e11 e12 t0 t1 t2 t3 t4 t5 t6 l0 l1 l2 l3 l4 l5 l6 v1 v2 v1b v1d v2b lWb lWd oT oW k5
  have r2 := var_all v2d [.int .i64 y.g.ba, .string y.g.bs, .int .i64 y.g.cp, .int .i64 y.g.lm, .bool y.g.en, .bool y.g.dn, .int .i64 y.t.nx, .string y.t.bs, .slice a5 y.t.l.length c5, .int .i64 y.t.cp, .int .i64 y.t.fi, .bool y.t.en, .slice a8 y.ws.length c8] rfl
  have rT := own_all (k := w.heap.size + 1) (own_win (by decide) oT5 v2d.win) [.int .i64 y.g.ba, .string y.g.bs, .int .i64 y.g.cp, .int .i64 y.g.lm, .bool y.g.en, .bool y.g.dn, .int .i64 y.t.nx, .string y.t.bs, .slice a5 y.t.l.length c5, .int .i64 y.t.cp, .int .i64 y.t.fi, .bool y.t.en, .slice a8 y.ws.length c8] 0 w5 (oT5.mono (B := w.heap.size) (by omega))
  have rW := own_all (k := w.heap.size + 1) (own_win (by decide) oW5 v2d.win) [.int .i64 y.g.ba, .string y.g.bs, .int .i64 y.g.cp, .int .i64 y.g.lm, .bool y.g.en, .bool y.g.dn, .int .i64 y.t.nx, .string y.t.bs, .slice a5 y.t.l.length c5, .int .i64 y.t.cp, .int .i64 y.t.fi, .bool y.t.en, .slice a8 y.ws.length c8] 0 w5 (oW5.mono (B := w.heap.size) (by omega))
  have rB := below_all (k := w.heap.size + 1) (by omega) [.int .i64 y.g.ba, .string y.g.bs, .int .i64 y.g.cp, .int .i64 y.g.lm, .bool y.g.en, .bool y.g.dn, .int .i64 y.t.nx, .string y.t.bs, .slice a5 y.t.l.length c5, .int .i64 y.t.cp, .int .i64 y.t.fi, .bool y.t.en, .slice a8 y.ws.length c8] 0 w5 B6
  simp only [World.setCells, Nat.reduceAdd] at r2 rT rW rB
  generalize (((((((((((((w5.setCell ⟨(w.heap.size + 1), 0, none⟩ (.int .i64 y.g.ba)).setCell ⟨(w.heap.size + 1), 1, none⟩ (.string y.g.bs)).setCell ⟨(w.heap.size + 1), 2, none⟩ (.int .i64 y.g.cp)).setCell ⟨(w.heap.size + 1), 3, none⟩ (.int .i64 y.g.lm)).setCell ⟨(w.heap.size + 1), 4, none⟩ (.bool y.g.en)).setCell ⟨(w.heap.size + 1), 5, none⟩ (.bool y.g.dn)).setCell ⟨(w.heap.size + 1), 6, none⟩ (.int .i64 y.t.nx)).setCell ⟨(w.heap.size + 1), 7, none⟩ (.string y.t.bs)).setCell ⟨(w.heap.size + 1), 8, none⟩ (.slice a5 y.t.l.length c5)).setCell ⟨(w.heap.size + 1), 9, none⟩ (.int .i64 y.t.cp)).setCell ⟨(w.heap.size + 1), 10, none⟩ (.int .i64 y.t.fi)).setCell ⟨(w.heap.size + 1), 11, none⟩ (.bool y.t.en)).setCell ⟨(w.heap.size + 1), 12, none⟩ (.slice a8 y.ws.length c8)) = W4 at *
  rw [← HYT.out] at rT
  obtain ⟨s0, s1, s2, s3, s4, s5, s6, s7, s8, s9, s10, s11, s12⟩ := r2.c13
  go_wp2_with fail
  exact bodyPost_ret (v := .tuple #[.agg #[.int .i64 y.g.ba, .string y.g.bs, .int .i64 y.g.cp, .int .i64 y.g.lm, .bool y.g.en, .bool y.g.dn, .int .i64 y.t.nx, .string y.t.bs, .slice a5 y.t.l.length c5, .int .i64 y.t.cp, .int .i64 y.t.fi, .bool y.t.en, .slice a8 y.ws.length c8], .bool bb]) (by rw [Tak.res_cell_tmp rfl]; clear r2 rT rW rB v2d oT5 oW5; go_simp; done) rfl ⟨a5, c5, a8, c8, rfl, rT, rW, rB⟩

end Go.Proofs.YtjnkjeajkmgcmaaGreat.Hop
