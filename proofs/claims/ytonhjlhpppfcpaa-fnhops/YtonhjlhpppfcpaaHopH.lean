/- The specification's Sends and Tells; of hops that are not too great. -/
import Derived.Test.YtonhjlhpppfcpaaMg9
namespace Go.Proofs.Ytonhjlhpppfcpaa.Hop
open Go.RowKit RowG
set_option linter.unusedVariables false
set_option linter.unusedSimpArgs false

theorem hop_ok {h : Hp} (hb : hopB h = true) : h.ws.length ≤ 30 ∧ h.g.ok = true ∧ h.t.ok = true ∧ (∀ x ∈ h.ws, letB x = true) := by
  unfold hopB at hb
  simp only [Bool.and_eq_true, decide_eq_true_eq, List.all_eq_true] at hb
  exact ⟨hb.2.2.2, hb.2.1, hb.2.2.1, hb.1⟩

/-- What Sends answers. -/
def sendsH (h : Hp) (road p n : Int) : Hp × Bool := if hopB h then sendH h road p n else (zeroH, false)

set_option maxRecDepth 10000 in
set_option maxHeartbeats 8000000 in
theorem specSends (h : Hp) (aT : Option Addr) (cT : Nat) (aW : Option Addr) (cW : Nat) (road p n : Int) (w : World) (hT : Tak.partE.Lies w aT h.t.l) (hW : letE.Lies w aW h.ws) (hnT : aT = none → cT = 0) (hnW : aW = none → cW = 0) (hs : h.Sm) :
    Calls Try.prog 12 #[h.v aT cT aW cW, .int .i64 road, .int .i64 p, .int .i64 n] w fun e w' => ∃ aT' cT' aW' cW', e = .returned (.tuple #[(sendsH h road p n).1.v aT' cT' aW' cW', .bool (sendsH h road p n).2]) ∧ Tak.partE.Own 55 w' w.heap.size aT' cT' (sendsH h road p n).1.t.l ∧ letE.Own 45 w' w.heap.size aW' cW' (sendsH h road p n).1.ws ∧ Below w.heap.size w w' := by
  have v1 : Var 31 ((w.alloc (.cells #[.int .i64 h.g.ba, .string h.g.bs, .int .i64 h.g.cp, .int .i64 h.g.lm, .bool h.g.en, .bool h.g.dn, .int .i64 h.t.nx, .string h.t.bs, .slice aT h.t.l.length cT, .int .i64 h.t.cp, .int .i64 h.t.fi, .bool h.t.en, .slice aW h.ws.length cW] 31)).alloc (.cells #[.int .i64 0, .string ⟨#[]⟩, .int .i64 0, .int .i64 0, .bool false, .bool false, .int .i64 0, .string ⟨#[]⟩, .slice none 0 0, .int .i64 0, .int .i64 0, .bool false, .slice none 0 0] 31)) w.heap.size [.int .i64 h.g.ba, .string h.g.bs, .int .i64 h.g.cp, .int .i64 h.g.lm, .bool h.g.en, .bool h.g.dn, .int .i64 h.t.nx, .string h.t.bs, .slice aT h.t.l.length cT, .int .i64 h.t.cp, .int .i64 h.t.fi, .bool h.t.en, .slice aW h.ws.length cW] := (Var.new w [.int .i64 h.g.ba, .string h.g.bs, .int .i64 h.g.cp, .int .i64 h.g.lm, .bool h.g.en, .bool h.g.dn, .int .i64 h.t.nx, .string h.t.bs, .slice aT h.t.l.length cT, .int .i64 h.t.cp, .int .i64 h.t.fi, .bool h.t.en, .slice aW h.ws.length cW]).alloc _
  have v2 : Var 31 ((w.alloc (.cells #[.int .i64 h.g.ba, .string h.g.bs, .int .i64 h.g.cp, .int .i64 h.g.lm, .bool h.g.en, .bool h.g.dn, .int .i64 h.t.nx, .string h.t.bs, .slice aT h.t.l.length cT, .int .i64 h.t.cp, .int .i64 h.t.fi, .bool h.t.en, .slice aW h.ws.length cW] 31)).alloc (.cells #[.int .i64 0, .string ⟨#[]⟩, .int .i64 0, .int .i64 0, .bool false, .bool false, .int .i64 0, .string ⟨#[]⟩, .slice none 0 0, .int .i64 0, .int .i64 0, .bool false, .slice none 0 0] 31)) (w.heap.size + 1) [.int .i64 0, .string ⟨#[]⟩, .int .i64 0, .int .i64 0, .bool false, .bool false, .int .i64 0, .string ⟨#[]⟩, .slice none 0 0, .int .i64 0, .int .i64 0, .bool false, .slice none 0 0] := by
    have q := Var.new (T := 31) (w.alloc (.cells #[.int .i64 h.g.ba, .string h.g.bs, .int .i64 h.g.cp, .int .i64 h.g.lm, .bool h.g.en, .bool h.g.dn, .int .i64 h.t.nx, .string h.t.bs, .slice aT h.t.l.length cT, .int .i64 h.t.cp, .int .i64 h.t.fi, .bool h.t.en, .slice aW h.ws.length cW] 31)) [.int .i64 0, .string ⟨#[]⟩, .int .i64 0, .int .i64 0, .bool false, .bool false, .int .i64 0, .string ⟨#[]⟩, .slice none 0 0, .int .i64 0, .int .i64 0, .bool false, .slice none 0 0]
    simpa using q
  have b0 : Below w.heap.size w ((w.alloc (.cells #[.int .i64 h.g.ba, .string h.g.bs, .int .i64 h.g.cp, .int .i64 h.g.lm, .bool h.g.en, .bool h.g.dn, .int .i64 h.t.nx, .string h.t.bs, .slice aT h.t.l.length cT, .int .i64 h.t.cp, .int .i64 h.t.fi, .bool h.t.en, .slice aW h.ws.length cW] 31)).alloc (.cells #[.int .i64 0, .string ⟨#[]⟩, .int .i64 0, .int .i64 0, .bool false, .bool false, .int .i64 0, .string ⟨#[]⟩, .slice none 0 0, .int .i64 0, .int .i64 0, .bool false, .slice none 0 0] 31)) := ((Below.refl _ _).alloc (Nat.le_refl _) _).alloc (by simp) _
  have lT := hT.later b0
  have lW := hW.later b0
  have HOK : Hid _ := fun w' a b => specHopOk h aT cT aW cW w' a b hs
  have HCP : Hid _ := fun w' a b => l7Copy h aT cT aW cW w' a b hnT hnW hs.tl hs.wl
  have HR : Hid (sendsH h road p n = if hopB h then sendH h road p n else (zeroH, false)) := rfl
  generalize sendsH h road p n = R at *
  go_enter Try.func12, Try.ntmps12
  go_upto_region 1 with (fail)
  generalize (w.alloc (.cells #[.int .i64 h.g.ba, .string h.g.bs, .int .i64 h.g.cp, .int .i64 h.g.lm, .bool h.g.en, .bool h.g.dn, .int .i64 h.t.nx, .string h.t.bs, .slice aT h.t.l.length cT, .int .i64 h.t.cp, .int .i64 h.t.fi, .bool h.t.en, .slice aW h.ws.length cW] 31)).alloc (.cells #[.int .i64 0, .string ⟨#[]⟩, .int .i64 0, .int .i64 0, .bool false, .bool false, .int .i64 0, .string ⟨#[]⟩, .slice none 0 0, .int .i64 0, .int .i64 0, .bool false, .slice none 0 0] 31) = V at *
  have e0 := v1.cell (i := 0) rfl
  have e1 := v1.cell (i := 1) rfl
  have e2 := v1.cell (i := 2) rfl
  have e3 := v1.cell (i := 3) rfl
  have e4 := v1.cell (i := 4) rfl
  have e5 := v1.cell (i := 5) rfl
  have e6 := v1.cell (i := 6) rfl
  have e7 := v1.cell (i := 7) rfl
  have e8 := v1.cell (i := 8) rfl
  have e9 := v1.cell (i := 9) rfl
  have e10 := v1.cell (i := 10) rfl
  have e11 := v1.cell (i := 11) rfl
  have e12 := v1.cell (i := 12) rfl
  go_wp2_with fail
  refine (HOK.out _ lT lW).mono ?_
  rintro e w1 ⟨rfl, b1⟩
  replace v1 := v1.later b1
  replace v2 := v2.later b1
  replace lW := lW.later b1
  replace lT := lT.later b1
  have B1 := b0.trans (b1.mono b0.size)
  clear HOK b1 b0 e0 e1 e2 e3 e4 e5 e6 e7 e8 e9 e10 e11 e12
  cases hb : hopB h
  case false =>
    have hR : R = (zeroH, false) := by rw [HR.out, hb]; rfl
    subst hR
    dsimp only [zeroH, Tak.zeroK, List.length_nil]
    have f0 := v2.cell (i := 0) rfl
    have f1 := v2.cell (i := 1) rfl
    have f2 := v2.cell (i := 2) rfl
    have f3 := v2.cell (i := 3) rfl
    have f4 := v2.cell (i := 4) rfl
    have f5 := v2.cell (i := 5) rfl
    have f6 := v2.cell (i := 6) rfl
    have f7 := v2.cell (i := 7) rfl
    have f8 := v2.cell (i := 8) rfl
    have f9 := v2.cell (i := 9) rfl
    have f10 := v2.cell (i := 10) rfl
    have f11 := v2.cell (i := 11) rfl
    have f12 := v2.cell (i := 12) rfl
    have y0 := v2.free 0
    have y1 := v2.free 1
    have y2 := v2.free 2
    have y3 := v2.free 3
    have y4 := v2.free 4
    have y5 := v2.free 5
    have y6 := v2.free 6
    have y7 := v2.free 7
    have y8 := v2.free 8
    have y9 := v2.free 9
    have y10 := v2.free 10
    have y11 := v2.free 11
    have y12 := v2.free 12
    go_wp2_with fail
    have r2 : Var 31 ((((((((((((((w1.setCell ⟨(w.heap.size + 1), 0, none⟩ (.int .i64 0)).setCell ⟨(w.heap.size + 1), 1, none⟩ (.string ⟨#[]⟩)).setCell ⟨(w.heap.size + 1), 2, none⟩ (.int .i64 0)).setCell ⟨(w.heap.size + 1), 3, none⟩ (.int .i64 0)).setCell ⟨(w.heap.size + 1), 4, none⟩ (.bool false)).setCell ⟨(w.heap.size + 1), 5, none⟩ (.bool false)).setCell ⟨(w.heap.size + 1), 6, none⟩ (.int .i64 0)).setCell ⟨(w.heap.size + 1), 7, none⟩ (.string ⟨#[]⟩)).setCell ⟨(w.heap.size + 1), 8, none⟩ (.slice none 0 0)).setCell ⟨(w.heap.size + 1), 9, none⟩ (.int .i64 0)).setCell ⟨(w.heap.size + 1), 10, none⟩ (.int .i64 0)).setCell ⟨(w.heap.size + 1), 11, none⟩ (.bool false)).setCell ⟨(w.heap.size + 1), 12, none⟩ (.slice none 0 0))) (w.heap.size + 1) [.int .i64 0, .string ⟨#[]⟩, .int .i64 0, .int .i64 0, .bool false, .bool false, .int .i64 0, .string ⟨#[]⟩, .slice none 0 0, .int .i64 0, .int .i64 0, .bool false, .slice none 0 0] := (((((((((((((v2.set 0 _).set 1 _).set 2 _).set 3 _).set 4 _).set 5 _).set 6 _).set 7 _).set 8 _).set 9 _).set 10 _).set 11 _).set 12 _)
    have rB : Below w.heap.size w ((((((((((((((w1.setCell ⟨(w.heap.size + 1), 0, none⟩ (.int .i64 0)).setCell ⟨(w.heap.size + 1), 1, none⟩ (.string ⟨#[]⟩)).setCell ⟨(w.heap.size + 1), 2, none⟩ (.int .i64 0)).setCell ⟨(w.heap.size + 1), 3, none⟩ (.int .i64 0)).setCell ⟨(w.heap.size + 1), 4, none⟩ (.bool false)).setCell ⟨(w.heap.size + 1), 5, none⟩ (.bool false)).setCell ⟨(w.heap.size + 1), 6, none⟩ (.int .i64 0)).setCell ⟨(w.heap.size + 1), 7, none⟩ (.string ⟨#[]⟩)).setCell ⟨(w.heap.size + 1), 8, none⟩ (.slice none 0 0)).setCell ⟨(w.heap.size + 1), 9, none⟩ (.int .i64 0)).setCell ⟨(w.heap.size + 1), 10, none⟩ (.int .i64 0)).setCell ⟨(w.heap.size + 1), 11, none⟩ (.bool false)).setCell ⟨(w.heap.size + 1), 12, none⟩ (.slice none 0 0))) := by
      iterate 13 (refine Below.setCell ?_ (by dsimp only; omega) _)
      exact B1
    generalize (((((((((((((w1.setCell ⟨(w.heap.size + 1), 0, none⟩ (.int .i64 0)).setCell ⟨(w.heap.size + 1), 1, none⟩ (.string ⟨#[]⟩)).setCell ⟨(w.heap.size + 1), 2, none⟩ (.int .i64 0)).setCell ⟨(w.heap.size + 1), 3, none⟩ (.int .i64 0)).setCell ⟨(w.heap.size + 1), 4, none⟩ (.bool false)).setCell ⟨(w.heap.size + 1), 5, none⟩ (.bool false)).setCell ⟨(w.heap.size + 1), 6, none⟩ (.int .i64 0)).setCell ⟨(w.heap.size + 1), 7, none⟩ (.string ⟨#[]⟩)).setCell ⟨(w.heap.size + 1), 8, none⟩ (.slice none 0 0)).setCell ⟨(w.heap.size + 1), 9, none⟩ (.int .i64 0)).setCell ⟨(w.heap.size + 1), 10, none⟩ (.int .i64 0)).setCell ⟨(w.heap.size + 1), 11, none⟩ (.bool false)).setCell ⟨(w.heap.size + 1), 12, none⟩ (.slice none 0 0)) = W4 at *
    have s0 := r2.cell (i := 0) rfl
    have s1 := r2.cell (i := 1) rfl
    have s2 := r2.cell (i := 2) rfl
    have s3 := r2.cell (i := 3) rfl
    have s4 := r2.cell (i := 4) rfl
    have s5 := r2.cell (i := 5) rfl
    have s6 := r2.cell (i := 6) rfl
    have s7 := r2.cell (i := 7) rfl
    have s8 := r2.cell (i := 8) rfl
    have s9 := r2.cell (i := 9) rfl
    have s10 := r2.cell (i := 10) rfl
    have s11 := r2.cell (i := 11) rfl
    have s12 := r2.cell (i := 12) rfl
    refine bodyPost_ret (v := .tuple #[.agg #[.int .i64 0, .string ⟨#[]⟩, .int .i64 0, .int .i64 0, .bool false, .bool false, .int .i64 0, .string ⟨#[]⟩, .slice none 0 0, .int .i64 0, .int .i64 0, .bool false, .slice none 0 0], .bool false]) (by rw [Tak.res_cell_tmp rfl]; clear r2 rB v1 v2 f0 y0 f1 y1 f2 y2 f3 y3 f4 y4 f5 y5 f6 y6 f7 y7 f8 y8 f9 y9 f10 y10 f11 y11 f12 y12; go_simp; done) rfl ⟨none, 0, none, 0, rfl, El.Own.none _ _, El.Own.none _ _, rB⟩
  have hR : R = sendH h road p n := by rw [HR.out, hb]; rfl
  have HV2 : Hid (w.heap.size + 1 < w1.heap.size) := v2.lt
  have HHB : Hid (hopB h = true) := hb
  clear HR
  have e0 := v1.cell (i := 0) rfl
  have e1 := v1.cell (i := 1) rfl
  have e2 := v1.cell (i := 2) rfl
  have e3 := v1.cell (i := 3) rfl
  have e4 := v1.cell (i := 4) rfl
  have e5 := v1.cell (i := 5) rfl
  have e6 := v1.cell (i := 6) rfl
  have e7 := v1.cell (i := 7) rfl
  have e8 := v1.cell (i := 8) rfl
  have e9 := v1.cell (i := 9) rfl
  have e10 := v1.cell (i := 10) rfl
  have e11 := v1.cell (i := 11) rfl
  have e12 := v1.cell (i := 12) rfl
  go_wp2_with fail
  refine (HCP.out _ lT lW).mono ?_
  rintro e w2 ⟨a2, c2, a4, c4, rfl, oT, oW, b2⟩
  replace v1 := v1.later b2
  replace v2 := v2.later b2
  have B2 := B1.trans (b2.mono B1.size)
  have HZ2 : Hid (w1.heap.size ≤ w2.heap.size) := b2.size
  have hV2 : w.heap.size + 1 < w1.heap.size := HV2.out
  clear HCP lT lW b2 B1 e0 e1 e2 e3 e4 e5 e6 e7 e8 e9 e10 e11 e12
  have L0 : Lay 31 [] [] 0 (w2.alloc (.cells #[.int .i64 h.g.ba, .string h.g.bs, .int .i64 h.g.cp, .int .i64 h.g.lm, .bool h.g.en, .bool h.g.dn, .int .i64 h.t.nx, .string h.t.bs, .slice a2 h.t.l.length c2, .int .i64 h.t.cp, .int .i64 h.t.fi, .bool h.t.en, .slice a4 h.ws.length c4] 31)) w1.heap.size w2.heap.size h := ⟨a2, c2, a4, c4, (Var.new w2 [.int .i64 h.g.ba, .string h.g.bs, .int .i64 h.g.cp, .int .i64 h.g.lm, .bool h.g.en, .bool h.g.dn, .int .i64 h.t.nx, .string h.t.bs, .slice a2 h.t.l.length c2, .int .i64 h.t.cp, .int .i64 h.t.fi, .bool h.t.en, .slice a4 h.ws.length c4]).win, oT.alloc _, oW.alloc _⟩
  have B3 : Below w.heap.size w (w2.alloc (.cells #[.int .i64 h.g.ba, .string h.g.bs, .int .i64 h.g.cp, .int .i64 h.g.lm, .bool h.g.en, .bool h.g.dn, .int .i64 h.t.nx, .string h.t.bs, .slice a2 h.t.l.length c2, .int .i64 h.t.cp, .int .i64 h.t.fi, .bool h.t.en, .slice a4 h.ws.length c4] 31)) := B2.alloc B2.size _
  replace v2 := v2.alloc (.cells #[.int .i64 h.g.ba, .string h.g.bs, .int .i64 h.g.cp, .int .i64 h.g.lm, .bool h.g.en, .bool h.g.dn, .int .i64 h.t.nx, .string h.t.bs, .slice a2 h.t.l.length c2, .int .i64 h.t.cp, .int .i64 h.t.fi, .bool h.t.en, .slice a4 h.ws.length c4] 31)
  have hz2 : w1.heap.size ≤ w2.heap.size := HZ2.out
  have hz3 : w1.heap.size ≤ (w2.alloc (.cells #[.int .i64 h.g.ba, .string h.g.bs, .int .i64 h.g.cp, .int .i64 h.g.lm, .bool h.g.en, .bool h.g.dn, .int .i64 h.t.nx, .string h.t.bs, .slice a2 h.t.l.length c2, .int .i64 h.t.cp, .int .i64 h.t.fi, .bool h.t.en, .slice a4 h.ws.length c4] 31)).heap.size := by simp; omega
  clear v1 oT oW B2
  go_upto_region 4 with (fail)
  generalize w2.alloc (.cells #[.int .i64 h.g.ba, .string h.g.bs, .int .i64 h.g.cp, .int .i64 h.g.lm, .bool h.g.en, .bool h.g.dn, .int .i64 h.t.nx, .string h.t.bs, .slice a2 h.t.l.length c2, .int .i64 h.t.cp, .int .i64 h.t.fi, .bool h.t.en, .slice a4 h.ws.length c4] 31) = W2 at *
  generalize w2.heap.size = k9 at *
  go_wp2_with fail
  refine (sendLay (by decide) (by decide) k9 w1.heap.size h road p n _ L0 hz3 (by have := (hop_ok HHB.out).1; omega) (hop_ok HHB.out).2.1).mono ?_
  rintro e w4 ⟨rfl, L4, k4⟩
  replace v2 := k4.var v2 hV2 (by omega)
  have B4 := B3.trans (k4.below (by omega) (by omega))
  rw [← hR] at L4 ⊢
  obtain ⟨y, b⟩ := R
  obtain ⟨a5, c5, a6, c6, v5, oT, oW⟩ := L4
  dsimp only at *
  replace v5 := v5.whole
  replace oT := oT.mono (B := w.heap.size) (by omega)
  replace oW := oW.mono (B := w.heap.size) (by omega)
  clear hR k4 B3 hb L0
  have e0 := v5.cell (i := 0) rfl
  have e1 := v5.cell (i := 1) rfl
  have e2 := v5.cell (i := 2) rfl
  have e3 := v5.cell (i := 3) rfl
  have e4 := v5.cell (i := 4) rfl
  have e5 := v5.cell (i := 5) rfl
  have e6 := v5.cell (i := 6) rfl
  have e7 := v5.cell (i := 7) rfl
  have e8 := v5.cell (i := 8) rfl
  have e9 := v5.cell (i := 9) rfl
  have e10 := v5.cell (i := 10) rfl
  have e11 := v5.cell (i := 11) rfl
  have e12 := v5.cell (i := 12) rfl
  have f0 := v2.cell (i := 0) rfl
  have f1 := v2.cell (i := 1) rfl
  have f2 := v2.cell (i := 2) rfl
  have f3 := v2.cell (i := 3) rfl
  have f4 := v2.cell (i := 4) rfl
  have f5 := v2.cell (i := 5) rfl
  have f6 := v2.cell (i := 6) rfl
  have f7 := v2.cell (i := 7) rfl
  have f8 := v2.cell (i := 8) rfl
  have f9 := v2.cell (i := 9) rfl
  have f10 := v2.cell (i := 10) rfl
  have f11 := v2.cell (i := 11) rfl
  have f12 := v2.cell (i := 12) rfl
  have y0 := v2.free 0
  have y1 := v2.free 1
  have y2 := v2.free 2
  have y3 := v2.free 3
  have y4 := v2.free 4
  have y5 := v2.free 5
  have y6 := v2.free 6
  have y7 := v2.free 7
  have y8 := v2.free 8
  have y9 := v2.free 9
  have y10 := v2.free 10
  have y11 := v2.free 11
  have y12 := v2.free 12
  go_wp2_with fail
  have r2 : Var 31 ((((((((((((((w4.setCell ⟨(w.heap.size + 1), 0, none⟩ (.int .i64 y.g.ba)).setCell ⟨(w.heap.size + 1), 1, none⟩ (.string y.g.bs)).setCell ⟨(w.heap.size + 1), 2, none⟩ (.int .i64 y.g.cp)).setCell ⟨(w.heap.size + 1), 3, none⟩ (.int .i64 y.g.lm)).setCell ⟨(w.heap.size + 1), 4, none⟩ (.bool y.g.en)).setCell ⟨(w.heap.size + 1), 5, none⟩ (.bool y.g.dn)).setCell ⟨(w.heap.size + 1), 6, none⟩ (.int .i64 y.t.nx)).setCell ⟨(w.heap.size + 1), 7, none⟩ (.string y.t.bs)).setCell ⟨(w.heap.size + 1), 8, none⟩ (.slice a5 y.t.l.length c5)).setCell ⟨(w.heap.size + 1), 9, none⟩ (.int .i64 y.t.cp)).setCell ⟨(w.heap.size + 1), 10, none⟩ (.int .i64 y.t.fi)).setCell ⟨(w.heap.size + 1), 11, none⟩ (.bool y.t.en)).setCell ⟨(w.heap.size + 1), 12, none⟩ (.slice a6 y.ws.length c6))) (w.heap.size + 1) [.int .i64 y.g.ba, .string y.g.bs, .int .i64 y.g.cp, .int .i64 y.g.lm, .bool y.g.en, .bool y.g.dn, .int .i64 y.t.nx, .string y.t.bs, .slice a5 y.t.l.length c5, .int .i64 y.t.cp, .int .i64 y.t.fi, .bool y.t.en, .slice a6 y.ws.length c6] := (((((((((((((v2.set 0 _).set 1 _).set 2 _).set 3 _).set 4 _).set 5 _).set 6 _).set 7 _).set 8 _).set 9 _).set 10 _).set 11 _).set 12 _)
  have rT : Tak.partE.Own 55 ((((((((((((((w4.setCell ⟨(w.heap.size + 1), 0, none⟩ (.int .i64 y.g.ba)).setCell ⟨(w.heap.size + 1), 1, none⟩ (.string y.g.bs)).setCell ⟨(w.heap.size + 1), 2, none⟩ (.int .i64 y.g.cp)).setCell ⟨(w.heap.size + 1), 3, none⟩ (.int .i64 y.g.lm)).setCell ⟨(w.heap.size + 1), 4, none⟩ (.bool y.g.en)).setCell ⟨(w.heap.size + 1), 5, none⟩ (.bool y.g.dn)).setCell ⟨(w.heap.size + 1), 6, none⟩ (.int .i64 y.t.nx)).setCell ⟨(w.heap.size + 1), 7, none⟩ (.string y.t.bs)).setCell ⟨(w.heap.size + 1), 8, none⟩ (.slice a5 y.t.l.length c5)).setCell ⟨(w.heap.size + 1), 9, none⟩ (.int .i64 y.t.cp)).setCell ⟨(w.heap.size + 1), 10, none⟩ (.int .i64 y.t.fi)).setCell ⟨(w.heap.size + 1), 11, none⟩ (.bool y.t.en)).setCell ⟨(w.heap.size + 1), 12, none⟩ (.slice a6 y.ws.length c6))) w.heap.size a5 c5 y.t.l := by
    iterate 13 (refine El.Own.setCell ?_ (fun x hx => by have := (own_win (by decide) oT v2.win x hx); exact this) _)
    exact oT
  have rW : letE.Own 45 ((((((((((((((w4.setCell ⟨(w.heap.size + 1), 0, none⟩ (.int .i64 y.g.ba)).setCell ⟨(w.heap.size + 1), 1, none⟩ (.string y.g.bs)).setCell ⟨(w.heap.size + 1), 2, none⟩ (.int .i64 y.g.cp)).setCell ⟨(w.heap.size + 1), 3, none⟩ (.int .i64 y.g.lm)).setCell ⟨(w.heap.size + 1), 4, none⟩ (.bool y.g.en)).setCell ⟨(w.heap.size + 1), 5, none⟩ (.bool y.g.dn)).setCell ⟨(w.heap.size + 1), 6, none⟩ (.int .i64 y.t.nx)).setCell ⟨(w.heap.size + 1), 7, none⟩ (.string y.t.bs)).setCell ⟨(w.heap.size + 1), 8, none⟩ (.slice a5 y.t.l.length c5)).setCell ⟨(w.heap.size + 1), 9, none⟩ (.int .i64 y.t.cp)).setCell ⟨(w.heap.size + 1), 10, none⟩ (.int .i64 y.t.fi)).setCell ⟨(w.heap.size + 1), 11, none⟩ (.bool y.t.en)).setCell ⟨(w.heap.size + 1), 12, none⟩ (.slice a6 y.ws.length c6))) w.heap.size a6 c6 y.ws := by
    iterate 13 (refine El.Own.setCell ?_ (fun x hx => by have := (own_win (by decide) oW v2.win x hx); exact this) _)
    exact oW
  have rB : Below w.heap.size w ((((((((((((((w4.setCell ⟨(w.heap.size + 1), 0, none⟩ (.int .i64 y.g.ba)).setCell ⟨(w.heap.size + 1), 1, none⟩ (.string y.g.bs)).setCell ⟨(w.heap.size + 1), 2, none⟩ (.int .i64 y.g.cp)).setCell ⟨(w.heap.size + 1), 3, none⟩ (.int .i64 y.g.lm)).setCell ⟨(w.heap.size + 1), 4, none⟩ (.bool y.g.en)).setCell ⟨(w.heap.size + 1), 5, none⟩ (.bool y.g.dn)).setCell ⟨(w.heap.size + 1), 6, none⟩ (.int .i64 y.t.nx)).setCell ⟨(w.heap.size + 1), 7, none⟩ (.string y.t.bs)).setCell ⟨(w.heap.size + 1), 8, none⟩ (.slice a5 y.t.l.length c5)).setCell ⟨(w.heap.size + 1), 9, none⟩ (.int .i64 y.t.cp)).setCell ⟨(w.heap.size + 1), 10, none⟩ (.int .i64 y.t.fi)).setCell ⟨(w.heap.size + 1), 11, none⟩ (.bool y.t.en)).setCell ⟨(w.heap.size + 1), 12, none⟩ (.slice a6 y.ws.length c6))) := by
    iterate 13 (refine Below.setCell ?_ (by dsimp only; omega) _)
    exact B4
  generalize (((((((((((((w4.setCell ⟨(w.heap.size + 1), 0, none⟩ (.int .i64 y.g.ba)).setCell ⟨(w.heap.size + 1), 1, none⟩ (.string y.g.bs)).setCell ⟨(w.heap.size + 1), 2, none⟩ (.int .i64 y.g.cp)).setCell ⟨(w.heap.size + 1), 3, none⟩ (.int .i64 y.g.lm)).setCell ⟨(w.heap.size + 1), 4, none⟩ (.bool y.g.en)).setCell ⟨(w.heap.size + 1), 5, none⟩ (.bool y.g.dn)).setCell ⟨(w.heap.size + 1), 6, none⟩ (.int .i64 y.t.nx)).setCell ⟨(w.heap.size + 1), 7, none⟩ (.string y.t.bs)).setCell ⟨(w.heap.size + 1), 8, none⟩ (.slice a5 y.t.l.length c5)).setCell ⟨(w.heap.size + 1), 9, none⟩ (.int .i64 y.t.cp)).setCell ⟨(w.heap.size + 1), 10, none⟩ (.int .i64 y.t.fi)).setCell ⟨(w.heap.size + 1), 11, none⟩ (.bool y.t.en)).setCell ⟨(w.heap.size + 1), 12, none⟩ (.slice a6 y.ws.length c6)) = W4 at *
  have s0 := r2.cell (i := 0) rfl
  have s1 := r2.cell (i := 1) rfl
  have s2 := r2.cell (i := 2) rfl
  have s3 := r2.cell (i := 3) rfl
  have s4 := r2.cell (i := 4) rfl
  have s5 := r2.cell (i := 5) rfl
  have s6 := r2.cell (i := 6) rfl
  have s7 := r2.cell (i := 7) rfl
  have s8 := r2.cell (i := 8) rfl
  have s9 := r2.cell (i := 9) rfl
  have s10 := r2.cell (i := 10) rfl
  have s11 := r2.cell (i := 11) rfl
  have s12 := r2.cell (i := 12) rfl
  refine bodyPost_ret (v := .tuple #[.agg #[.int .i64 y.g.ba, .string y.g.bs, .int .i64 y.g.cp, .int .i64 y.g.lm, .bool y.g.en, .bool y.g.dn, .int .i64 y.t.nx, .string y.t.bs, .slice a5 y.t.l.length c5, .int .i64 y.t.cp, .int .i64 y.t.fi, .bool y.t.en, .slice a6 y.ws.length c6], .bool b]) (by rw [Tak.res_cell_tmp rfl]; clear r2 rT rW rB v5 v2 oT oW e0 f0 y0 e1 f1 y1 e2 f2 y2 e3 f3 y3 e4 f4 y4 e5 f5 y5 e6 f6 y6 e7 f7 y7 e8 f8 y8 e9 f9 y9 e10 f10 y10 e11 f11 y11 e12 f12 y12; go_simp; done) rfl ⟨a5, c5, a6, c6, rfl, rT, rW, rB⟩

/-- What Tells answers. -/
def tellsH (h : Hp) (road : Int) (done : Bool) : Hp × Bool := if hopB h then tellH h road done else (zeroH, false)

set_option maxRecDepth 10000 in
set_option maxHeartbeats 8000000 in
theorem specTells (h : Hp) (aT : Option Addr) (cT : Nat) (aW : Option Addr) (cW : Nat) (road : Int) (done : Bool) (w : World) (hT : Tak.partE.Lies w aT h.t.l) (hW : letE.Lies w aW h.ws) (hnT : aT = none → cT = 0) (hnW : aW = none → cW = 0) (hs : h.Sm) :
    Calls Try.prog 16 #[h.v aT cT aW cW, .int .i64 road, .bool done] w fun e w' => ∃ aT' cT' aW' cW', e = .returned (.tuple #[(tellsH h road done).1.v aT' cT' aW' cW', .bool (tellsH h road done).2]) ∧ Tak.partE.Own 55 w' w.heap.size aT' cT' (tellsH h road done).1.t.l ∧ letE.Own 45 w' w.heap.size aW' cW' (tellsH h road done).1.ws ∧ Below w.heap.size w w' := by
  have v1 : Var 31 ((w.alloc (.cells #[.int .i64 h.g.ba, .string h.g.bs, .int .i64 h.g.cp, .int .i64 h.g.lm, .bool h.g.en, .bool h.g.dn, .int .i64 h.t.nx, .string h.t.bs, .slice aT h.t.l.length cT, .int .i64 h.t.cp, .int .i64 h.t.fi, .bool h.t.en, .slice aW h.ws.length cW] 31)).alloc (.cells #[.int .i64 0, .string ⟨#[]⟩, .int .i64 0, .int .i64 0, .bool false, .bool false, .int .i64 0, .string ⟨#[]⟩, .slice none 0 0, .int .i64 0, .int .i64 0, .bool false, .slice none 0 0] 31)) w.heap.size [.int .i64 h.g.ba, .string h.g.bs, .int .i64 h.g.cp, .int .i64 h.g.lm, .bool h.g.en, .bool h.g.dn, .int .i64 h.t.nx, .string h.t.bs, .slice aT h.t.l.length cT, .int .i64 h.t.cp, .int .i64 h.t.fi, .bool h.t.en, .slice aW h.ws.length cW] := (Var.new w [.int .i64 h.g.ba, .string h.g.bs, .int .i64 h.g.cp, .int .i64 h.g.lm, .bool h.g.en, .bool h.g.dn, .int .i64 h.t.nx, .string h.t.bs, .slice aT h.t.l.length cT, .int .i64 h.t.cp, .int .i64 h.t.fi, .bool h.t.en, .slice aW h.ws.length cW]).alloc _
  have v2 : Var 31 ((w.alloc (.cells #[.int .i64 h.g.ba, .string h.g.bs, .int .i64 h.g.cp, .int .i64 h.g.lm, .bool h.g.en, .bool h.g.dn, .int .i64 h.t.nx, .string h.t.bs, .slice aT h.t.l.length cT, .int .i64 h.t.cp, .int .i64 h.t.fi, .bool h.t.en, .slice aW h.ws.length cW] 31)).alloc (.cells #[.int .i64 0, .string ⟨#[]⟩, .int .i64 0, .int .i64 0, .bool false, .bool false, .int .i64 0, .string ⟨#[]⟩, .slice none 0 0, .int .i64 0, .int .i64 0, .bool false, .slice none 0 0] 31)) (w.heap.size + 1) [.int .i64 0, .string ⟨#[]⟩, .int .i64 0, .int .i64 0, .bool false, .bool false, .int .i64 0, .string ⟨#[]⟩, .slice none 0 0, .int .i64 0, .int .i64 0, .bool false, .slice none 0 0] := by
    have q := Var.new (T := 31) (w.alloc (.cells #[.int .i64 h.g.ba, .string h.g.bs, .int .i64 h.g.cp, .int .i64 h.g.lm, .bool h.g.en, .bool h.g.dn, .int .i64 h.t.nx, .string h.t.bs, .slice aT h.t.l.length cT, .int .i64 h.t.cp, .int .i64 h.t.fi, .bool h.t.en, .slice aW h.ws.length cW] 31)) [.int .i64 0, .string ⟨#[]⟩, .int .i64 0, .int .i64 0, .bool false, .bool false, .int .i64 0, .string ⟨#[]⟩, .slice none 0 0, .int .i64 0, .int .i64 0, .bool false, .slice none 0 0]
    simpa using q
  have b0 : Below w.heap.size w ((w.alloc (.cells #[.int .i64 h.g.ba, .string h.g.bs, .int .i64 h.g.cp, .int .i64 h.g.lm, .bool h.g.en, .bool h.g.dn, .int .i64 h.t.nx, .string h.t.bs, .slice aT h.t.l.length cT, .int .i64 h.t.cp, .int .i64 h.t.fi, .bool h.t.en, .slice aW h.ws.length cW] 31)).alloc (.cells #[.int .i64 0, .string ⟨#[]⟩, .int .i64 0, .int .i64 0, .bool false, .bool false, .int .i64 0, .string ⟨#[]⟩, .slice none 0 0, .int .i64 0, .int .i64 0, .bool false, .slice none 0 0] 31)) := ((Below.refl _ _).alloc (Nat.le_refl _) _).alloc (by simp) _
  have lT := hT.later b0
  have lW := hW.later b0
  have HOK : Hid _ := fun w' a b => specHopOk h aT cT aW cW w' a b hs
  have HCP : Hid _ := fun w' a b => l7Copy h aT cT aW cW w' a b hnT hnW hs.tl hs.wl
  have HR : Hid (tellsH h road done = if hopB h then tellH h road done else (zeroH, false)) := rfl
  generalize tellsH h road done = R at *
  go_enter Try.func16, Try.ntmps16
  go_upto_region 1 with (fail)
  generalize (w.alloc (.cells #[.int .i64 h.g.ba, .string h.g.bs, .int .i64 h.g.cp, .int .i64 h.g.lm, .bool h.g.en, .bool h.g.dn, .int .i64 h.t.nx, .string h.t.bs, .slice aT h.t.l.length cT, .int .i64 h.t.cp, .int .i64 h.t.fi, .bool h.t.en, .slice aW h.ws.length cW] 31)).alloc (.cells #[.int .i64 0, .string ⟨#[]⟩, .int .i64 0, .int .i64 0, .bool false, .bool false, .int .i64 0, .string ⟨#[]⟩, .slice none 0 0, .int .i64 0, .int .i64 0, .bool false, .slice none 0 0] 31) = V at *
  have e0 := v1.cell (i := 0) rfl
  have e1 := v1.cell (i := 1) rfl
  have e2 := v1.cell (i := 2) rfl
  have e3 := v1.cell (i := 3) rfl
  have e4 := v1.cell (i := 4) rfl
  have e5 := v1.cell (i := 5) rfl
  have e6 := v1.cell (i := 6) rfl
  have e7 := v1.cell (i := 7) rfl
  have e8 := v1.cell (i := 8) rfl
  have e9 := v1.cell (i := 9) rfl
  have e10 := v1.cell (i := 10) rfl
  have e11 := v1.cell (i := 11) rfl
  have e12 := v1.cell (i := 12) rfl
  go_wp2_with fail
  refine (HOK.out _ lT lW).mono ?_
  rintro e w1 ⟨rfl, b1⟩
  replace v1 := v1.later b1
  replace v2 := v2.later b1
  replace lW := lW.later b1
  replace lT := lT.later b1
  have B1 := b0.trans (b1.mono b0.size)
  clear HOK b1 b0 e0 e1 e2 e3 e4 e5 e6 e7 e8 e9 e10 e11 e12
  cases hb : hopB h
  case false =>
    have hR : R = (zeroH, false) := by rw [HR.out, hb]; rfl
    subst hR
    dsimp only [zeroH, Tak.zeroK, List.length_nil]
    have f0 := v2.cell (i := 0) rfl
    have f1 := v2.cell (i := 1) rfl
    have f2 := v2.cell (i := 2) rfl
    have f3 := v2.cell (i := 3) rfl
    have f4 := v2.cell (i := 4) rfl
    have f5 := v2.cell (i := 5) rfl
    have f6 := v2.cell (i := 6) rfl
    have f7 := v2.cell (i := 7) rfl
    have f8 := v2.cell (i := 8) rfl
    have f9 := v2.cell (i := 9) rfl
    have f10 := v2.cell (i := 10) rfl
    have f11 := v2.cell (i := 11) rfl
    have f12 := v2.cell (i := 12) rfl
    have y0 := v2.free 0
    have y1 := v2.free 1
    have y2 := v2.free 2
    have y3 := v2.free 3
    have y4 := v2.free 4
    have y5 := v2.free 5
    have y6 := v2.free 6
    have y7 := v2.free 7
    have y8 := v2.free 8
    have y9 := v2.free 9
    have y10 := v2.free 10
    have y11 := v2.free 11
    have y12 := v2.free 12
    go_wp2_with fail
    have r2 : Var 31 ((((((((((((((w1.setCell ⟨(w.heap.size + 1), 0, none⟩ (.int .i64 0)).setCell ⟨(w.heap.size + 1), 1, none⟩ (.string ⟨#[]⟩)).setCell ⟨(w.heap.size + 1), 2, none⟩ (.int .i64 0)).setCell ⟨(w.heap.size + 1), 3, none⟩ (.int .i64 0)).setCell ⟨(w.heap.size + 1), 4, none⟩ (.bool false)).setCell ⟨(w.heap.size + 1), 5, none⟩ (.bool false)).setCell ⟨(w.heap.size + 1), 6, none⟩ (.int .i64 0)).setCell ⟨(w.heap.size + 1), 7, none⟩ (.string ⟨#[]⟩)).setCell ⟨(w.heap.size + 1), 8, none⟩ (.slice none 0 0)).setCell ⟨(w.heap.size + 1), 9, none⟩ (.int .i64 0)).setCell ⟨(w.heap.size + 1), 10, none⟩ (.int .i64 0)).setCell ⟨(w.heap.size + 1), 11, none⟩ (.bool false)).setCell ⟨(w.heap.size + 1), 12, none⟩ (.slice none 0 0))) (w.heap.size + 1) [.int .i64 0, .string ⟨#[]⟩, .int .i64 0, .int .i64 0, .bool false, .bool false, .int .i64 0, .string ⟨#[]⟩, .slice none 0 0, .int .i64 0, .int .i64 0, .bool false, .slice none 0 0] := (((((((((((((v2.set 0 _).set 1 _).set 2 _).set 3 _).set 4 _).set 5 _).set 6 _).set 7 _).set 8 _).set 9 _).set 10 _).set 11 _).set 12 _)
    have rB : Below w.heap.size w ((((((((((((((w1.setCell ⟨(w.heap.size + 1), 0, none⟩ (.int .i64 0)).setCell ⟨(w.heap.size + 1), 1, none⟩ (.string ⟨#[]⟩)).setCell ⟨(w.heap.size + 1), 2, none⟩ (.int .i64 0)).setCell ⟨(w.heap.size + 1), 3, none⟩ (.int .i64 0)).setCell ⟨(w.heap.size + 1), 4, none⟩ (.bool false)).setCell ⟨(w.heap.size + 1), 5, none⟩ (.bool false)).setCell ⟨(w.heap.size + 1), 6, none⟩ (.int .i64 0)).setCell ⟨(w.heap.size + 1), 7, none⟩ (.string ⟨#[]⟩)).setCell ⟨(w.heap.size + 1), 8, none⟩ (.slice none 0 0)).setCell ⟨(w.heap.size + 1), 9, none⟩ (.int .i64 0)).setCell ⟨(w.heap.size + 1), 10, none⟩ (.int .i64 0)).setCell ⟨(w.heap.size + 1), 11, none⟩ (.bool false)).setCell ⟨(w.heap.size + 1), 12, none⟩ (.slice none 0 0))) := by
      iterate 13 (refine Below.setCell ?_ (by dsimp only; omega) _)
      exact B1
    generalize (((((((((((((w1.setCell ⟨(w.heap.size + 1), 0, none⟩ (.int .i64 0)).setCell ⟨(w.heap.size + 1), 1, none⟩ (.string ⟨#[]⟩)).setCell ⟨(w.heap.size + 1), 2, none⟩ (.int .i64 0)).setCell ⟨(w.heap.size + 1), 3, none⟩ (.int .i64 0)).setCell ⟨(w.heap.size + 1), 4, none⟩ (.bool false)).setCell ⟨(w.heap.size + 1), 5, none⟩ (.bool false)).setCell ⟨(w.heap.size + 1), 6, none⟩ (.int .i64 0)).setCell ⟨(w.heap.size + 1), 7, none⟩ (.string ⟨#[]⟩)).setCell ⟨(w.heap.size + 1), 8, none⟩ (.slice none 0 0)).setCell ⟨(w.heap.size + 1), 9, none⟩ (.int .i64 0)).setCell ⟨(w.heap.size + 1), 10, none⟩ (.int .i64 0)).setCell ⟨(w.heap.size + 1), 11, none⟩ (.bool false)).setCell ⟨(w.heap.size + 1), 12, none⟩ (.slice none 0 0)) = W4 at *
    have s0 := r2.cell (i := 0) rfl
    have s1 := r2.cell (i := 1) rfl
    have s2 := r2.cell (i := 2) rfl
    have s3 := r2.cell (i := 3) rfl
    have s4 := r2.cell (i := 4) rfl
    have s5 := r2.cell (i := 5) rfl
    have s6 := r2.cell (i := 6) rfl
    have s7 := r2.cell (i := 7) rfl
    have s8 := r2.cell (i := 8) rfl
    have s9 := r2.cell (i := 9) rfl
    have s10 := r2.cell (i := 10) rfl
    have s11 := r2.cell (i := 11) rfl
    have s12 := r2.cell (i := 12) rfl
    refine bodyPost_ret (v := .tuple #[.agg #[.int .i64 0, .string ⟨#[]⟩, .int .i64 0, .int .i64 0, .bool false, .bool false, .int .i64 0, .string ⟨#[]⟩, .slice none 0 0, .int .i64 0, .int .i64 0, .bool false, .slice none 0 0], .bool false]) (by rw [Tak.res_cell_tmp rfl]; clear r2 rB v1 v2 f0 y0 f1 y1 f2 y2 f3 y3 f4 y4 f5 y5 f6 y6 f7 y7 f8 y8 f9 y9 f10 y10 f11 y11 f12 y12; go_simp; done) rfl ⟨none, 0, none, 0, rfl, El.Own.none _ _, El.Own.none _ _, rB⟩
  have hR : R = tellH h road done := by rw [HR.out, hb]; rfl
  have HV2 : Hid (w.heap.size + 1 < w1.heap.size) := v2.lt
  have HHB : Hid (hopB h = true) := hb
  clear HR
  have e0 := v1.cell (i := 0) rfl
  have e1 := v1.cell (i := 1) rfl
  have e2 := v1.cell (i := 2) rfl
  have e3 := v1.cell (i := 3) rfl
  have e4 := v1.cell (i := 4) rfl
  have e5 := v1.cell (i := 5) rfl
  have e6 := v1.cell (i := 6) rfl
  have e7 := v1.cell (i := 7) rfl
  have e8 := v1.cell (i := 8) rfl
  have e9 := v1.cell (i := 9) rfl
  have e10 := v1.cell (i := 10) rfl
  have e11 := v1.cell (i := 11) rfl
  have e12 := v1.cell (i := 12) rfl
  go_wp2_with fail
  refine (HCP.out _ lT lW).mono ?_
  rintro e w2 ⟨a2, c2, a4, c4, rfl, oT, oW, b2⟩
  replace v1 := v1.later b2
  replace v2 := v2.later b2
  have B2 := B1.trans (b2.mono B1.size)
  have HZ2 : Hid (w1.heap.size ≤ w2.heap.size) := b2.size
  have hV2 : w.heap.size + 1 < w1.heap.size := HV2.out
  clear HCP lT lW b2 B1 e0 e1 e2 e3 e4 e5 e6 e7 e8 e9 e10 e11 e12
  have L0 : Lay 31 [] [] 0 (w2.alloc (.cells #[.int .i64 h.g.ba, .string h.g.bs, .int .i64 h.g.cp, .int .i64 h.g.lm, .bool h.g.en, .bool h.g.dn, .int .i64 h.t.nx, .string h.t.bs, .slice a2 h.t.l.length c2, .int .i64 h.t.cp, .int .i64 h.t.fi, .bool h.t.en, .slice a4 h.ws.length c4] 31)) w1.heap.size w2.heap.size h := ⟨a2, c2, a4, c4, (Var.new w2 [.int .i64 h.g.ba, .string h.g.bs, .int .i64 h.g.cp, .int .i64 h.g.lm, .bool h.g.en, .bool h.g.dn, .int .i64 h.t.nx, .string h.t.bs, .slice a2 h.t.l.length c2, .int .i64 h.t.cp, .int .i64 h.t.fi, .bool h.t.en, .slice a4 h.ws.length c4]).win, oT.alloc _, oW.alloc _⟩
  have B3 : Below w.heap.size w (w2.alloc (.cells #[.int .i64 h.g.ba, .string h.g.bs, .int .i64 h.g.cp, .int .i64 h.g.lm, .bool h.g.en, .bool h.g.dn, .int .i64 h.t.nx, .string h.t.bs, .slice a2 h.t.l.length c2, .int .i64 h.t.cp, .int .i64 h.t.fi, .bool h.t.en, .slice a4 h.ws.length c4] 31)) := B2.alloc B2.size _
  replace v2 := v2.alloc (.cells #[.int .i64 h.g.ba, .string h.g.bs, .int .i64 h.g.cp, .int .i64 h.g.lm, .bool h.g.en, .bool h.g.dn, .int .i64 h.t.nx, .string h.t.bs, .slice a2 h.t.l.length c2, .int .i64 h.t.cp, .int .i64 h.t.fi, .bool h.t.en, .slice a4 h.ws.length c4] 31)
  have hz2 : w1.heap.size ≤ w2.heap.size := HZ2.out
  have hz3 : w1.heap.size ≤ (w2.alloc (.cells #[.int .i64 h.g.ba, .string h.g.bs, .int .i64 h.g.cp, .int .i64 h.g.lm, .bool h.g.en, .bool h.g.dn, .int .i64 h.t.nx, .string h.t.bs, .slice a2 h.t.l.length c2, .int .i64 h.t.cp, .int .i64 h.t.fi, .bool h.t.en, .slice a4 h.ws.length c4] 31)).heap.size := by simp; omega
  clear v1 oT oW B2
  go_upto_region 4 with (fail)
  generalize w2.alloc (.cells #[.int .i64 h.g.ba, .string h.g.bs, .int .i64 h.g.cp, .int .i64 h.g.lm, .bool h.g.en, .bool h.g.dn, .int .i64 h.t.nx, .string h.t.bs, .slice a2 h.t.l.length c2, .int .i64 h.t.cp, .int .i64 h.t.fi, .bool h.t.en, .slice a4 h.ws.length c4] 31) = W2 at *
  generalize w2.heap.size = k9 at *
  go_wp2_with fail
  refine (tellLay (by decide) (by decide) (by decide) k9 w1.heap.size h road done _ L0 hz3 (by have := (hop_ok HHB.out).1; omega) (hop_ok HHB.out).2.2.1).mono ?_
  rintro e w4 ⟨rfl, L4, k4⟩
  replace v2 := k4.var v2 hV2 (by omega)
  have B4 := B3.trans (k4.below (by omega) (by omega))
  rw [← hR] at L4 ⊢
  obtain ⟨y, b⟩ := R
  obtain ⟨a5, c5, a6, c6, v5, oT, oW⟩ := L4
  dsimp only at *
  replace v5 := v5.whole
  replace oT := oT.mono (B := w.heap.size) (by omega)
  replace oW := oW.mono (B := w.heap.size) (by omega)
  clear hR k4 B3 hb L0
  have e0 := v5.cell (i := 0) rfl
  have e1 := v5.cell (i := 1) rfl
  have e2 := v5.cell (i := 2) rfl
  have e3 := v5.cell (i := 3) rfl
  have e4 := v5.cell (i := 4) rfl
  have e5 := v5.cell (i := 5) rfl
  have e6 := v5.cell (i := 6) rfl
  have e7 := v5.cell (i := 7) rfl
  have e8 := v5.cell (i := 8) rfl
  have e9 := v5.cell (i := 9) rfl
  have e10 := v5.cell (i := 10) rfl
  have e11 := v5.cell (i := 11) rfl
  have e12 := v5.cell (i := 12) rfl
  have f0 := v2.cell (i := 0) rfl
  have f1 := v2.cell (i := 1) rfl
  have f2 := v2.cell (i := 2) rfl
  have f3 := v2.cell (i := 3) rfl
  have f4 := v2.cell (i := 4) rfl
  have f5 := v2.cell (i := 5) rfl
  have f6 := v2.cell (i := 6) rfl
  have f7 := v2.cell (i := 7) rfl
  have f8 := v2.cell (i := 8) rfl
  have f9 := v2.cell (i := 9) rfl
  have f10 := v2.cell (i := 10) rfl
  have f11 := v2.cell (i := 11) rfl
  have f12 := v2.cell (i := 12) rfl
  have y0 := v2.free 0
  have y1 := v2.free 1
  have y2 := v2.free 2
  have y3 := v2.free 3
  have y4 := v2.free 4
  have y5 := v2.free 5
  have y6 := v2.free 6
  have y7 := v2.free 7
  have y8 := v2.free 8
  have y9 := v2.free 9
  have y10 := v2.free 10
  have y11 := v2.free 11
  have y12 := v2.free 12
  go_wp2_with fail
  have r2 : Var 31 ((((((((((((((w4.setCell ⟨(w.heap.size + 1), 0, none⟩ (.int .i64 y.g.ba)).setCell ⟨(w.heap.size + 1), 1, none⟩ (.string y.g.bs)).setCell ⟨(w.heap.size + 1), 2, none⟩ (.int .i64 y.g.cp)).setCell ⟨(w.heap.size + 1), 3, none⟩ (.int .i64 y.g.lm)).setCell ⟨(w.heap.size + 1), 4, none⟩ (.bool y.g.en)).setCell ⟨(w.heap.size + 1), 5, none⟩ (.bool y.g.dn)).setCell ⟨(w.heap.size + 1), 6, none⟩ (.int .i64 y.t.nx)).setCell ⟨(w.heap.size + 1), 7, none⟩ (.string y.t.bs)).setCell ⟨(w.heap.size + 1), 8, none⟩ (.slice a5 y.t.l.length c5)).setCell ⟨(w.heap.size + 1), 9, none⟩ (.int .i64 y.t.cp)).setCell ⟨(w.heap.size + 1), 10, none⟩ (.int .i64 y.t.fi)).setCell ⟨(w.heap.size + 1), 11, none⟩ (.bool y.t.en)).setCell ⟨(w.heap.size + 1), 12, none⟩ (.slice a6 y.ws.length c6))) (w.heap.size + 1) [.int .i64 y.g.ba, .string y.g.bs, .int .i64 y.g.cp, .int .i64 y.g.lm, .bool y.g.en, .bool y.g.dn, .int .i64 y.t.nx, .string y.t.bs, .slice a5 y.t.l.length c5, .int .i64 y.t.cp, .int .i64 y.t.fi, .bool y.t.en, .slice a6 y.ws.length c6] := (((((((((((((v2.set 0 _).set 1 _).set 2 _).set 3 _).set 4 _).set 5 _).set 6 _).set 7 _).set 8 _).set 9 _).set 10 _).set 11 _).set 12 _)
  have rT : Tak.partE.Own 55 ((((((((((((((w4.setCell ⟨(w.heap.size + 1), 0, none⟩ (.int .i64 y.g.ba)).setCell ⟨(w.heap.size + 1), 1, none⟩ (.string y.g.bs)).setCell ⟨(w.heap.size + 1), 2, none⟩ (.int .i64 y.g.cp)).setCell ⟨(w.heap.size + 1), 3, none⟩ (.int .i64 y.g.lm)).setCell ⟨(w.heap.size + 1), 4, none⟩ (.bool y.g.en)).setCell ⟨(w.heap.size + 1), 5, none⟩ (.bool y.g.dn)).setCell ⟨(w.heap.size + 1), 6, none⟩ (.int .i64 y.t.nx)).setCell ⟨(w.heap.size + 1), 7, none⟩ (.string y.t.bs)).setCell ⟨(w.heap.size + 1), 8, none⟩ (.slice a5 y.t.l.length c5)).setCell ⟨(w.heap.size + 1), 9, none⟩ (.int .i64 y.t.cp)).setCell ⟨(w.heap.size + 1), 10, none⟩ (.int .i64 y.t.fi)).setCell ⟨(w.heap.size + 1), 11, none⟩ (.bool y.t.en)).setCell ⟨(w.heap.size + 1), 12, none⟩ (.slice a6 y.ws.length c6))) w.heap.size a5 c5 y.t.l := by
    iterate 13 (refine El.Own.setCell ?_ (fun x hx => by have := (own_win (by decide) oT v2.win x hx); exact this) _)
    exact oT
  have rW : letE.Own 45 ((((((((((((((w4.setCell ⟨(w.heap.size + 1), 0, none⟩ (.int .i64 y.g.ba)).setCell ⟨(w.heap.size + 1), 1, none⟩ (.string y.g.bs)).setCell ⟨(w.heap.size + 1), 2, none⟩ (.int .i64 y.g.cp)).setCell ⟨(w.heap.size + 1), 3, none⟩ (.int .i64 y.g.lm)).setCell ⟨(w.heap.size + 1), 4, none⟩ (.bool y.g.en)).setCell ⟨(w.heap.size + 1), 5, none⟩ (.bool y.g.dn)).setCell ⟨(w.heap.size + 1), 6, none⟩ (.int .i64 y.t.nx)).setCell ⟨(w.heap.size + 1), 7, none⟩ (.string y.t.bs)).setCell ⟨(w.heap.size + 1), 8, none⟩ (.slice a5 y.t.l.length c5)).setCell ⟨(w.heap.size + 1), 9, none⟩ (.int .i64 y.t.cp)).setCell ⟨(w.heap.size + 1), 10, none⟩ (.int .i64 y.t.fi)).setCell ⟨(w.heap.size + 1), 11, none⟩ (.bool y.t.en)).setCell ⟨(w.heap.size + 1), 12, none⟩ (.slice a6 y.ws.length c6))) w.heap.size a6 c6 y.ws := by
    iterate 13 (refine El.Own.setCell ?_ (fun x hx => by have := (own_win (by decide) oW v2.win x hx); exact this) _)
    exact oW
  have rB : Below w.heap.size w ((((((((((((((w4.setCell ⟨(w.heap.size + 1), 0, none⟩ (.int .i64 y.g.ba)).setCell ⟨(w.heap.size + 1), 1, none⟩ (.string y.g.bs)).setCell ⟨(w.heap.size + 1), 2, none⟩ (.int .i64 y.g.cp)).setCell ⟨(w.heap.size + 1), 3, none⟩ (.int .i64 y.g.lm)).setCell ⟨(w.heap.size + 1), 4, none⟩ (.bool y.g.en)).setCell ⟨(w.heap.size + 1), 5, none⟩ (.bool y.g.dn)).setCell ⟨(w.heap.size + 1), 6, none⟩ (.int .i64 y.t.nx)).setCell ⟨(w.heap.size + 1), 7, none⟩ (.string y.t.bs)).setCell ⟨(w.heap.size + 1), 8, none⟩ (.slice a5 y.t.l.length c5)).setCell ⟨(w.heap.size + 1), 9, none⟩ (.int .i64 y.t.cp)).setCell ⟨(w.heap.size + 1), 10, none⟩ (.int .i64 y.t.fi)).setCell ⟨(w.heap.size + 1), 11, none⟩ (.bool y.t.en)).setCell ⟨(w.heap.size + 1), 12, none⟩ (.slice a6 y.ws.length c6))) := by
    iterate 13 (refine Below.setCell ?_ (by dsimp only; omega) _)
    exact B4
  generalize (((((((((((((w4.setCell ⟨(w.heap.size + 1), 0, none⟩ (.int .i64 y.g.ba)).setCell ⟨(w.heap.size + 1), 1, none⟩ (.string y.g.bs)).setCell ⟨(w.heap.size + 1), 2, none⟩ (.int .i64 y.g.cp)).setCell ⟨(w.heap.size + 1), 3, none⟩ (.int .i64 y.g.lm)).setCell ⟨(w.heap.size + 1), 4, none⟩ (.bool y.g.en)).setCell ⟨(w.heap.size + 1), 5, none⟩ (.bool y.g.dn)).setCell ⟨(w.heap.size + 1), 6, none⟩ (.int .i64 y.t.nx)).setCell ⟨(w.heap.size + 1), 7, none⟩ (.string y.t.bs)).setCell ⟨(w.heap.size + 1), 8, none⟩ (.slice a5 y.t.l.length c5)).setCell ⟨(w.heap.size + 1), 9, none⟩ (.int .i64 y.t.cp)).setCell ⟨(w.heap.size + 1), 10, none⟩ (.int .i64 y.t.fi)).setCell ⟨(w.heap.size + 1), 11, none⟩ (.bool y.t.en)).setCell ⟨(w.heap.size + 1), 12, none⟩ (.slice a6 y.ws.length c6)) = W4 at *
  have s0 := r2.cell (i := 0) rfl
  have s1 := r2.cell (i := 1) rfl
  have s2 := r2.cell (i := 2) rfl
  have s3 := r2.cell (i := 3) rfl
  have s4 := r2.cell (i := 4) rfl
  have s5 := r2.cell (i := 5) rfl
  have s6 := r2.cell (i := 6) rfl
  have s7 := r2.cell (i := 7) rfl
  have s8 := r2.cell (i := 8) rfl
  have s9 := r2.cell (i := 9) rfl
  have s10 := r2.cell (i := 10) rfl
  have s11 := r2.cell (i := 11) rfl
  have s12 := r2.cell (i := 12) rfl
  refine bodyPost_ret (v := .tuple #[.agg #[.int .i64 y.g.ba, .string y.g.bs, .int .i64 y.g.cp, .int .i64 y.g.lm, .bool y.g.en, .bool y.g.dn, .int .i64 y.t.nx, .string y.t.bs, .slice a5 y.t.l.length c5, .int .i64 y.t.cp, .int .i64 y.t.fi, .bool y.t.en, .slice a6 y.ws.length c6], .bool b]) (by rw [Tak.res_cell_tmp rfl]; clear r2 rT rW rB v5 v2 oT oW e0 f0 y0 e1 f1 y1 e2 f2 y2 e3 f3 y3 e4 f4 y4 e5 f5 y5 e6 f6 y6 e7 f7 y7 e8 f8 y8 e9 f9 y9 e10 f10 y10 e11 f11 y11 e12 f12 y12; go_simp; done) rfl ⟨a5, c5, a6, c6, rfl, rT, rW, rB⟩

end Go.Proofs.Ytonhjlhpppfcpaa.Hop
