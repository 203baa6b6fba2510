/- The program's Sends; of hops that are not too great. -/
import Derived.Test.YtonhjlhpppfcpaaHopS
import Derived.Test.YtonhjlhpppfcpaaHopH
import Derived.Test.YtonhjlhpppfcpaaHopE
import Derived.Test.YtonhjlhpppfcpaaGivU
namespace Go.Proofs.Ytonhjlhpppfcpaa.Hop
open Go.RowKit RowG
set_option linter.unusedVariables false
set_option linter.unusedSimpArgs false

theorem offers_eq {g : Giv.Gv} (h : g.ok = true) (p n : Int) : Giv.offersG g p n = Giv.offerG g p n := by unfold Giv.offersG; rw [if_pos h]
theorem send_let {g : Giv.Gv} {p n xa : Int} {xb : ByteArray} {xe : Bool} (h : Giv.offersG g p n = ((xa, xb), xe, true)) (road : Int) : letB ⟨false, road, xa, xb, xe, 0, false⟩ = decide (0 ≤ road ∧ road ≤ 3) := by
  obtain ⟨hok, rfl, st, h1, h2, h3, h4, h5, h6, h7, h8, h9, h10, h11⟩ := Giv.offers_some h
  have hg := Giv.ok_iff.1 hok
  have e1 : Num.plB xa = true := decide_eq_true (by omega)
  have e2 : decide (xb.size ≤ 40) = true := decide_eq_true (by omega)
  have e3 : Num.plB (xa + xb.size) = true := decide_eq_true (by omega)
  have e4 : (xe || !decide (xb.size = 0)) = true := by
    by_cases hz : xb.size = 0
    · rw [h11 (by omega)]; rfl
    · rw [decide_eq_false hz]; simp
  unfold letB
  dsimp only
  rw [e1, e2, e3, e4]
  simp
/-- Of a right hop what the program posts is what the specification posts. -/
theorem send_room {h : Hp} {x : Lt} (hl : letB x = decide (0 ≤ x.rd ∧ x.rd ≤ 3)) : roomB h x = postB h x ∧ roomH h x = postH h x := by
  have e : roomB h x = postB h x := by
    unfold roomB postB
    rw [hl]
    exact Bool.and_comm _ _
  refine ⟨e, ?_⟩
  unfold roomH postH
  rw [e]

set_option maxRecDepth 10000 in
set_option maxHeartbeats 8000000 in
theorem implSends (h : Hp) (aT : Option Addr) (cT : Nat) (aW : Option Addr) (cW : Nat) (road p n : Int) (w : World) (hT : Tak.partE.Lies w aT h.t.l) (hW : letE.Lies w aW h.ws) (hnT : aT = none → cT = 0) (hnW : aW = none → cW = 0) (hs : h.Sm) :
    Calls Try.prog 7 #[h.v aT cT aW cW, .int .i64 road, .int .i64 p, .int .i64 n] w fun e w' => ∃ aT' cT' aW' cW', e = .returned (.tuple #[(sendsH h road p n).1.v aT' cT' aW' cW', .bool (sendsH h road p n).2]) ∧ Tak.partE.Own 55 w' w.heap.size aT' cT' (sendsH h road p n).1.t.l ∧ letE.Own 45 w' w.heap.size aW' cW' (sendsH h road p n).1.ws ∧ Below w.heap.size w w' := by
  have hmix := mix
  have v1 : Var 31 ((w.alloc (.cells #[.int .i64 h.g.ba, .string h.g.bs, .int .i64 h.g.cp, .int .i64 h.g.lm, .bool h.g.en, .bool h.g.dn, .int .i64 h.t.nx, .string h.t.bs, .slice aT h.t.l.length cT, .int .i64 h.t.cp, .int .i64 h.t.fi, .bool h.t.en, .slice aW h.ws.length cW] 31)).alloc (.cells #[.int .i64 0, .string ⟨#[]⟩, .int .i64 0, .int .i64 0, .bool false, .bool false, .int .i64 0, .string ⟨#[]⟩, .slice none 0 0, .int .i64 0, .int .i64 0, .bool false, .slice none 0 0] 31)) w.heap.size [.int .i64 h.g.ba, .string h.g.bs, .int .i64 h.g.cp, .int .i64 h.g.lm, .bool h.g.en, .bool h.g.dn, .int .i64 h.t.nx, .string h.t.bs, .slice aT h.t.l.length cT, .int .i64 h.t.cp, .int .i64 h.t.fi, .bool h.t.en, .slice aW h.ws.length cW] := (Var.new w [.int .i64 h.g.ba, .string h.g.bs, .int .i64 h.g.cp, .int .i64 h.g.lm, .bool h.g.en, .bool h.g.dn, .int .i64 h.t.nx, .string h.t.bs, .slice aT h.t.l.length cT, .int .i64 h.t.cp, .int .i64 h.t.fi, .bool h.t.en, .slice aW h.ws.length cW]).alloc _
  have v2 : Var 31 ((w.alloc (.cells #[.int .i64 h.g.ba, .string h.g.bs, .int .i64 h.g.cp, .int .i64 h.g.lm, .bool h.g.en, .bool h.g.dn, .int .i64 h.t.nx, .string h.t.bs, .slice aT h.t.l.length cT, .int .i64 h.t.cp, .int .i64 h.t.fi, .bool h.t.en, .slice aW h.ws.length cW] 31)).alloc (.cells #[.int .i64 0, .string ⟨#[]⟩, .int .i64 0, .int .i64 0, .bool false, .bool false, .int .i64 0, .string ⟨#[]⟩, .slice none 0 0, .int .i64 0, .int .i64 0, .bool false, .slice none 0 0] 31)) (w.heap.size + 1) [.int .i64 0, .string ⟨#[]⟩, .int .i64 0, .int .i64 0, .bool false, .bool false, .int .i64 0, .string ⟨#[]⟩, .slice none 0 0, .int .i64 0, .int .i64 0, .bool false, .slice none 0 0] := by
    have q := Var.new (T := 31) (w.alloc (.cells #[.int .i64 h.g.ba, .string h.g.bs, .int .i64 h.g.cp, .int .i64 h.g.lm, .bool h.g.en, .bool h.g.dn, .int .i64 h.t.nx, .string h.t.bs, .slice aT h.t.l.length cT, .int .i64 h.t.cp, .int .i64 h.t.fi, .bool h.t.en, .slice aW h.ws.length cW] 31)) [.int .i64 0, .string ⟨#[]⟩, .int .i64 0, .int .i64 0, .bool false, .bool false, .int .i64 0, .string ⟨#[]⟩, .slice none 0 0, .int .i64 0, .int .i64 0, .bool false, .slice none 0 0]
    simpa using q
  have b0 : Below w.heap.size w ((w.alloc (.cells #[.int .i64 h.g.ba, .string h.g.bs, .int .i64 h.g.cp, .int .i64 h.g.lm, .bool h.g.en, .bool h.g.dn, .int .i64 h.t.nx, .string h.t.bs, .slice aT h.t.l.length cT, .int .i64 h.t.cp, .int .i64 h.t.fi, .bool h.t.en, .slice aW h.ws.length cW] 31)).alloc (.cells #[.int .i64 0, .string ⟨#[]⟩, .int .i64 0, .int .i64 0, .bool false, .bool false, .int .i64 0, .string ⟨#[]⟩, .slice none 0 0, .int .i64 0, .int .i64 0, .bool false, .slice none 0 0] 31)) := ((Below.refl _ _).alloc (Nat.le_refl _) _).alloc (by simp) _
  have lT := hT.later b0
  have lW := hW.later b0
  have HOK : Hid _ := fun w' a b => implHopOk h aT cT aW cW w' a b hs
  have HCP : Hid _ := fun w' a b => ownHop h aT cT aW cW w' a b hnT hnW hs.tl hs.wl
  have hO := fun w' => Giv.implOffers h.g p n w' hs.gb
  have HR : Hid (sendsH h road p n = if hopB h then sendH h road p n else (zeroH, false)) := rfl
  have HS : Hid (sendH h road p n = if (Giv.offerG h.g p n).2.2 then (postH h (sendL (Giv.offerG h.g p n) road), postB h (sendL (Giv.offerG h.g p n) road)) else (h, false)) := rfl
  have HE : Hid (h.g.ok = true → Giv.offersG h.g p n = Giv.offerG h.g p n) := fun q => offers_eq q p n
  generalize sendsH h road p n = R at *
  obtain ⟨O, hOe⟩ : ∃ O, Giv.offersG h.g p n = O := ⟨_, rfl⟩
  rw [hOe] at hO
  have HOE : Hid _ := hOe
  clear hOe
  obtain ⟨⟨xa, xb⟩, xe, is⟩ := O
  dsimp only [Giv.Gv.v, Giv.offV] at hO
  go_enter Try.func7, Try.ntmps7
  go_upto_region 1 with (fail)
  generalize (w.alloc (.cells #[.int .i64 h.g.ba, .string h.g.bs, .int .i64 h.g.cp, .int .i64 h.g.lm, .bool h.g.en, .bool h.g.dn, .int .i64 h.t.nx, .string h.t.bs, .slice aT h.t.l.length cT, .int .i64 h.t.cp, .int .i64 h.t.fi, .bool h.t.en, .slice aW h.ws.length cW] 31)).alloc (.cells #[.int .i64 0, .string ⟨#[]⟩, .int .i64 0, .int .i64 0, .bool false, .bool false, .int .i64 0, .string ⟨#[]⟩, .slice none 0 0, .int .i64 0, .int .i64 0, .bool false, .slice none 0 0] 31) = V at *
  have e0 := v1.cell (i := 0) rfl
  have e1 := v1.cell (i := 1) rfl
  have e2 := v1.cell (i := 2) rfl
  have e3 := v1.cell (i := 3) rfl
  have e4 := v1.cell (i := 4) rfl
  have e5 := v1.cell (i := 5) rfl
  have e6 := v1.cell (i := 6) rfl
  have e7 := v1.cell (i := 7) rfl
  have e8 := v1.cell (i := 8) rfl
  have e9 := v1.cell (i := 9) rfl
  have e10 := v1.cell (i := 10) rfl
  have e11 := v1.cell (i := 11) rfl
  have e12 := v1.cell (i := 12) rfl
  go_wp2_with fail
  refine (HOK.out _ lT lW).mono ?_
  rintro e w1 ⟨rfl, b1⟩
  replace v1 := v1.later b1
  replace v2 := v2.later b1
  have B1 := b0.trans (b1.mono b0.size)
  clear HOK b1 b0 lT lW e0 e1 e2 e3 e4 e5 e6 e7 e8 e9 e10 e11 e12
  cases hb : hopB h
  case false =>
    have hR : R = (zeroH, false) := by rw [HR.out, hb]; rfl
    subst hR
    dsimp only [zeroH, Tak.zeroK, List.length_nil]
    have f0 := v2.cell (i := 0) rfl
    have f1 := v2.cell (i := 1) rfl
    have f2 := v2.cell (i := 2) rfl
    have f3 := v2.cell (i := 3) rfl
    have f4 := v2.cell (i := 4) rfl
    have f5 := v2.cell (i := 5) rfl
    have f6 := v2.cell (i := 6) rfl
    have f7 := v2.cell (i := 7) rfl
    have f8 := v2.cell (i := 8) rfl
    have f9 := v2.cell (i := 9) rfl
    have f10 := v2.cell (i := 10) rfl
    have f11 := v2.cell (i := 11) rfl
    have f12 := v2.cell (i := 12) rfl
    have y0 := v2.free 0
    have y1 := v2.free 1
    have y2 := v2.free 2
    have y3 := v2.free 3
    have y4 := v2.free 4
    have y5 := v2.free 5
    have y6 := v2.free 6
    have y7 := v2.free 7
    have y8 := v2.free 8
    have y9 := v2.free 9
    have y10 := v2.free 10
    have y11 := v2.free 11
    have y12 := v2.free 12
    go_wp2_with fail
    have r2 : Var 31 ((((((((((((((w1.setCell ⟨(w.heap.size + 1), 0, none⟩ (.int .i64 0)).setCell ⟨(w.heap.size + 1), 1, none⟩ (.string ⟨#[]⟩)).setCell ⟨(w.heap.size + 1), 2, none⟩ (.int .i64 0)).setCell ⟨(w.heap.size + 1), 3, none⟩ (.int .i64 0)).setCell ⟨(w.heap.size + 1), 4, none⟩ (.bool false)).setCell ⟨(w.heap.size + 1), 5, none⟩ (.bool false)).setCell ⟨(w.heap.size + 1), 6, none⟩ (.int .i64 0)).setCell ⟨(w.heap.size + 1), 7, none⟩ (.string ⟨#[]⟩)).setCell ⟨(w.heap.size + 1), 8, none⟩ (.slice none 0 0)).setCell ⟨(w.heap.size + 1), 9, none⟩ (.int .i64 0)).setCell ⟨(w.heap.size + 1), 10, none⟩ (.int .i64 0)).setCell ⟨(w.heap.size + 1), 11, none⟩ (.bool false)).setCell ⟨(w.heap.size + 1), 12, none⟩ (.slice none 0 0))) (w.heap.size + 1) [.int .i64 0, .string ⟨#[]⟩, .int .i64 0, .int .i64 0, .bool false, .bool false, .int .i64 0, .string ⟨#[]⟩, .slice none 0 0, .int .i64 0, .int .i64 0, .bool false, .slice none 0 0] := (((((((((((((v2.set 0 _).set 1 _).set 2 _).set 3 _).set 4 _).set 5 _).set 6 _).set 7 _).set 8 _).set 9 _).set 10 _).set 11 _).set 12 _)
    have rB : Below w.heap.size w ((((((((((((((w1.setCell ⟨(w.heap.size + 1), 0, none⟩ (.int .i64 0)).setCell ⟨(w.heap.size + 1), 1, none⟩ (.string ⟨#[]⟩)).setCell ⟨(w.heap.size + 1), 2, none⟩ (.int .i64 0)).setCell ⟨(w.heap.size + 1), 3, none⟩ (.int .i64 0)).setCell ⟨(w.heap.size + 1), 4, none⟩ (.bool false)).setCell ⟨(w.heap.size + 1), 5, none⟩ (.bool false)).setCell ⟨(w.heap.size + 1), 6, none⟩ (.int .i64 0)).setCell ⟨(w.heap.size + 1), 7, none⟩ (.string ⟨#[]⟩)).setCell ⟨(w.heap.size + 1), 8, none⟩ (.slice none 0 0)).setCell ⟨(w.heap.size + 1), 9, none⟩ (.int .i64 0)).setCell ⟨(w.heap.size + 1), 10, none⟩ (.int .i64 0)).setCell ⟨(w.heap.size + 1), 11, none⟩ (.bool false)).setCell ⟨(w.heap.size + 1), 12, none⟩ (.slice none 0 0))) := (Below.setCell (Below.setCell (Below.setCell (Below.setCell (Below.setCell (Below.setCell (Below.setCell (Below.setCell (Below.setCell (Below.setCell (Below.setCell (Below.setCell (Below.setCell B1 (p := ⟨(w.heap.size + 1), 0, none⟩) (by dsimp only; omega) _) (p := ⟨(w.heap.size + 1), 1, none⟩) (by dsimp only; omega) _) (p := ⟨(w.heap.size + 1), 2, none⟩) (by dsimp only; omega) _) (p := ⟨(w.heap.size + 1), 3, none⟩) (by dsimp only; omega) _) (p := ⟨(w.heap.size + 1), 4, none⟩) (by dsimp only; omega) _) (p := ⟨(w.heap.size + 1), 5, none⟩) (by dsimp only; omega) _) (p := ⟨(w.heap.size + 1), 6, none⟩) (by dsimp only; omega) _) (p := ⟨(w.heap.size + 1), 7, none⟩) (by dsimp only; omega) _) (p := ⟨(w.heap.size + 1), 8, none⟩) (by dsimp only; omega) _) (p := ⟨(w.heap.size + 1), 9, none⟩) (by dsimp only; omega) _) (p := ⟨(w.heap.size + 1), 10, none⟩) (by dsimp only; omega) _) (p := ⟨(w.heap.size + 1), 11, none⟩) (by dsimp only; omega) _) (p := ⟨(w.heap.size + 1), 12, none⟩) (by dsimp only; omega) _)
    generalize (((((((((((((w1.setCell ⟨(w.heap.size + 1), 0, none⟩ (.int .i64 0)).setCell ⟨(w.heap.size + 1), 1, none⟩ (.string ⟨#[]⟩)).setCell ⟨(w.heap.size + 1), 2, none⟩ (.int .i64 0)).setCell ⟨(w.heap.size + 1), 3, none⟩ (.int .i64 0)).setCell ⟨(w.heap.size + 1), 4, none⟩ (.bool false)).setCell ⟨(w.heap.size + 1), 5, none⟩ (.bool false)).setCell ⟨(w.heap.size + 1), 6, none⟩ (.int .i64 0)).setCell ⟨(w.heap.size + 1), 7, none⟩ (.string ⟨#[]⟩)).setCell ⟨(w.heap.size + 1), 8, none⟩ (.slice none 0 0)).setCell ⟨(w.heap.size + 1), 9, none⟩ (.int .i64 0)).setCell ⟨(w.heap.size + 1), 10, none⟩ (.int .i64 0)).setCell ⟨(w.heap.size + 1), 11, none⟩ (.bool false)).setCell ⟨(w.heap.size + 1), 12, none⟩ (.slice none 0 0)) = W4 at *
    have s0 := r2.cell (i := 0) rfl
    have s1 := r2.cell (i := 1) rfl
    have s2 := r2.cell (i := 2) rfl
    have s3 := r2.cell (i := 3) rfl
    have s4 := r2.cell (i := 4) rfl
    have s5 := r2.cell (i := 5) rfl
    have s6 := r2.cell (i := 6) rfl
    have s7 := r2.cell (i := 7) rfl
    have s8 := r2.cell (i := 8) rfl
    have s9 := r2.cell (i := 9) rfl
    have s10 := r2.cell (i := 10) rfl
    have s11 := r2.cell (i := 11) rfl
    have s12 := r2.cell (i := 12) rfl
    refine bodyPost_ret (v := .tuple #[.agg #[.int .i64 0, .string ⟨#[]⟩, .int .i64 0, .int .i64 0, .bool false, .bool false, .int .i64 0, .string ⟨#[]⟩, .slice none 0 0, .int .i64 0, .int .i64 0, .bool false, .slice none 0 0], .bool false]) (by rw [Tak.res_cell_tmp rfl]; clear r2 rB v1 v2 f0 y0 f1 y1 f2 y2 f3 y3 f4 y4 f5 y5 f6 y6 f7 y7 f8 y8 f9 y9 f10 y10 f11 y11 f12 y12; go_simp; done) rfl ⟨none, 0, none, 0, rfl, El.Own.none _ _, El.Own.none _ _, rB⟩
  have HHB : Hid (hopB h = true) := hb
  have hgo := (hop_ok hb).2.1
  rw [← HE.out hgo, HOE.out] at HS
  have hR : R = sendH h road p n := by rw [HR.out, hb]; rfl
  have HRS : Hid (R = if is then (postH h (sendL ((xa, xb), xe, is) road), postB h (sendL ((xa, xb), xe, is) road)) else (h, false)) := by show _ = _; rw [hR, HS.out]
  clear HR HS hR HE hgo hb
  have e0 := v1.cell (i := 0) rfl
  have e1 := v1.cell (i := 1) rfl
  have e2 := v1.cell (i := 2) rfl
  have e3 := v1.cell (i := 3) rfl
  have e4 := v1.cell (i := 4) rfl
  have e5 := v1.cell (i := 5) rfl
  have e6 := v1.cell (i := 6) rfl
  have e7 := v1.cell (i := 7) rfl
  have e8 := v1.cell (i := 8) rfl
  have e9 := v1.cell (i := 9) rfl
  have e10 := v1.cell (i := 10) rfl
  have e11 := v1.cell (i := 11) rfl
  have e12 := v1.cell (i := 12) rfl
  go_wp2_with fail
  refine (hO _).mono ?_
  rintro e w2 ⟨rfl, b2⟩
  replace v1 := (v1.later b2).alloc (.cells #[.int .i64 xa, .string xb] 55)
  replace v2 := (v2.later b2).alloc (.cells #[.int .i64 xa, .string xb] 55)
  have v10 : Var 55 (w2.alloc (.cells #[.int .i64 xa, .string xb] 55)) w2.heap.size [.int .i64 xa, .string xb] := Var.new w2 _
  have B2 := B1.trans (b2.mono B1.size)
  have B3 : Below w.heap.size w (w2.alloc (.cells #[.int .i64 xa, .string xb] 55)) := B2.alloc B2.size _
  clear b2 B1 B2 hO e0 e1 e2 e3 e4 e5 e6 e7 e8 e9 e10 e11 e12
  go_upto_region 4 with (fail)
  generalize w2.alloc (.cells #[.int .i64 xa, .string xb] 55) = W2 at *
  generalize w2.heap.size = k10 at *
  have lT3 := hT.later B3
  have lW3 := hW.later B3
  have hV2 : w.heap.size + 1 < W2.heap.size := v2.lt
  cases is
  case false =>
    have hR : R = (h, false) := HRS.out
    subst hR
    have e0 := v1.cell (i := 0) rfl
    have e1 := v1.cell (i := 1) rfl
    have e2 := v1.cell (i := 2) rfl
    have e3 := v1.cell (i := 3) rfl
    have e4 := v1.cell (i := 4) rfl
    have e5 := v1.cell (i := 5) rfl
    have e6 := v1.cell (i := 6) rfl
    have e7 := v1.cell (i := 7) rfl
    have e8 := v1.cell (i := 8) rfl
    have e9 := v1.cell (i := 9) rfl
    have e10 := v1.cell (i := 10) rfl
    have e11 := v1.cell (i := 11) rfl
    have e12 := v1.cell (i := 12) rfl
    go_wp2_with fail
    refine (HCP.out _ lT3 lW3).mono ?_
    rintro e w3 ⟨a5, c5, a6, c6, rfl, oT, oW, b3⟩
    replace v2 := v2.later b3
    have B4 := B3.trans (b3.mono B3.size)
    clear b3 HCP v1 v10 e0 e1 e2 e3 e4 e5 e6 e7 e8 e9 e10 e11 e12
    have f0 := v2.cell (i := 0) rfl
    have f1 := v2.cell (i := 1) rfl
    have f2 := v2.cell (i := 2) rfl
    have f3 := v2.cell (i := 3) rfl
    have f4 := v2.cell (i := 4) rfl
    have f5 := v2.cell (i := 5) rfl
    have f6 := v2.cell (i := 6) rfl
    have f7 := v2.cell (i := 7) rfl
    have f8 := v2.cell (i := 8) rfl
    have f9 := v2.cell (i := 9) rfl
    have f10 := v2.cell (i := 10) rfl
    have f11 := v2.cell (i := 11) rfl
    have f12 := v2.cell (i := 12) rfl
    have y0 := v2.free 0
    have y1 := v2.free 1
    have y2 := v2.free 2
    have y3 := v2.free 3
    have y4 := v2.free 4
    have y5 := v2.free 5
    have y6 := v2.free 6
    have y7 := v2.free 7
    have y8 := v2.free 8
    have y9 := v2.free 9
    have y10 := v2.free 10
    have y11 := v2.free 11
    have y12 := v2.free 12
    go_wp2_with fail
    have r2 : Var 31 ((((((((((((((w3.setCell ⟨(w.heap.size + 1), 0, none⟩ (.int .i64 h.g.ba)).setCell ⟨(w.heap.size + 1), 1, none⟩ (.string h.g.bs)).setCell ⟨(w.heap.size + 1), 2, none⟩ (.int .i64 h.g.cp)).setCell ⟨(w.heap.size + 1), 3, none⟩ (.int .i64 h.g.lm)).setCell ⟨(w.heap.size + 1), 4, none⟩ (.bool h.g.en)).setCell ⟨(w.heap.size + 1), 5, none⟩ (.bool h.g.dn)).setCell ⟨(w.heap.size + 1), 6, none⟩ (.int .i64 h.t.nx)).setCell ⟨(w.heap.size + 1), 7, none⟩ (.string h.t.bs)).setCell ⟨(w.heap.size + 1), 8, none⟩ (.slice a5 h.t.l.length c5)).setCell ⟨(w.heap.size + 1), 9, none⟩ (.int .i64 h.t.cp)).setCell ⟨(w.heap.size + 1), 10, none⟩ (.int .i64 h.t.fi)).setCell ⟨(w.heap.size + 1), 11, none⟩ (.bool h.t.en)).setCell ⟨(w.heap.size + 1), 12, none⟩ (.slice a6 h.ws.length c6))) (w.heap.size + 1) [.int .i64 h.g.ba, .string h.g.bs, .int .i64 h.g.cp, .int .i64 h.g.lm, .bool h.g.en, .bool h.g.dn, .int .i64 h.t.nx, .string h.t.bs, .slice a5 h.t.l.length c5, .int .i64 h.t.cp, .int .i64 h.t.fi, .bool h.t.en, .slice a6 h.ws.length c6] := (((((((((((((v2.set 0 _).set 1 _).set 2 _).set 3 _).set 4 _).set 5 _).set 6 _).set 7 _).set 8 _).set 9 _).set 10 _).set 11 _).set 12 _)
    have rT : Tak.partE.Own 55 ((((((((((((((w3.setCell ⟨(w.heap.size + 1), 0, none⟩ (.int .i64 h.g.ba)).setCell ⟨(w.heap.size + 1), 1, none⟩ (.string h.g.bs)).setCell ⟨(w.heap.size + 1), 2, none⟩ (.int .i64 h.g.cp)).setCell ⟨(w.heap.size + 1), 3, none⟩ (.int .i64 h.g.lm)).setCell ⟨(w.heap.size + 1), 4, none⟩ (.bool h.g.en)).setCell ⟨(w.heap.size + 1), 5, none⟩ (.bool h.g.dn)).setCell ⟨(w.heap.size + 1), 6, none⟩ (.int .i64 h.t.nx)).setCell ⟨(w.heap.size + 1), 7, none⟩ (.string h.t.bs)).setCell ⟨(w.heap.size + 1), 8, none⟩ (.slice a5 h.t.l.length c5)).setCell ⟨(w.heap.size + 1), 9, none⟩ (.int .i64 h.t.cp)).setCell ⟨(w.heap.size + 1), 10, none⟩ (.int .i64 h.t.fi)).setCell ⟨(w.heap.size + 1), 11, none⟩ (.bool h.t.en)).setCell ⟨(w.heap.size + 1), 12, none⟩ (.slice a6 h.ws.length c6))) w.heap.size a5 c5 h.t.l := by
      iterate 13 (refine El.Own.setCell ?_ (fun x hx => by have := (own_win (by decide) oT v2.win x hx); exact this) _)
      exact oT.mono (by omega)
    have rW : letE.Own 45 ((((((((((((((w3.setCell ⟨(w.heap.size + 1), 0, none⟩ (.int .i64 h.g.ba)).setCell ⟨(w.heap.size + 1), 1, none⟩ (.string h.g.bs)).setCell ⟨(w.heap.size + 1), 2, none⟩ (.int .i64 h.g.cp)).setCell ⟨(w.heap.size + 1), 3, none⟩ (.int .i64 h.g.lm)).setCell ⟨(w.heap.size + 1), 4, none⟩ (.bool h.g.en)).setCell ⟨(w.heap.size + 1), 5, none⟩ (.bool h.g.dn)).setCell ⟨(w.heap.size + 1), 6, none⟩ (.int .i64 h.t.nx)).setCell ⟨(w.heap.size + 1), 7, none⟩ (.string h.t.bs)).setCell ⟨(w.heap.size + 1), 8, none⟩ (.slice a5 h.t.l.length c5)).setCell ⟨(w.heap.size + 1), 9, none⟩ (.int .i64 h.t.cp)).setCell ⟨(w.heap.size + 1), 10, none⟩ (.int .i64 h.t.fi)).setCell ⟨(w.heap.size + 1), 11, none⟩ (.bool h.t.en)).setCell ⟨(w.heap.size + 1), 12, none⟩ (.slice a6 h.ws.length c6))) w.heap.size a6 c6 h.ws := by
      iterate 13 (refine El.Own.setCell ?_ (fun x hx => by have := (own_win (by decide) oW v2.win x hx); exact this) _)
      exact oW.mono (by omega)
    have rB : Below w.heap.size w ((((((((((((((w3.setCell ⟨(w.heap.size + 1), 0, none⟩ (.int .i64 h.g.ba)).setCell ⟨(w.heap.size + 1), 1, none⟩ (.string h.g.bs)).setCell ⟨(w.heap.size + 1), 2, none⟩ (.int .i64 h.g.cp)).setCell ⟨(w.heap.size + 1), 3, none⟩ (.int .i64 h.g.lm)).setCell ⟨(w.heap.size + 1), 4, none⟩ (.bool h.g.en)).setCell ⟨(w.heap.size + 1), 5, none⟩ (.bool h.g.dn)).setCell ⟨(w.heap.size + 1), 6, none⟩ (.int .i64 h.t.nx)).setCell ⟨(w.heap.size + 1), 7, none⟩ (.string h.t.bs)).setCell ⟨(w.heap.size + 1), 8, none⟩ (.slice a5 h.t.l.length c5)).setCell ⟨(w.heap.size + 1), 9, none⟩ (.int .i64 h.t.cp)).setCell ⟨(w.heap.size + 1), 10, none⟩ (.int .i64 h.t.fi)).setCell ⟨(w.heap.size + 1), 11, none⟩ (.bool h.t.en)).setCell ⟨(w.heap.size + 1), 12, none⟩ (.slice a6 h.ws.length c6))) := (Below.setCell (Below.setCell (Below.setCell (Below.setCell (Below.setCell (Below.setCell (Below.setCell (Below.setCell (Below.setCell (Below.setCell (Below.setCell (Below.setCell (Below.setCell B4 (p := ⟨(w.heap.size + 1), 0, none⟩) (by dsimp only; omega) _) (p := ⟨(w.heap.size + 1), 1, none⟩) (by dsimp only; omega) _) (p := ⟨(w.heap.size + 1), 2, none⟩) (by dsimp only; omega) _) (p := ⟨(w.heap.size + 1), 3, none⟩) (by dsimp only; omega) _) (p := ⟨(w.heap.size + 1), 4, none⟩) (by dsimp only; omega) _) (p := ⟨(w.heap.size + 1), 5, none⟩) (by dsimp only; omega) _) (p := ⟨(w.heap.size + 1), 6, none⟩) (by dsimp only; omega) _) (p := ⟨(w.heap.size + 1), 7, none⟩) (by dsimp only; omega) _) (p := ⟨(w.heap.size + 1), 8, none⟩) (by dsimp only; omega) _) (p := ⟨(w.heap.size + 1), 9, none⟩) (by dsimp only; omega) _) (p := ⟨(w.heap.size + 1), 10, none⟩) (by dsimp only; omega) _) (p := ⟨(w.heap.size + 1), 11, none⟩) (by dsimp only; omega) _) (p := ⟨(w.heap.size + 1), 12, none⟩) (by dsimp only; omega) _)
    generalize (((((((((((((w3.setCell ⟨(w.heap.size + 1), 0, none⟩ (.int .i64 h.g.ba)).setCell ⟨(w.heap.size + 1), 1, none⟩ (.string h.g.bs)).setCell ⟨(w.heap.size + 1), 2, none⟩ (.int .i64 h.g.cp)).setCell ⟨(w.heap.size + 1), 3, none⟩ (.int .i64 h.g.lm)).setCell ⟨(w.heap.size + 1), 4, none⟩ (.bool h.g.en)).setCell ⟨(w.heap.size + 1), 5, none⟩ (.bool h.g.dn)).setCell ⟨(w.heap.size + 1), 6, none⟩ (.int .i64 h.t.nx)).setCell ⟨(w.heap.size + 1), 7, none⟩ (.string h.t.bs)).setCell ⟨(w.heap.size + 1), 8, none⟩ (.slice a5 h.t.l.length c5)).setCell ⟨(w.heap.size + 1), 9, none⟩ (.int .i64 h.t.cp)).setCell ⟨(w.heap.size + 1), 10, none⟩ (.int .i64 h.t.fi)).setCell ⟨(w.heap.size + 1), 11, none⟩ (.bool h.t.en)).setCell ⟨(w.heap.size + 1), 12, none⟩ (.slice a6 h.ws.length c6)) = W4 at *
    have s0 := r2.cell (i := 0) rfl
    have s1 := r2.cell (i := 1) rfl
    have s2 := r2.cell (i := 2) rfl
    have s3 := r2.cell (i := 3) rfl
    have s4 := r2.cell (i := 4) rfl
    have s5 := r2.cell (i := 5) rfl
    have s6 := r2.cell (i := 6) rfl
    have s7 := r2.cell (i := 7) rfl
    have s8 := r2.cell (i := 8) rfl
    have s9 := r2.cell (i := 9) rfl
    have s10 := r2.cell (i := 10) rfl
    have s11 := r2.cell (i := 11) rfl
    have s12 := r2.cell (i := 12) rfl
    refine bodyPost_ret (v := .tuple #[.agg #[.int .i64 h.g.ba, .string h.g.bs, .int .i64 h.g.cp, .int .i64 h.g.lm, .bool h.g.en, .bool h.g.dn, .int .i64 h.t.nx, .string h.t.bs, .slice a5 h.t.l.length c5, .int .i64 h.t.cp, .int .i64 h.t.fi, .bool h.t.en, .slice a6 h.ws.length c6], .bool false]) (by rw [Tak.res_cell_tmp rfl]; clear r2 rT rW rB v2 oT oW f0 y0 f1 y1 f2 y2 f3 y3 f4 y4 f5 y5 f6 y6 f7 y7 f8 y8 f9 y9 f10 y10 f11 y11 f12 y12; go_simp; done) rfl ⟨a5, c5, a6, c6, rfl, rT, rW, rB⟩
  case true =>
    obtain ⟨y, b⟩ := R
    have hrm := send_room (h := h) (x := ⟨false, road, xa, xb, xe, 0, false⟩) (send_let HOE.out road)
    have hR : (y, b) = (postH h ⟨false, road, xa, xb, xe, 0, false⟩, postB h ⟨false, road, xa, xb, xe, 0, false⟩) := HRS.out
    rw [← hrm.1, ← hrm.2] at hR
    simp only [Prod.mk.injEq] at hR
    obtain ⟨hy, hbb⟩ := hR
    have hyt : y.t = h.t := by rw [hy]; unfold roomH; split <;> rfl
    have HYT : Hid (y.t = h.t) := hyt
    have HPO : Hid (∀ (B : Nat) (a5 : Option Addr) (c5 : Nat) (a6 : Option Addr) (c6 : Nat) (w' : World), letE.Own 45 w' B a6 c6 h.ws → B ≤ w'.heap.size → Calls Try.prog 28 #[.agg #[.int .i64 h.g.ba, .string h.g.bs, .int .i64 h.g.cp, .int .i64 h.g.lm, .bool h.g.en, .bool h.g.dn, .int .i64 h.t.nx, .string h.t.bs, .slice a5 h.t.l.length c5, .int .i64 h.t.cp, .int .i64 h.t.fi, .bool h.t.en, .slice a6 h.ws.length c6], .agg #[.bool false, .int .i64 road, .int .i64 xa, .string xb, .bool xe, .int .i64 0, .bool false]] w' fun e w'' => ∃ aW' cW', e = .returned (.tuple #[.agg #[.int .i64 y.g.ba, .string y.g.bs, .int .i64 y.g.cp, .int .i64 y.g.lm, .bool y.g.en, .bool y.g.dn, .int .i64 y.t.nx, .string y.t.bs, .slice a5 y.t.l.length c5, .int .i64 y.t.cp, .int .i64 y.t.fi, .bool y.t.en, .slice aW' y.ws.length cW'], .bool b]) ∧ letE.Own 45 w'' B aW' cW' y.ws ∧ Keep w'.heap.size (blk a6) w' w'') := by
      intro B a5 c5 a6 c6 w' o' b'
      have q := posted B h a5 c5 a6 c6 ⟨false, road, xa, xb, xe, 0, false⟩ w' o' b' hs.wl
      rw [← hy, ← hbb] at q
      exact q
    clear HRS hrm hy hbb hyt HOE
    have e0 := v1.cell (i := 0) rfl
    have e1 := v1.cell (i := 1) rfl
    have e2 := v1.cell (i := 2) rfl
    have e3 := v1.cell (i := 3) rfl
    have e4 := v1.cell (i := 4) rfl
    have e5 := v1.cell (i := 5) rfl
    have e6 := v1.cell (i := 6) rfl
    have e7 := v1.cell (i := 7) rfl
    have e8 := v1.cell (i := 8) rfl
    have e9 := v1.cell (i := 9) rfl
    have e10 := v1.cell (i := 10) rfl
    have e11 := v1.cell (i := 11) rfl
    have e12 := v1.cell (i := 12) rfl
    have d0 := v10.cell (i := 0) rfl
    have d1 := v10.cell (i := 1) rfl
    go_wp2_with fail
    refine Draw.wp_region_Y (S := (fun w' => w'.cell? ⟨w.heap.size, 0, none⟩ = some (.int .i64 h.g.ba) ∧ w'.cell? ⟨w.heap.size, 1, none⟩ = some (.string h.g.bs) ∧ w'.cell? ⟨w.heap.size, 2, none⟩ = some (.int .i64 h.g.cp) ∧ w'.cell? ⟨w.heap.size, 3, none⟩ = some (.int .i64 h.g.lm) ∧ w'.cell? ⟨w.heap.size, 4, none⟩ = some (.bool h.g.en) ∧ w'.cell? ⟨w.heap.size, 5, none⟩ = some (.bool h.g.dn) ∧ w'.cell? ⟨w.heap.size, 6, none⟩ = some (.int .i64 h.t.nx) ∧ w'.cell? ⟨w.heap.size, 7, none⟩ = some (.string h.t.bs) ∧ w'.cell? ⟨w.heap.size, 8, none⟩ = some (.slice aT h.t.l.length cT) ∧ w'.cell? ⟨w.heap.size, 9, none⟩ = some (.int .i64 h.t.cp) ∧ w'.cell? ⟨w.heap.size, 10, none⟩ = some (.int .i64 h.t.fi) ∧ w'.cell? ⟨w.heap.size, 11, none⟩ = some (.bool h.t.en) ∧ w'.cell? ⟨w.heap.size, 12, none⟩ = some (.slice aW h.ws.length cW) ∧ w'.cell? ⟨k10, 0, none⟩ = some (.int .i64 xa) ∧ w'.cell? ⟨k10, 1, none⟩ = some (.string xb))) 10 (by kernel_rfl) ?_ (fun hHeld => ?_)
    focus ((try dsimp only) <;> (first | with_reducible exact hHeld | with_reducible exact hS2 | exact ⟨e0, e1, e2, e3, e4, e5, e6, e7, e8, e9, e10, e11, e12, d0, d1⟩))
    refine Draw.wpAnyY_takeP (ps := [8, 7, 1]) (i := 0) (v := ?_) rfl (by kernel_rfl) (by kernel_rfl) (by kernel_rfl) (by kernel_rfl) (by kernel_rfl) (fun _ _ _ h => h) (Or.inl ⟨by rfl, ?_⟩) (by assumption) ?_
    rotate_left 1
    focus (intro wS hSw; (try dsimp only at hSw); go_simp; first | done | (constructor <;> with_reducible rfl) | with_reducible rfl)
    (try simp only [Act.put, List.getElem_toArray, List.getElem_cons_zero, List.getElem_cons_succ, List.setIfInBounds_toArray, List.set_cons_zero, List.set_cons_succ])
    refine Draw.wpAnyY_takeP (ps := [8, 7, 6, 4]) (i := 2) (v := ?_) rfl (by kernel_rfl) (by kernel_rfl) (by kernel_rfl) (by kernel_rfl) (by kernel_rfl) (fun _ _ _ h => h) (Or.inl ⟨by rfl, ?_⟩) (by assumption) ?_
    rotate_left 1
    focus (intro wS hSw; (try dsimp only at hSw); go_simp; first | done | (constructor <;> with_reducible rfl) | with_reducible rfl)
    (try simp only [Act.put, List.getElem_toArray, List.getElem_cons_zero, List.getElem_cons_succ, List.setIfInBounds_toArray, List.set_cons_zero, List.set_cons_succ])
    refine Draw.wpAnyY_takeT (i := 3) (v := ?_) rfl (by kernel_rfl) (by kernel_rfl) (by kernel_rfl) (fun _ _ _ h => h) (Or.inl ⟨by rfl, ?_⟩) ?_
    rotate_left 1
    focus (intro wS hSw; (try dsimp only at hSw); go_simp; first | done | (constructor <;> with_reducible rfl) | with_reducible rfl)
    (try simp only [Act.put, List.getElem_toArray, List.getElem_cons_zero, List.getElem_cons_succ, List.setIfInBounds_toArray, List.set_cons_zero, List.set_cons_succ])
    refine Draw.wpAnyY_takeT (i := 5) (v := ?_) rfl (by kernel_rfl) (by kernel_rfl) (by kernel_rfl) (fun _ _ _ h => h) (Or.inl ⟨by rfl, ?_⟩) ?_
    rotate_left 1
    focus (intro wS hSw; (try dsimp only at hSw); go_simp; first | done | (constructor <;> with_reducible rfl) | with_reducible rfl)
    (try simp only [Act.put, List.getElem_toArray, List.getElem_cons_zero, List.getElem_cons_succ, List.setIfInBounds_toArray, List.set_cons_zero, List.set_cons_succ])
    refine Draw.wpAnyY_takeT (i := 4) (v := ?_) rfl (by kernel_rfl) (by kernel_rfl) (by kernel_rfl) (fun _ _ _ h => h) (Or.inl ⟨by rfl, ?_⟩) ?_
    rotate_left 1
    focus (intro wS hSw; (try dsimp only at hSw); go_simp; first | done | (constructor <;> with_reducible rfl) | with_reducible rfl)
    (try simp only [Act.put, List.getElem_toArray, List.getElem_cons_zero, List.getElem_cons_succ, List.setIfInBounds_toArray, List.set_cons_zero, List.set_cons_succ])
    refine Draw.wpAnyY_ready (rs := [1]) (by kernel_rfl) (by simp) ?_
    refine Draw.AllReadyY.cons rfl (fun K hK => ?_) Draw.AllReadyY.nil
    (go_simp; refine (HCP.out _ lT3.drew lW3.drew).mono ?_; rintro e w3 ⟨a5, c5, a6, c6, rfl, oT, oW, b3⟩; replace oT := oT.mono (B := W2.heap.size) (Nat.le_refl _); replace oW := oW.mono (B := W2.heap.size) (Nat.le_refl _); have v1b := v1.drew.later b3; have v10b := v10.drew.later b3; have v2b := v2.drew.later b3; have B4 := B3.drew.trans (b3.mono B3.size); have z3 : W2.heap.size ≤ w3.heap.size := b3.size; have s0 := v1b.cell (i := 0) rfl; have s1 := v1b.cell (i := 1) rfl; have s2 := v1b.cell (i := 2) rfl; have s3 := v1b.cell (i := 3) rfl; have s4 := v1b.cell (i := 4) rfl; have s5 := v1b.cell (i := 5) rfl; have s6 := v1b.cell (i := 6) rfl; have s7 := v1b.cell (i := 7) rfl; have s8 := v1b.cell (i := 8) rfl; have s9 := v1b.cell (i := 9) rfl; have s10 := v1b.cell (i := 10) rfl; have s11 := v1b.cell (i := 11) rfl; have s12 := v1b.cell (i := 12) rfl; have t0 := v10b.cell (i := 0) rfl; have t1 := v10b.cell (i := 1) rfl; have hS2 := And.intro s0 (And.intro s1 (And.intro s2 (And.intro s3 (And.intro s4 (And.intro s5 (And.intro s6 (And.intro s7 (And.intro s8 (And.intro s9 (And.intro s10 (And.intro s11 (And.intro s12 (And.intro t0 t1))))))))))))))
    refine hK.out _ _ ?_ (fun hHeld2 => ?_)
    focus (intro _ _; (try dsimp only) <;> (first | with_reducible exact hHeld | with_reducible exact hS2 | exact ⟨e0, e1, e2, e3, e4, e5, e6, e7, e8, e9, e10, e11, e12, d0, d1⟩))
    clear hK K
    replace hHeld := hHeld2 (by decide) hHeld
    clear hHeld2
    (try simp only [Act.put, List.getElem_toArray, List.getElem_cons_zero, List.getElem_cons_succ, List.setIfInBounds_toArray, List.set_cons_zero, List.set_cons_succ])
    refine Draw.wpAnyY_ready (rs := [6]) (by kernel_rfl) (by simp) ?_
    refine Draw.AllReadyY.cons rfl (fun K hK => ?_) Draw.AllReadyY.nil
    (go_simp; refine (onForth xa xb xe road _).mono ?_; rintro e w4 ⟨rfl, b4⟩; have v1c := v1b.later b4; have v10c := v10b.later b4; have v2c := v2b.later b4; have oT4 := oT.later b4; have oW4 := oW.later b4; have B5 := B4.trans (b4.mono B4.size); have z4 : W2.heap.size ≤ w4.heap.size := Nat.le_trans z3 b4.size; clear hS2 s0 s1 s2 s3 s4 s5 s6 s7 s8 s9 s10 s11 s12 t0 t1; have s0 := v1c.cell (i := 0) rfl; have s1 := v1c.cell (i := 1) rfl; have s2 := v1c.cell (i := 2) rfl; have s3 := v1c.cell (i := 3) rfl; have s4 := v1c.cell (i := 4) rfl; have s5 := v1c.cell (i := 5) rfl; have s6 := v1c.cell (i := 6) rfl; have s7 := v1c.cell (i := 7) rfl; have s8 := v1c.cell (i := 8) rfl; have s9 := v1c.cell (i := 9) rfl; have s10 := v1c.cell (i := 10) rfl; have s11 := v1c.cell (i := 11) rfl; have s12 := v1c.cell (i := 12) rfl; have t0 := v10c.cell (i := 0) rfl; have t1 := v10c.cell (i := 1) rfl; have hS2 := And.intro s0 (And.intro s1 (And.intro s2 (And.intro s3 (And.intro s4 (And.intro s5 (And.intro s6 (And.intro s7 (And.intro s8 (And.intro s9 (And.intro s10 (And.intro s11 (And.intro s12 (And.intro t0 t1))))))))))))))
    refine hK.out _ _ ?_ (fun hHeld2 => ?_)
    focus (intro _ _; (try dsimp only) <;> (first | with_reducible exact hHeld | with_reducible exact hS2 | exact ⟨e0, e1, e2, e3, e4, e5, e6, e7, e8, e9, e10, e11, e12, d0, d1⟩))
    clear hK K
    replace hHeld := hHeld2 (by decide) hHeld
    clear hHeld2
    (try simp only [Act.put, List.getElem_toArray, List.getElem_cons_zero, List.getElem_cons_succ, List.setIfInBounds_toArray, List.set_cons_zero, List.set_cons_succ])
    refine Draw.wpAnyY_ready (rs := [7]) (by kernel_rfl) (by simp) ?_
    refine Draw.AllReadyY.cons rfl (fun K hK => ?_) Draw.AllReadyY.nil
    (go_simp; refine (HPO.out W2.heap.size a5 c5 a6 c6 _ oW4 z4).mono ?_; rintro e w5 ⟨a8, c8, rfl, oW5, k5⟩; have hA6 : ∀ i, i < W2.heap.size → some i ≠ blk a6 := (fun i hi e => by have := blk_ge oW4 i e.symm; omega); have v1d := v1c.same (k5.block _ v1c.lt (by have := v1c.lt; omega) (hA6 _ (by omega))); have v2d := v2c.same (k5.block _ v2c.lt (by have := v2c.lt; omega) (hA6 _ (by omega))); have v10d := v10c.same (k5.block _ v10c.lt (by have := v10c.lt; omega) (hA6 _ v10.lt)); have oT5 := oT4.keep k5 (fun x hx => by have := (oT4.lt x hx).2; omega) (own_two (by decide) oT4 oW4); have B6 := B5.trans (k5.below (by have := B5.size; omega) (fun i hi => by have := blk_ge oW4 i hi; omega) B5.size); clear hS2 s0 s1 s2 s3 s4 s5 s6 s7 s8 s9 s10 s11 s12 t0 t1; have s0 := v1d.cell (i := 0) rfl; have s1 := v1d.cell (i := 1) rfl; have s2 := v1d.cell (i := 2) rfl; have s3 := v1d.cell (i := 3) rfl; have s4 := v1d.cell (i := 4) rfl; have s5 := v1d.cell (i := 5) rfl; have s6 := v1d.cell (i := 6) rfl; have s7 := v1d.cell (i := 7) rfl; have s8 := v1d.cell (i := 8) rfl; have s9 := v1d.cell (i := 9) rfl; have s10 := v1d.cell (i := 10) rfl; have s11 := v1d.cell (i := 11) rfl; have s12 := v1d.cell (i := 12) rfl; have t0 := v10d.cell (i := 0) rfl; have t1 := v10d.cell (i := 1) rfl; have hS2 := And.intro s0 (And.intro s1 (And.intro s2 (And.intro s3 (And.intro s4 (And.intro s5 (And.intro s6 (And.intro s7 (And.intro s8 (And.intro s9 (And.intro s10 (And.intro s11 (And.intro s12 (And.intro t0 t1))))))))))))); have f0 := v2d.cell (i := 0) rfl; have y0 := v2d.free 0; have f1 := v2d.cell (i := 1) rfl; have y1 := v2d.free 1; have f2 := v2d.cell (i := 2) rfl; have y2 := v2d.free 2; have f3 := v2d.cell (i := 3) rfl; have y3 := v2d.free 3; have f4 := v2d.cell (i := 4) rfl; have y4 := v2d.free 4; have f5 := v2d.cell (i := 5) rfl; have y5 := v2d.free 5; have f6 := v2d.cell (i := 6) rfl; have y6 := v2d.free 6; have f7 := v2d.cell (i := 7) rfl; have y7 := v2d.free 7; have f8 := v2d.cell (i := 8) rfl; have y8 := v2d.free 8; have f9 := v2d.cell (i := 9) rfl; have y9 := v2d.free 9; have f10 := v2d.cell (i := 10) rfl; have y10 := v2d.free 10; have f11 := v2d.cell (i := 11) rfl; have y11 := v2d.free 11; have f12 := v2d.cell (i := 12) rfl; have y12 := v2d.free 12)
    refine hK.out _ _ ?_ (fun hHeld2 => ?_)
    focus (intro _ _; (try dsimp only) <;> (first | with_reducible exact hHeld | with_reducible exact hS2 | exact ⟨e0, e1, e2, e3, e4, e5, e6, e7, e8, e9, e10, e11, e12, d0, d1⟩))
    clear hK K
    replace hHeld := hHeld2 (by decide) hHeld
    clear hHeld2
    (try simp only [Act.put, List.getElem_toArray, List.getElem_cons_zero, List.getElem_cons_succ, List.setIfInBounds_toArray, List.set_cons_zero, List.set_cons_succ])
    refine Draw.wpAnyY_takeT (i := 8) (v := ?_) rfl (by kernel_rfl) (by kernel_rfl) (by kernel_rfl) (fun _ _ _ h => h) (Or.inl ⟨by rfl, ?_⟩) ?_
    rotate_left 1
    focus (intro wS hSw; (try dsimp only at hSw); go_simp; first | done | (constructor <;> with_reducible rfl) | with_reducible rfl)
    (try simp only [Act.put, List.getElem_toArray, List.getElem_cons_zero, List.getElem_cons_succ, List.setIfInBounds_toArray, List.set_cons_zero, List.set_cons_succ])
    refine Draw.wpAnyY_takeT (i := 9) (v := ?_) rfl (by kernel_rfl) (by kernel_rfl) (by kernel_rfl) (fun _ _ _ h => h) (Or.inl ⟨by rfl, ?_⟩) ?_
    rotate_left 1
    focus (intro wS hSw; (try dsimp only at hSw); go_simp; first | done | (constructor <;> with_reducible rfl) | with_reducible rfl)
    (try simp only [Act.put, List.getElem_toArray, List.getElem_cons_zero, List.getElem_cons_succ, List.setIfInBounds_toArray, List.set_cons_zero, List.set_cons_succ])
    refine Draw.wpAnyY_ready (rs := [10]) (by kernel_rfl) (by simp) ?_
    refine Draw.AllReadyY.cons rfl (fun K hK => ?_) Draw.AllReadyY.nil
    go_simp
    refine hK.out _ _ (fun h => absurd rfl h) (fun hHeld2 => ?_)
    clear hK K hHeld hHeld2
    (try simp only [Act.put, List.getElem_toArray, List.getElem_cons_zero, List.getElem_cons_succ, List.setIfInBounds_toArray, List.set_cons_zero, List.set_cons_succ])
    refine Draw.wpAnyY_takeT (i := 11) (v := ?_) rfl (by kernel_rfl) (by kernel_rfl) (by kernel_rfl) (fun _ _ _ h => h) (Or.inl ⟨by rfl, ?_⟩) ?_
    rotate_left 1
    focus (intro wS hSw; (try dsimp only at hSw); go_simp; first | done | (constructor <;> with_reducible rfl) | with_reducible rfl)
    (try simp only [Act.put, List.getElem_toArray, List.getElem_cons_zero, List.getElem_cons_succ, List.setIfInBounds_toArray, List.set_cons_zero, List.set_cons_succ])
    refine Draw.wpAnyY_done (by kernel_rfl) ?_ _
    clear f0 y0 s0 e0 f1 y1 s1 e1 f2 y2 s2 e2 f3 y3 s3 e3 f4 y4 s4 e4 f5 y5 s5 e5 f6 y6 s6 e6 f7 y7 s7 e7 f8 y8 s8 e8 f9 y9 s9 e9 f10 y10 s10 e10 f11 y11 s11 e11 f12 y12 s12 e12 t0 t1 d0 d1 v1 v2 v10 v1b v1c v1d v2b v2c v10b v10c v10d oT oT4 oW oW4 k5
    have r2 : Var 31 ((((((((((((((w5.setCell ⟨(w.heap.size + 1), 0, none⟩ (.int .i64 y.g.ba)).setCell ⟨(w.heap.size + 1), 1, none⟩ (.string y.g.bs)).setCell ⟨(w.heap.size + 1), 2, none⟩ (.int .i64 y.g.cp)).setCell ⟨(w.heap.size + 1), 3, none⟩ (.int .i64 y.g.lm)).setCell ⟨(w.heap.size + 1), 4, none⟩ (.bool y.g.en)).setCell ⟨(w.heap.size + 1), 5, none⟩ (.bool y.g.dn)).setCell ⟨(w.heap.size + 1), 6, none⟩ (.int .i64 y.t.nx)).setCell ⟨(w.heap.size + 1), 7, none⟩ (.string y.t.bs)).setCell ⟨(w.heap.size + 1), 8, none⟩ (.slice a5 y.t.l.length c5)).setCell ⟨(w.heap.size + 1), 9, none⟩ (.int .i64 y.t.cp)).setCell ⟨(w.heap.size + 1), 10, none⟩ (.int .i64 y.t.fi)).setCell ⟨(w.heap.size + 1), 11, none⟩ (.bool y.t.en)).setCell ⟨(w.heap.size + 1), 12, none⟩ (.slice a8 y.ws.length c8))) (w.heap.size + 1) [.int .i64 y.g.ba, .string y.g.bs, .int .i64 y.g.cp, .int .i64 y.g.lm, .bool y.g.en, .bool y.g.dn, .int .i64 y.t.nx, .string y.t.bs, .slice a5 y.t.l.length c5, .int .i64 y.t.cp, .int .i64 y.t.fi, .bool y.t.en, .slice a8 y.ws.length c8] := (((((((((((((v2d.set 0 _).set 1 _).set 2 _).set 3 _).set 4 _).set 5 _).set 6 _).set 7 _).set 8 _).set 9 _).set 10 _).set 11 _).set 12 _)
    have rT : Tak.partE.Own 55 ((((((((((((((w5.setCell ⟨(w.heap.size + 1), 0, none⟩ (.int .i64 y.g.ba)).setCell ⟨(w.heap.size + 1), 1, none⟩ (.string y.g.bs)).setCell ⟨(w.heap.size + 1), 2, none⟩ (.int .i64 y.g.cp)).setCell ⟨(w.heap.size + 1), 3, none⟩ (.int .i64 y.g.lm)).setCell ⟨(w.heap.size + 1), 4, none⟩ (.bool y.g.en)).setCell ⟨(w.heap.size + 1), 5, none⟩ (.bool y.g.dn)).setCell ⟨(w.heap.size + 1), 6, none⟩ (.int .i64 y.t.nx)).setCell ⟨(w.heap.size + 1), 7, none⟩ (.string y.t.bs)).setCell ⟨(w.heap.size + 1), 8, none⟩ (.slice a5 y.t.l.length c5)).setCell ⟨(w.heap.size + 1), 9, none⟩ (.int .i64 y.t.cp)).setCell ⟨(w.heap.size + 1), 10, none⟩ (.int .i64 y.t.fi)).setCell ⟨(w.heap.size + 1), 11, none⟩ (.bool y.t.en)).setCell ⟨(w.heap.size + 1), 12, none⟩ (.slice a8 y.ws.length c8))) w.heap.size a5 c5 h.t.l := by
      iterate 13 (refine El.Own.setCell ?_ (fun x hx => by have := (own_win (by decide) oT5 v2d.win x hx); exact this) _)
      exact oT5.mono (by omega)
    have rW : letE.Own 45 ((((((((((((((w5.setCell ⟨(w.heap.size + 1), 0, none⟩ (.int .i64 y.g.ba)).setCell ⟨(w.heap.size + 1), 1, none⟩ (.string y.g.bs)).setCell ⟨(w.heap.size + 1), 2, none⟩ (.int .i64 y.g.cp)).setCell ⟨(w.heap.size + 1), 3, none⟩ (.int .i64 y.g.lm)).setCell ⟨(w.heap.size + 1), 4, none⟩ (.bool y.g.en)).setCell ⟨(w.heap.size + 1), 5, none⟩ (.bool y.g.dn)).setCell ⟨(w.heap.size + 1), 6, none⟩ (.int .i64 y.t.nx)).setCell ⟨(w.heap.size + 1), 7, none⟩ (.string y.t.bs)).setCell ⟨(w.heap.size + 1), 8, none⟩ (.slice a5 y.t.l.length c5)).setCell ⟨(w.heap.size + 1), 9, none⟩ (.int .i64 y.t.cp)).setCell ⟨(w.heap.size + 1), 10, none⟩ (.int .i64 y.t.fi)).setCell ⟨(w.heap.size + 1), 11, none⟩ (.bool y.t.en)).setCell ⟨(w.heap.size + 1), 12, none⟩ (.slice a8 y.ws.length c8))) w.heap.size a8 c8 y.ws := by
      iterate 13 (refine El.Own.setCell ?_ (fun x hx => by have := (own_win (by decide) oW5 v2d.win x hx); exact this) _)
      exact oW5.mono (by omega)
    have rB : Below w.heap.size w ((((((((((((((w5.setCell ⟨(w.heap.size + 1), 0, none⟩ (.int .i64 y.g.ba)).setCell ⟨(w.heap.size + 1), 1, none⟩ (.string y.g.bs)).setCell ⟨(w.heap.size + 1), 2, none⟩ (.int .i64 y.g.cp)).setCell ⟨(w.heap.size + 1), 3, none⟩ (.int .i64 y.g.lm)).setCell ⟨(w.heap.size + 1), 4, none⟩ (.bool y.g.en)).setCell ⟨(w.heap.size + 1), 5, none⟩ (.bool y.g.dn)).setCell ⟨(w.heap.size + 1), 6, none⟩ (.int .i64 y.t.nx)).setCell ⟨(w.heap.size + 1), 7, none⟩ (.string y.t.bs)).setCell ⟨(w.heap.size + 1), 8, none⟩ (.slice a5 y.t.l.length c5)).setCell ⟨(w.heap.size + 1), 9, none⟩ (.int .i64 y.t.cp)).setCell ⟨(w.heap.size + 1), 10, none⟩ (.int .i64 y.t.fi)).setCell ⟨(w.heap.size + 1), 11, none⟩ (.bool y.t.en)).setCell ⟨(w.heap.size + 1), 12, none⟩ (.slice a8 y.ws.length c8))) := (Below.setCell (Below.setCell (Below.setCell (Below.setCell (Below.setCell (Below.setCell (Below.setCell (Below.setCell (Below.setCell (Below.setCell (Below.setCell (Below.setCell (Below.setCell B6 (p := ⟨(w.heap.size + 1), 0, none⟩) (by dsimp only; omega) _) (p := ⟨(w.heap.size + 1), 1, none⟩) (by dsimp only; omega) _) (p := ⟨(w.heap.size + 1), 2, none⟩) (by dsimp only; omega) _) (p := ⟨(w.heap.size + 1), 3, none⟩) (by dsimp only; omega) _) (p := ⟨(w.heap.size + 1), 4, none⟩) (by dsimp only; omega) _) (p := ⟨(w.heap.size + 1), 5, none⟩) (by dsimp only; omega) _) (p := ⟨(w.heap.size + 1), 6, none⟩) (by dsimp only; omega) _) (p := ⟨(w.heap.size + 1), 7, none⟩) (by dsimp only; omega) _) (p := ⟨(w.heap.size + 1), 8, none⟩) (by dsimp only; omega) _) (p := ⟨(w.heap.size + 1), 9, none⟩) (by dsimp only; omega) _) (p := ⟨(w.heap.size + 1), 10, none⟩) (by dsimp only; omega) _) (p := ⟨(w.heap.size + 1), 11, none⟩) (by dsimp only; omega) _) (p := ⟨(w.heap.size + 1), 12, none⟩) (by dsimp only; omega) _)
    generalize (((((((((((((w5.setCell ⟨(w.heap.size + 1), 0, none⟩ (.int .i64 y.g.ba)).setCell ⟨(w.heap.size + 1), 1, none⟩ (.string y.g.bs)).setCell ⟨(w.heap.size + 1), 2, none⟩ (.int .i64 y.g.cp)).setCell ⟨(w.heap.size + 1), 3, none⟩ (.int .i64 y.g.lm)).setCell ⟨(w.heap.size + 1), 4, none⟩ (.bool y.g.en)).setCell ⟨(w.heap.size + 1), 5, none⟩ (.bool y.g.dn)).setCell ⟨(w.heap.size + 1), 6, none⟩ (.int .i64 y.t.nx)).setCell ⟨(w.heap.size + 1), 7, none⟩ (.string y.t.bs)).setCell ⟨(w.heap.size + 1), 8, none⟩ (.slice a5 y.t.l.length c5)).setCell ⟨(w.heap.size + 1), 9, none⟩ (.int .i64 y.t.cp)).setCell ⟨(w.heap.size + 1), 10, none⟩ (.int .i64 y.t.fi)).setCell ⟨(w.heap.size + 1), 11, none⟩ (.bool y.t.en)).setCell ⟨(w.heap.size + 1), 12, none⟩ (.slice a8 y.ws.length c8)) = W4 at *
    rw [← HYT.out] at rT
    have s0 := r2.cell (i := 0) rfl
    have s1 := r2.cell (i := 1) rfl
    have s2 := r2.cell (i := 2) rfl
    have s3 := r2.cell (i := 3) rfl
    have s4 := r2.cell (i := 4) rfl
    have s5 := r2.cell (i := 5) rfl
    have s6 := r2.cell (i := 6) rfl
    have s7 := r2.cell (i := 7) rfl
    have s8 := r2.cell (i := 8) rfl
    have s9 := r2.cell (i := 9) rfl
    have s10 := r2.cell (i := 10) rfl
    have s11 := r2.cell (i := 11) rfl
    have s12 := r2.cell (i := 12) rfl
    go_wp2_with fail
    refine bodyPost_ret (v := .tuple #[.agg #[.int .i64 y.g.ba, .string y.g.bs, .int .i64 y.g.cp, .int .i64 y.g.lm, .bool y.g.en, .bool y.g.dn, .int .i64 y.t.nx, .string y.t.bs, .slice a5 y.t.l.length c5, .int .i64 y.t.cp, .int .i64 y.t.fi, .bool y.t.en, .slice a8 y.ws.length c8], .bool b]) (by rw [Tak.res_cell_tmp rfl]; clear r2 rT rW rB v2d oT5 oW5; go_simp; done) rfl ⟨a5, c5, a8, c8, rfl, rT, rW, rB⟩

end Go.Proofs.Ytonhjlhpppfcpaa.Hop
