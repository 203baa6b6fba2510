/- The specification's Arrives, Loses, Doubles; of hops that are not too great. -/
import Derived.Test.YtjnkjeajkmgcmaaGreatHopJ
namespace Go.Proofs.YtjnkjeajkmgcmaaGreat.Hop
open Go.RowKit RowG
set_option linter.unusedVariables false
set_option linter.unusedSimpArgs false

def lose2 (h : Hp) (n : Int) : Hp × Bool := ((outH h n).1, (outH h n).2.2)
def dbl2 (h : Hp) (n : Int) : Hp × Bool := if 0 ≤ n then (match h.ws[n.toNat]? with
  | some x => (postH h x, postB h x)
  | none => (h, false)) else (h, false)
theorem dbl_none {h : Hp} {n : Int} (hn : n < 0 ∨ (h.ws.length : Int) ≤ n) : dbl2 h n = (h, false) := by
  unfold dbl2
  split
  · rw [List.getElem?_eq_none (by omega)]
  · rfl
theorem dbl_some {h : Hp} {k : Nat} {x : Lt} (hx : h.ws[k]? = some x) : dbl2 h k = (postH h x, postB h x) := by
  unfold dbl2
  rw [if_pos (by omega), Int.toNat_natCast, hx]
theorem outLay {T : TypeId} {pre post : List Value} {ow : Nat} (hT : T ≠ 39) (hT2 : T ≠ 69) (k B : Nat) (h : Hp) (n : Int) (w : World) (hl : Lay T pre post ow w B k h) (hB : B ≤ w.heap.size) (hn : h.ws.length ≤ 524288) :
    Calls Tryz.prog 30 #[.pointer (some ⟨k, ow, none⟩), .int .i64 n] w fun e w' => ∃ x : Lt, e = .returned (.tuple #[x.v, .bool (lose2 h n).2]) ∧ Lay T pre post ow w' B k (lose2 h n).1 ∧ KB B k w w' := by
  obtain ⟨aT, cT, aW, cW, v, o1, o2⟩ := hl
  refine (l7Out hT k B h aT cT aW cW n w v o2 hB hn).mono ?_
  rintro e w' ⟨a', c', rfl, v', o', k'⟩
  refine ⟨_, rfl, ⟨aT, cT, a', c', v', ?_, o'⟩, KB.ofKept k' hB⟩
  have : (lose2 h n).1.t = h.t := by
    unfold lose2 outH
    split
    · split <;> rfl
    · rfl
  rw [this]
  exact o1.kept k' (own_win hT2 o1 v)
theorem postLay {T : TypeId} {pre post : List Value} {ow : Nat} (hT : T ≠ 39) (hT2 : T ≠ 69) (k B : Nat) (h : Hp) (x : Lt) (w : World) (hl : Lay T pre post ow w B k h) (hB : B ≤ w.heap.size) (hn : h.ws.length ≤ 524288) (hx : x.bs.size ≤ 2097152) :
    Calls Tryz.prog 31 #[.pointer (some ⟨k, ow, none⟩), x.v] w fun e w' => e = .returned (.bool (postB h x)) ∧ Lay T pre post ow w' B k (postH h x) ∧ KB B k w w' := by
  obtain ⟨aT, cT, aW, cW, v, o1, o2⟩ := hl
  refine (l7Post hT k B h aT cT aW cW x w v o2 hB hn hx).mono ?_
  rintro e w' ⟨a', c', rfl, v', o', k'⟩
  refine ⟨rfl, ⟨aT, cT, a', c', v', ?_, o'⟩, KB.ofKeep k' hB (blk_ge o2)⟩
  have : (postH h x).t = h.t := by unfold postH; split <;> rfl
  rw [this]
  exact o1.keep k' (own_win hT2 o1 v) (own_two (by decide) o1 o2)

def arrivesH (h : Hp) (n : Int) : Hp × Bool := if hopB h then comeH h n else (zeroH, false)

set_option maxRecDepth 10000 in
set_option maxHeartbeats 8000000 in
theorem specArrives (h : Hp) (aT : Option Addr) (cT : Nat) (aW : Option Addr) (cW : Nat) (n : Int) (w : World) (hT : Tak.partE.Lies w aT h.t.l) (hW : letE.Lies w aW h.ws) (hnT : aT = none → cT = 0) (hnW : aW = none → cW = 0) (hs : h.Sm) :
    Calls Tryz.prog 9 #[h.v aT cT aW cW, .int .i64 n] w fun e w' => ∃ aT' cT' aW' cW', e = .returned (.tuple #[(arrivesH h n).1.v aT' cT' aW' cW', .bool (arrivesH h n).2]) ∧ Tak.partE.Own 69 w' w.heap.size aT' cT' (arrivesH h n).1.t.l ∧ letE.Own 39 w' w.heap.size aW' cW' (arrivesH h n).1.ws ∧ Below w.heap.size w w' := by
  have v1 : Var 31 ((w.alloc (.cells #[.int .i64 h.g.ba, .string h.g.bs, .int .i64 h.g.cp, .int .i64 h.g.lm, .bool h.g.en, .bool h.g.dn, .int .i64 h.t.nx, .string h.t.bs, .slice aT h.t.l.length cT, .int .i64 h.t.cp, .int .i64 h.t.fi, .bool h.t.en, .slice aW h.ws.length cW] 31)).alloc (.cells #[.int .i64 0, .string ⟨#[]⟩, .int .i64 0, .int .i64 0, .bool false, .bool false, .int .i64 0, .string ⟨#[]⟩, .slice none 0 0, .int .i64 0, .int .i64 0, .bool false, .slice none 0 0] 31)) w.heap.size [.int .i64 h.g.ba, .string h.g.bs, .int .i64 h.g.cp, .int .i64 h.g.lm, .bool h.g.en, .bool h.g.dn, .int .i64 h.t.nx, .string h.t.bs, .slice aT h.t.l.length cT, .int .i64 h.t.cp, .int .i64 h.t.fi, .bool h.t.en, .slice aW h.ws.length cW] := (Var.new w [.int .i64 h.g.ba, .string h.g.bs, .int .i64 h.g.cp, .int .i64 h.g.lm, .bool h.g.en, .bool h.g.dn, .int .i64 h.t.nx, .string h.t.bs, .slice aT h.t.l.length cT, .int .i64 h.t.cp, .int .i64 h.t.fi, .bool h.t.en, .slice aW h.ws.length cW]).alloc _
  have v2 : Var 31 ((w.alloc (.cells #[.int .i64 h.g.ba, .string h.g.bs, .int .i64 h.g.cp, .int .i64 h.g.lm, .bool h.g.en, .bool h.g.dn, .int .i64 h.t.nx, .string h.t.bs, .slice aT h.t.l.length cT, .int .i64 h.t.cp, .int .i64 h.t.fi, .bool h.t.en, .slice aW h.ws.length cW] 31)).alloc (.cells #[.int .i64 0, .string ⟨#[]⟩, .int .i64 0, .int .i64 0, .bool false, .bool false, .int .i64 0, .string ⟨#[]⟩, .slice none 0 0, .int .i64 0, .int .i64 0, .bool false, .slice none 0 0] 31)) (w.heap.size + 1) [.int .i64 0, .string ⟨#[]⟩, .int .i64 0, .int .i64 0, .bool false, .bool false, .int .i64 0, .string ⟨#[]⟩, .slice none 0 0, .int .i64 0, .int .i64 0, .bool false, .slice none 0 0] := by
    have q := Var.new (T := 31) (w.alloc (.cells #[.int .i64 h.g.ba, .string h.g.bs, .int .i64 h.g.cp, .int .i64 h.g.lm, .bool h.g.en, .bool h.g.dn, .int .i64 h.t.nx, .string h.t.bs, .slice aT h.t.l.length cT, .int .i64 h.t.cp, .int .i64 h.t.fi, .bool h.t.en, .slice aW h.ws.length cW] 31)) [.int .i64 0, .string ⟨#[]⟩, .int .i64 0, .int .i64 0, .bool false, .bool false, .int .i64 0, .string ⟨#[]⟩, .slice none 0 0, .int .i64 0, .int .i64 0, .bool false, .slice none 0 0]
    simpa using q
  have b0 : Below w.heap.size w ((w.alloc (.cells #[.int .i64 h.g.ba, .string h.g.bs, .int .i64 h.g.cp, .int .i64 h.g.lm, .bool h.g.en, .bool h.g.dn, .int .i64 h.t.nx, .string h.t.bs, .slice aT h.t.l.length cT, .int .i64 h.t.cp, .int .i64 h.t.fi, .bool h.t.en, .slice aW h.ws.length cW] 31)).alloc (.cells #[.int .i64 0, .string ⟨#[]⟩, .int .i64 0, .int .i64 0, .bool false, .bool false, .int .i64 0, .string ⟨#[]⟩, .slice none 0 0, .int .i64 0, .int .i64 0, .bool false, .slice none 0 0] 31)) := ((Below.refl _ _).alloc (Nat.le_refl _) _).alloc (by simp) _
  have lT := hT.later b0
  have lW := hW.later b0
  have HOK : Hid _ := fun w' a b => specHopOk h aT cT aW cW w' a b hs
  have HCP : Hid _ := fun w' a b => l7Copy h aT cT aW cW w' a b hnT hnW hs.tl hs.wl
  have HR : Hid (arrivesH h n = if hopB h then comeH h n else (zeroH, false)) := rfl
  generalize arrivesH h n = R at *
  go_enter Tryz.func9, Tryz.ntmps9
  go_upto_region 1 with (fail)
  generalize (w.alloc (.cells #[.int .i64 h.g.ba, .string h.g.bs, .int .i64 h.g.cp, .int .i64 h.g.lm, .bool h.g.en, .bool h.g.dn, .int .i64 h.t.nx, .string h.t.bs, .slice aT h.t.l.length cT, .int .i64 h.t.cp, .int .i64 h.t.fi, .bool h.t.en, .slice aW h.ws.length cW] 31)).alloc (.cells #[.int .i64 0, .string ⟨#[]⟩, .int .i64 0, .int .i64 0, .bool false, .bool false, .int .i64 0, .string ⟨#[]⟩, .slice none 0 0, .int .i64 0, .int .i64 0, .bool false, .slice none 0 0] 31) = V at *
  obtain ⟨e0, e1, e2, e3, e4, e5, e6, e7, e8, e9, e10, e11, e12⟩ := v1.c13
  go_wp2_with fail
  refine (HOK.out _ lT lW).mono ?_
  rintro e w1 ⟨rfl, b1⟩
  replace v1 := v1.later b1
  replace v2 := v2.later b1
  replace lW := lW.later b1
  replace lT := lT.later b1
  have B1 := b0.trans (b1.mono b0.size)
  clear HOK b1 b0 e0 e1 e2 e3 e4 e5 e6 e7 e8 e9 e10 e11 e12
  cases hb : hopB h
  case false =>
    have hR : R = (zeroH, false) := by rw [HR.out, hb]; rfl
    subst hR
    dsimp only [zeroH, Tak.zeroK, List.length_nil]
    obtain ⟨f0, f1, f2, f3, f4, f5, f6, f7, f8, f9, f10, f11, f12⟩ := v2.c13
    obtain ⟨y0, y1, y2, y3, y4, y5, y6, y7, y8, y9, y10, y11, y12⟩ := v2.f13
    go_wp2_with fail
    have r2 : Var 31 ((((((((((((((w1.setCell ⟨(w.heap.size + 1), 0, none⟩ (.int .i64 0)).setCell ⟨(w.heap.size + 1), 1, none⟩ (.string ⟨#[]⟩)).setCell ⟨(w.heap.size + 1), 2, none⟩ (.int .i64 0)).setCell ⟨(w.heap.size + 1), 3, none⟩ (.int .i64 0)).setCell ⟨(w.heap.size + 1), 4, none⟩ (.bool false)).setCell ⟨(w.heap.size + 1), 5, none⟩ (.bool false)).setCell ⟨(w.heap.size + 1), 6, none⟩ (.int .i64 0)).setCell ⟨(w.heap.size + 1), 7, none⟩ (.string ⟨#[]⟩)).setCell ⟨(w.heap.size + 1), 8, none⟩ (.slice none 0 0)).setCell ⟨(w.heap.size + 1), 9, none⟩ (.int .i64 0)).setCell ⟨(w.heap.size + 1), 10, none⟩ (.int .i64 0)).setCell ⟨(w.heap.size + 1), 11, none⟩ (.bool false)).setCell ⟨(w.heap.size + 1), 12, none⟩ (.slice none 0 0))) (w.heap.size + 1) [.int .i64 0, .string ⟨#[]⟩, .int .i64 0, .int .i64 0, .bool false, .bool false, .int .i64 0, .string ⟨#[]⟩, .slice none 0 0, .int .i64 0, .int .i64 0, .bool false, .slice none 0 0] := (((((((((((((v2.set 0 _).set 1 _).set 2 _).set 3 _).set 4 _).set 5 _).set 6 _).set 7 _).set 8 _).set 9 _).set 10 _).set 11 _).set 12 _)
    have rB : Below w.heap.size w ((((((((((((((w1.setCell ⟨(w.heap.size + 1), 0, none⟩ (.int .i64 0)).setCell ⟨(w.heap.size + 1), 1, none⟩ (.string ⟨#[]⟩)).setCell ⟨(w.heap.size + 1), 2, none⟩ (.int .i64 0)).setCell ⟨(w.heap.size + 1), 3, none⟩ (.int .i64 0)).setCell ⟨(w.heap.size + 1), 4, none⟩ (.bool false)).setCell ⟨(w.heap.size + 1), 5, none⟩ (.bool false)).setCell ⟨(w.heap.size + 1), 6, none⟩ (.int .i64 0)).setCell ⟨(w.heap.size + 1), 7, none⟩ (.string ⟨#[]⟩)).setCell ⟨(w.heap.size + 1), 8, none⟩ (.slice none 0 0)).setCell ⟨(w.heap.size + 1), 9, none⟩ (.int .i64 0)).setCell ⟨(w.heap.size + 1), 10, none⟩ (.int .i64 0)).setCell ⟨(w.heap.size + 1), 11, none⟩ (.bool false)).setCell ⟨(w.heap.size + 1), 12, none⟩ (.slice none 0 0))) := by
      iterate 13 (refine Below.setCell ?_ (by dsimp only; omega) _)
      exact B1
    generalize (((((((((((((w1.setCell ⟨(w.heap.size + 1), 0, none⟩ (.int .i64 0)).setCell ⟨(w.heap.size + 1), 1, none⟩ (.string ⟨#[]⟩)).setCell ⟨(w.heap.size + 1), 2, none⟩ (.int .i64 0)).setCell ⟨(w.heap.size + 1), 3, none⟩ (.int .i64 0)).setCell ⟨(w.heap.size + 1), 4, none⟩ (.bool false)).setCell ⟨(w.heap.size + 1), 5, none⟩ (.bool false)).setCell ⟨(w.heap.size + 1), 6, none⟩ (.int .i64 0)).setCell ⟨(w.heap.size + 1), 7, none⟩ (.string ⟨#[]⟩)).setCell ⟨(w.heap.size + 1), 8, none⟩ (.slice none 0 0)).setCell ⟨(w.heap.size + 1), 9, none⟩ (.int .i64 0)).setCell ⟨(w.heap.size + 1), 10, none⟩ (.int .i64 0)).setCell ⟨(w.heap.size + 1), 11, none⟩ (.bool false)).setCell ⟨(w.heap.size + 1), 12, none⟩ (.slice none 0 0)) = W4 at *
    obtain ⟨s0, s1, s2, s3, s4, s5, s6, s7, s8, s9, s10, s11, s12⟩ := r2.c13
    refine bodyPost_ret (v := .tuple #[.agg #[.int .i64 0, .string ⟨#[]⟩, .int .i64 0, .int .i64 0, .bool false, .bool false, .int .i64 0, .string ⟨#[]⟩, .slice none 0 0, .int .i64 0, .int .i64 0, .bool false, .slice none 0 0], .bool false]) (by rw [Tak.res_cell_tmp rfl]; clear r2 rB v1 v2 f0 y0 f1 y1 f2 y2 f3 y3 f4 y4 f5 y5 f6 y6 f7 y7 f8 y8 f9 y9 f10 y10 f11 y11 f12 y12; go_simp; done) rfl ⟨none, 0, none, 0, rfl, El.Own.none _ _, El.Own.none _ _, rB⟩
  have hR : R = comeH h n := by rw [HR.out, hb]; rfl
  have HV2 : Hid (w.heap.size + 1 < w1.heap.size) := v2.lt
  have HHB : Hid (hopB h = true) := hb
  clear HR
  obtain ⟨e0, e1, e2, e3, e4, e5, e6, e7, e8, e9, e10, e11, e12⟩ := v1.c13
  go_wp2_with fail
  refine (HCP.out _ lT lW).mono ?_
  rintro e w2 ⟨a2, c2, a4, c4, rfl, oT, oW, b2⟩
  replace v1 := v1.later b2
  replace v2 := v2.later b2
  have B2 := B1.trans (b2.mono B1.size)
  have HZ2 : Hid (w1.heap.size ≤ w2.heap.size) := b2.size
  have hV2 : w.heap.size + 1 < w1.heap.size := HV2.out
  clear HCP lT lW b2 B1 e0 e1 e2 e3 e4 e5 e6 e7 e8 e9 e10 e11 e12
  have L0 : Lay 31 [] [] 0 (w2.alloc (.cells #[.int .i64 h.g.ba, .string h.g.bs, .int .i64 h.g.cp, .int .i64 h.g.lm, .bool h.g.en, .bool h.g.dn, .int .i64 h.t.nx, .string h.t.bs, .slice a2 h.t.l.length c2, .int .i64 h.t.cp, .int .i64 h.t.fi, .bool h.t.en, .slice a4 h.ws.length c4] 31)) w1.heap.size w2.heap.size h := ⟨a2, c2, a4, c4, (Var.new w2 [.int .i64 h.g.ba, .string h.g.bs, .int .i64 h.g.cp, .int .i64 h.g.lm, .bool h.g.en, .bool h.g.dn, .int .i64 h.t.nx, .string h.t.bs, .slice a2 h.t.l.length c2, .int .i64 h.t.cp, .int .i64 h.t.fi, .bool h.t.en, .slice a4 h.ws.length c4]).win, oT.alloc _, oW.alloc _⟩
  have B3 : Below w.heap.size w (w2.alloc (.cells #[.int .i64 h.g.ba, .string h.g.bs, .int .i64 h.g.cp, .int .i64 h.g.lm, .bool h.g.en, .bool h.g.dn, .int .i64 h.t.nx, .string h.t.bs, .slice a2 h.t.l.length c2, .int .i64 h.t.cp, .int .i64 h.t.fi, .bool h.t.en, .slice a4 h.ws.length c4] 31)) := B2.alloc B2.size _
  replace v2 := v2.alloc (.cells #[.int .i64 h.g.ba, .string h.g.bs, .int .i64 h.g.cp, .int .i64 h.g.lm, .bool h.g.en, .bool h.g.dn, .int .i64 h.t.nx, .string h.t.bs, .slice a2 h.t.l.length c2, .int .i64 h.t.cp, .int .i64 h.t.fi, .bool h.t.en, .slice a4 h.ws.length c4] 31)
  have hz2 : w1.heap.size ≤ w2.heap.size := HZ2.out
  have hz3 : w1.heap.size ≤ (w2.alloc (.cells #[.int .i64 h.g.ba, .string h.g.bs, .int .i64 h.g.cp, .int .i64 h.g.lm, .bool h.g.en, .bool h.g.dn, .int .i64 h.t.nx, .string h.t.bs, .slice a2 h.t.l.length c2, .int .i64 h.t.cp, .int .i64 h.t.fi, .bool h.t.en, .slice a4 h.ws.length c4] 31)).heap.size := by simp; omega
  clear v1 oT oW B2
  go_upto_region 4 with (fail)
  generalize w2.alloc (.cells #[.int .i64 h.g.ba, .string h.g.bs, .int .i64 h.g.cp, .int .i64 h.g.lm, .bool h.g.en, .bool h.g.dn, .int .i64 h.t.nx, .string h.t.bs, .slice a2 h.t.l.length c2, .int .i64 h.t.cp, .int .i64 h.t.fi, .bool h.t.en, .slice a4 h.ws.length c4] 31) = W2 at *
  generalize w2.heap.size = k9 at *
  go_wp2_with fail
  refine (comeLay (by decide) (by decide) k9 w1.heap.size h n _ L0 hz3 HHB.out).mono ?_
  rintro e w4 ⟨rfl, L4, k4⟩
  replace v2 := k4.var v2 hV2 (by omega)
  have B4 := B3.trans (k4.below (by omega) (by omega))
  rw [← hR] at L4 ⊢
  obtain ⟨y, b⟩ := R
  obtain ⟨a5, c5, a6, c6, v5, oT, oW⟩ := L4
  dsimp only at *
  replace v5 := v5.whole
  replace oT := oT.mono (B := w.heap.size) (by omega)
  replace oW := oW.mono (B := w.heap.size) (by omega)
  clear hR k4 B3 hb L0
  obtain ⟨e0, e1, e2, e3, e4, e5, e6, e7, e8, e9, e10, e11, e12⟩ := v5.c13
  obtain ⟨f0, f1, f2, f3, f4, f5, f6, f7, f8, f9, f10, f11, f12⟩ := v2.c13
  obtain ⟨y0, y1, y2, y3, y4, y5, y6, y7, y8, y9, y10, y11, y12⟩ := v2.f13
  go_wp2_with fail
  have r2 : Var 31 ((((((((((((((w4.setCell ⟨(w.heap.size + 1), 0, none⟩ (.int .i64 y.g.ba)).setCell ⟨(w.heap.size + 1), 1, none⟩ (.string y.g.bs)).setCell ⟨(w.heap.size + 1), 2, none⟩ (.int .i64 y.g.cp)).setCell ⟨(w.heap.size + 1), 3, none⟩ (.int .i64 y.g.lm)).setCell ⟨(w.heap.size + 1), 4, none⟩ (.bool y.g.en)).setCell ⟨(w.heap.size + 1), 5, none⟩ (.bool y.g.dn)).setCell ⟨(w.heap.size + 1), 6, none⟩ (.int .i64 y.t.nx)).setCell ⟨(w.heap.size + 1), 7, none⟩ (.string y.t.bs)).setCell ⟨(w.heap.size + 1), 8, none⟩ (.slice a5 y.t.l.length c5)).setCell ⟨(w.heap.size + 1), 9, none⟩ (.int .i64 y.t.cp)).setCell ⟨(w.heap.size + 1), 10, none⟩ (.int .i64 y.t.fi)).setCell ⟨(w.heap.size + 1), 11, none⟩ (.bool y.t.en)).setCell ⟨(w.heap.size + 1), 12, none⟩ (.slice a6 y.ws.length c6))) (w.heap.size + 1) [.int .i64 y.g.ba, .string y.g.bs, .int .i64 y.g.cp, .int .i64 y.g.lm, .bool y.g.en, .bool y.g.dn, .int .i64 y.t.nx, .string y.t.bs, .slice a5 y.t.l.length c5, .int .i64 y.t.cp, .int .i64 y.t.fi, .bool y.t.en, .slice a6 y.ws.length c6] := (((((((((((((v2.set 0 _).set 1 _).set 2 _).set 3 _).set 4 _).set 5 _).set 6 _).set 7 _).set 8 _).set 9 _).set 10 _).set 11 _).set 12 _)
  have rT : Tak.partE.Own 69 ((((((((((((((w4.setCell ⟨(w.heap.size + 1), 0, none⟩ (.int .i64 y.g.ba)).setCell ⟨(w.heap.size + 1), 1, none⟩ (.string y.g.bs)).setCell ⟨(w.heap.size + 1), 2, none⟩ (.int .i64 y.g.cp)).setCell ⟨(w.heap.size + 1), 3, none⟩ (.int .i64 y.g.lm)).setCell ⟨(w.heap.size + 1), 4, none⟩ (.bool y.g.en)).setCell ⟨(w.heap.size + 1), 5, none⟩ (.bool y.g.dn)).setCell ⟨(w.heap.size + 1), 6, none⟩ (.int .i64 y.t.nx)).setCell ⟨(w.heap.size + 1), 7, none⟩ (.string y.t.bs)).setCell ⟨(w.heap.size + 1), 8, none⟩ (.slice a5 y.t.l.length c5)).setCell ⟨(w.heap.size + 1), 9, none⟩ (.int .i64 y.t.cp)).setCell ⟨(w.heap.size + 1), 10, none⟩ (.int .i64 y.t.fi)).setCell ⟨(w.heap.size + 1), 11, none⟩ (.bool y.t.en)).setCell ⟨(w.heap.size + 1), 12, none⟩ (.slice a6 y.ws.length c6))) w.heap.size a5 c5 y.t.l := by
    iterate 13 (refine El.Own.setCell ?_ (fun x hx => by have := (own_win (by decide) oT v2.win x hx); exact this) _)
    exact oT
  have rW : letE.Own 39 ((((((((((((((w4.setCell ⟨(w.heap.size + 1), 0, none⟩ (.int .i64 y.g.ba)).setCell ⟨(w.heap.size + 1), 1, none⟩ (.string y.g.bs)).setCell ⟨(w.heap.size + 1), 2, none⟩ (.int .i64 y.g.cp)).setCell ⟨(w.heap.size + 1), 3, none⟩ (.int .i64 y.g.lm)).setCell ⟨(w.heap.size + 1), 4, none⟩ (.bool y.g.en)).setCell ⟨(w.heap.size + 1), 5, none⟩ (.bool y.g.dn)).setCell ⟨(w.heap.size + 1), 6, none⟩ (.int .i64 y.t.nx)).setCell ⟨(w.heap.size + 1), 7, none⟩ (.string y.t.bs)).setCell ⟨(w.heap.size + 1), 8, none⟩ (.slice a5 y.t.l.length c5)).setCell ⟨(w.heap.size + 1), 9, none⟩ (.int .i64 y.t.cp)).setCell ⟨(w.heap.size + 1), 10, none⟩ (.int .i64 y.t.fi)).setCell ⟨(w.heap.size + 1), 11, none⟩ (.bool y.t.en)).setCell ⟨(w.heap.size + 1), 12, none⟩ (.slice a6 y.ws.length c6))) w.heap.size a6 c6 y.ws := by
    iterate 13 (refine El.Own.setCell ?_ (fun x hx => by have := (own_win (by decide) oW v2.win x hx); exact this) _)
    exact oW
  have rB : Below w.heap.size w ((((((((((((((w4.setCell ⟨(w.heap.size + 1), 0, none⟩ (.int .i64 y.g.ba)).setCell ⟨(w.heap.size + 1), 1, none⟩ (.string y.g.bs)).setCell ⟨(w.heap.size + 1), 2, none⟩ (.int .i64 y.g.cp)).setCell ⟨(w.heap.size + 1), 3, none⟩ (.int .i64 y.g.lm)).setCell ⟨(w.heap.size + 1), 4, none⟩ (.bool y.g.en)).setCell ⟨(w.heap.size + 1), 5, none⟩ (.bool y.g.dn)).setCell ⟨(w.heap.size + 1), 6, none⟩ (.int .i64 y.t.nx)).setCell ⟨(w.heap.size + 1), 7, none⟩ (.string y.t.bs)).setCell ⟨(w.heap.size + 1), 8, none⟩ (.slice a5 y.t.l.length c5)).setCell ⟨(w.heap.size + 1), 9, none⟩ (.int .i64 y.t.cp)).setCell ⟨(w.heap.size + 1), 10, none⟩ (.int .i64 y.t.fi)).setCell ⟨(w.heap.size + 1), 11, none⟩ (.bool y.t.en)).setCell ⟨(w.heap.size + 1), 12, none⟩ (.slice a6 y.ws.length c6))) := by
    iterate 13 (refine Below.setCell ?_ (by dsimp only; omega) _)
    exact B4
  generalize (((((((((((((w4.setCell ⟨(w.heap.size + 1), 0, none⟩ (.int .i64 y.g.ba)).setCell ⟨(w.heap.size + 1), 1, none⟩ (.string y.g.bs)).setCell ⟨(w.heap.size + 1), 2, none⟩ (.int .i64 y.g.cp)).setCell ⟨(w.heap.size + 1), 3, none⟩ (.int .i64 y.g.lm)).setCell ⟨(w.heap.size + 1), 4, none⟩ (.bool y.g.en)).setCell ⟨(w.heap.size + 1), 5, none⟩ (.bool y.g.dn)).setCell ⟨(w.heap.size + 1), 6, none⟩ (.int .i64 y.t.nx)).setCell ⟨(w.heap.size + 1), 7, none⟩ (.string y.t.bs)).setCell ⟨(w.heap.size + 1), 8, none⟩ (.slice a5 y.t.l.length c5)).setCell ⟨(w.heap.size + 1), 9, none⟩ (.int .i64 y.t.cp)).setCell ⟨(w.heap.size + 1), 10, none⟩ (.int .i64 y.t.fi)).setCell ⟨(w.heap.size + 1), 11, none⟩ (.bool y.t.en)).setCell ⟨(w.heap.size + 1), 12, none⟩ (.slice a6 y.ws.length c6)) = W4 at *
  obtain ⟨s0, s1, s2, s3, s4, s5, s6, s7, s8, s9, s10, s11, s12⟩ := r2.c13
  refine bodyPost_ret (v := .tuple #[.agg #[.int .i64 y.g.ba, .string y.g.bs, .int .i64 y.g.cp, .int .i64 y.g.lm, .bool y.g.en, .bool y.g.dn, .int .i64 y.t.nx, .string y.t.bs, .slice a5 y.t.l.length c5, .int .i64 y.t.cp, .int .i64 y.t.fi, .bool y.t.en, .slice a6 y.ws.length c6], .bool b]) (by rw [Tak.res_cell_tmp rfl]; clear r2 rT rW rB v5 v2 oT oW e0 f0 y0 e1 f1 y1 e2 f2 y2 e3 f3 y3 e4 f4 y4 e5 f5 y5 e6 f6 y6 e7 f7 y7 e8 f8 y8 e9 f9 y9 e10 f10 y10 e11 f11 y11 e12 f12 y12; go_simp; done) rfl ⟨a5, c5, a6, c6, rfl, rT, rW, rB⟩

def losesH (h : Hp) (n : Int) : Hp × Bool := if hopB h then lose2 h n else (zeroH, false)

set_option maxRecDepth 10000 in
set_option maxHeartbeats 8000000 in
theorem specLoses (h : Hp) (aT : Option Addr) (cT : Nat) (aW : Option Addr) (cW : Nat) (n : Int) (w : World) (hT : Tak.partE.Lies w aT h.t.l) (hW : letE.Lies w aW h.ws) (hnT : aT = none → cT = 0) (hnW : aW = none → cW = 0) (hs : h.Sm) :
    Calls Tryz.prog 11 #[h.v aT cT aW cW, .int .i64 n] w fun e w' => ∃ aT' cT' aW' cW', e = .returned (.tuple #[(losesH h n).1.v aT' cT' aW' cW', .bool (losesH h n).2]) ∧ Tak.partE.Own 69 w' w.heap.size aT' cT' (losesH h n).1.t.l ∧ letE.Own 39 w' w.heap.size aW' cW' (losesH h n).1.ws ∧ Below w.heap.size w w' := by
  have v1 : Var 31 ((w.alloc (.cells #[.int .i64 h.g.ba, .string h.g.bs, .int .i64 h.g.cp, .int .i64 h.g.lm, .bool h.g.en, .bool h.g.dn, .int .i64 h.t.nx, .string h.t.bs, .slice aT h.t.l.length cT, .int .i64 h.t.cp, .int .i64 h.t.fi, .bool h.t.en, .slice aW h.ws.length cW] 31)).alloc (.cells #[.int .i64 0, .string ⟨#[]⟩, .int .i64 0, .int .i64 0, .bool false, .bool false, .int .i64 0, .string ⟨#[]⟩, .slice none 0 0, .int .i64 0, .int .i64 0, .bool false, .slice none 0 0] 31)) w.heap.size [.int .i64 h.g.ba, .string h.g.bs, .int .i64 h.g.cp, .int .i64 h.g.lm, .bool h.g.en, .bool h.g.dn, .int .i64 h.t.nx, .string h.t.bs, .slice aT h.t.l.length cT, .int .i64 h.t.cp, .int .i64 h.t.fi, .bool h.t.en, .slice aW h.ws.length cW] := (Var.new w [.int .i64 h.g.ba, .string h.g.bs, .int .i64 h.g.cp, .int .i64 h.g.lm, .bool h.g.en, .bool h.g.dn, .int .i64 h.t.nx, .string h.t.bs, .slice aT h.t.l.length cT, .int .i64 h.t.cp, .int .i64 h.t.fi, .bool h.t.en, .slice aW h.ws.length cW]).alloc _
  have v2 : Var 31 ((w.alloc (.cells #[.int .i64 h.g.ba, .string h.g.bs, .int .i64 h.g.cp, .int .i64 h.g.lm, .bool h.g.en, .bool h.g.dn, .int .i64 h.t.nx, .string h.t.bs, .slice aT h.t.l.length cT, .int .i64 h.t.cp, .int .i64 h.t.fi, .bool h.t.en, .slice aW h.ws.length cW] 31)).alloc (.cells #[.int .i64 0, .string ⟨#[]⟩, .int .i64 0, .int .i64 0, .bool false, .bool false, .int .i64 0, .string ⟨#[]⟩, .slice none 0 0, .int .i64 0, .int .i64 0, .bool false, .slice none 0 0] 31)) (w.heap.size + 1) [.int .i64 0, .string ⟨#[]⟩, .int .i64 0, .int .i64 0, .bool false, .bool false, .int .i64 0, .string ⟨#[]⟩, .slice none 0 0, .int .i64 0, .int .i64 0, .bool false, .slice none 0 0] := by
    have q := Var.new (T := 31) (w.alloc (.cells #[.int .i64 h.g.ba, .string h.g.bs, .int .i64 h.g.cp, .int .i64 h.g.lm, .bool h.g.en, .bool h.g.dn, .int .i64 h.t.nx, .string h.t.bs, .slice aT h.t.l.length cT, .int .i64 h.t.cp, .int .i64 h.t.fi, .bool h.t.en, .slice aW h.ws.length cW] 31)) [.int .i64 0, .string ⟨#[]⟩, .int .i64 0, .int .i64 0, .bool false, .bool false, .int .i64 0, .string ⟨#[]⟩, .slice none 0 0, .int .i64 0, .int .i64 0, .bool false, .slice none 0 0]
    simpa using q
  have b0 : Below w.heap.size w ((w.alloc (.cells #[.int .i64 h.g.ba, .string h.g.bs, .int .i64 h.g.cp, .int .i64 h.g.lm, .bool h.g.en, .bool h.g.dn, .int .i64 h.t.nx, .string h.t.bs, .slice aT h.t.l.length cT, .int .i64 h.t.cp, .int .i64 h.t.fi, .bool h.t.en, .slice aW h.ws.length cW] 31)).alloc (.cells #[.int .i64 0, .string ⟨#[]⟩, .int .i64 0, .int .i64 0, .bool false, .bool false, .int .i64 0, .string ⟨#[]⟩, .slice none 0 0, .int .i64 0, .int .i64 0, .bool false, .slice none 0 0] 31)) := ((Below.refl _ _).alloc (Nat.le_refl _) _).alloc (by simp) _
  have lT := hT.later b0
  have lW := hW.later b0
  have HOK : Hid _ := fun w' a b => specHopOk h aT cT aW cW w' a b hs
  have HCP : Hid _ := fun w' a b => l7Copy h aT cT aW cW w' a b hnT hnW hs.tl hs.wl
  have HR : Hid (losesH h n = if hopB h then lose2 h n else (zeroH, false)) := rfl
  generalize losesH h n = R at *
  go_enter Tryz.func11, Tryz.ntmps11
  go_upto_region 1 with (fail)
  generalize (w.alloc (.cells #[.int .i64 h.g.ba, .string h.g.bs, .int .i64 h.g.cp, .int .i64 h.g.lm, .bool h.g.en, .bool h.g.dn, .int .i64 h.t.nx, .string h.t.bs, .slice aT h.t.l.length cT, .int .i64 h.t.cp, .int .i64 h.t.fi, .bool h.t.en, .slice aW h.ws.length cW] 31)).alloc (.cells #[.int .i64 0, .string ⟨#[]⟩, .int .i64 0, .int .i64 0, .bool false, .bool false, .int .i64 0, .string ⟨#[]⟩, .slice none 0 0, .int .i64 0, .int .i64 0, .bool false, .slice none 0 0] 31) = V at *
  obtain ⟨e0, e1, e2, e3, e4, e5, e6, e7, e8, e9, e10, e11, e12⟩ := v1.c13
  go_wp2_with fail
  refine (HOK.out _ lT lW).mono ?_
  rintro e w1 ⟨rfl, b1⟩
  replace v1 := v1.later b1
  replace v2 := v2.later b1
  replace lW := lW.later b1
  replace lT := lT.later b1
  have B1 := b0.trans (b1.mono b0.size)
  clear HOK b1 b0 e0 e1 e2 e3 e4 e5 e6 e7 e8 e9 e10 e11 e12
  cases hb : hopB h
  case false =>
    have hR : R = (zeroH, false) := by rw [HR.out, hb]; rfl
    subst hR
    dsimp only [zeroH, Tak.zeroK, List.length_nil]
    obtain ⟨f0, f1, f2, f3, f4, f5, f6, f7, f8, f9, f10, f11, f12⟩ := v2.c13
    obtain ⟨y0, y1, y2, y3, y4, y5, y6, y7, y8, y9, y10, y11, y12⟩ := v2.f13
    go_wp2_with fail
    have r2 : Var 31 ((((((((((((((w1.setCell ⟨(w.heap.size + 1), 0, none⟩ (.int .i64 0)).setCell ⟨(w.heap.size + 1), 1, none⟩ (.string ⟨#[]⟩)).setCell ⟨(w.heap.size + 1), 2, none⟩ (.int .i64 0)).setCell ⟨(w.heap.size + 1), 3, none⟩ (.int .i64 0)).setCell ⟨(w.heap.size + 1), 4, none⟩ (.bool false)).setCell ⟨(w.heap.size + 1), 5, none⟩ (.bool false)).setCell ⟨(w.heap.size + 1), 6, none⟩ (.int .i64 0)).setCell ⟨(w.heap.size + 1), 7, none⟩ (.string ⟨#[]⟩)).setCell ⟨(w.heap.size + 1), 8, none⟩ (.slice none 0 0)).setCell ⟨(w.heap.size + 1), 9, none⟩ (.int .i64 0)).setCell ⟨(w.heap.size + 1), 10, none⟩ (.int .i64 0)).setCell ⟨(w.heap.size + 1), 11, none⟩ (.bool false)).setCell ⟨(w.heap.size + 1), 12, none⟩ (.slice none 0 0))) (w.heap.size + 1) [.int .i64 0, .string ⟨#[]⟩, .int .i64 0, .int .i64 0, .bool false, .bool false, .int .i64 0, .string ⟨#[]⟩, .slice none 0 0, .int .i64 0, .int .i64 0, .bool false, .slice none 0 0] := (((((((((((((v2.set 0 _).set 1 _).set 2 _).set 3 _).set 4 _).set 5 _).set 6 _).set 7 _).set 8 _).set 9 _).set 10 _).set 11 _).set 12 _)
    have rB : Below w.heap.size w ((((((((((((((w1.setCell ⟨(w.heap.size + 1), 0, none⟩ (.int .i64 0)).setCell ⟨(w.heap.size + 1), 1, none⟩ (.string ⟨#[]⟩)).setCell ⟨(w.heap.size + 1), 2, none⟩ (.int .i64 0)).setCell ⟨(w.heap.size + 1), 3, none⟩ (.int .i64 0)).setCell ⟨(w.heap.size + 1), 4, none⟩ (.bool false)).setCell ⟨(w.heap.size + 1), 5, none⟩ (.bool false)).setCell ⟨(w.heap.size + 1), 6, none⟩ (.int .i64 0)).setCell ⟨(w.heap.size + 1), 7, none⟩ (.string ⟨#[]⟩)).setCell ⟨(w.heap.size + 1), 8, none⟩ (.slice none 0 0)).setCell ⟨(w.heap.size + 1), 9, none⟩ (.int .i64 0)).setCell ⟨(w.heap.size + 1), 10, none⟩ (.int .i64 0)).setCell ⟨(w.heap.size + 1), 11, none⟩ (.bool false)).setCell ⟨(w.heap.size + 1), 12, none⟩ (.slice none 0 0))) := by
      iterate 13 (refine Below.setCell ?_ (by dsimp only; omega) _)
      exact B1
    generalize (((((((((((((w1.setCell ⟨(w.heap.size + 1), 0, none⟩ (.int .i64 0)).setCell ⟨(w.heap.size + 1), 1, none⟩ (.string ⟨#[]⟩)).setCell ⟨(w.heap.size + 1), 2, none⟩ (.int .i64 0)).setCell ⟨(w.heap.size + 1), 3, none⟩ (.int .i64 0)).setCell ⟨(w.heap.size + 1), 4, none⟩ (.bool false)).setCell ⟨(w.heap.size + 1), 5, none⟩ (.bool false)).setCell ⟨(w.heap.size + 1), 6, none⟩ (.int .i64 0)).setCell ⟨(w.heap.size + 1), 7, none⟩ (.string ⟨#[]⟩)).setCell ⟨(w.heap.size + 1), 8, none⟩ (.slice none 0 0)).setCell ⟨(w.heap.size + 1), 9, none⟩ (.int .i64 0)).setCell ⟨(w.heap.size + 1), 10, none⟩ (.int .i64 0)).setCell ⟨(w.heap.size + 1), 11, none⟩ (.bool false)).setCell ⟨(w.heap.size + 1), 12, none⟩ (.slice none 0 0)) = W4 at *
    obtain ⟨s0, s1, s2, s3, s4, s5, s6, s7, s8, s9, s10, s11, s12⟩ := r2.c13
    refine bodyPost_ret (v := .tuple #[.agg #[.int .i64 0, .string ⟨#[]⟩, .int .i64 0, .int .i64 0, .bool false, .bool false, .int .i64 0, .string ⟨#[]⟩, .slice none 0 0, .int .i64 0, .int .i64 0, .bool false, .slice none 0 0], .bool false]) (by rw [Tak.res_cell_tmp rfl]; clear r2 rB v1 v2 f0 y0 f1 y1 f2 y2 f3 y3 f4 y4 f5 y5 f6 y6 f7 y7 f8 y8 f9 y9 f10 y10 f11 y11 f12 y12; go_simp; done) rfl ⟨none, 0, none, 0, rfl, El.Own.none _ _, El.Own.none _ _, rB⟩
  have hR : R = lose2 h n := by rw [HR.out, hb]; rfl
  have HV2 : Hid (w.heap.size + 1 < w1.heap.size) := v2.lt
  have HHB : Hid (hopB h = true) := hb
  clear HR
  obtain ⟨e0, e1, e2, e3, e4, e5, e6, e7, e8, e9, e10, e11, e12⟩ := v1.c13
  go_wp2_with fail
  refine (HCP.out _ lT lW).mono ?_
  rintro e w2 ⟨a2, c2, a4, c4, rfl, oT, oW, b2⟩
  replace v1 := v1.later b2
  replace v2 := v2.later b2
  have B2 := B1.trans (b2.mono B1.size)
  have HZ2 : Hid (w1.heap.size ≤ w2.heap.size) := b2.size
  have hV2 : w.heap.size + 1 < w1.heap.size := HV2.out
  clear HCP lT lW b2 B1 e0 e1 e2 e3 e4 e5 e6 e7 e8 e9 e10 e11 e12
  have L0 : Lay 31 [] [] 0 (w2.alloc (.cells #[.int .i64 h.g.ba, .string h.g.bs, .int .i64 h.g.cp, .int .i64 h.g.lm, .bool h.g.en, .bool h.g.dn, .int .i64 h.t.nx, .string h.t.bs, .slice a2 h.t.l.length c2, .int .i64 h.t.cp, .int .i64 h.t.fi, .bool h.t.en, .slice a4 h.ws.length c4] 31)) w1.heap.size w2.heap.size h := ⟨a2, c2, a4, c4, (Var.new w2 [.int .i64 h.g.ba, .string h.g.bs, .int .i64 h.g.cp, .int .i64 h.g.lm, .bool h.g.en, .bool h.g.dn, .int .i64 h.t.nx, .string h.t.bs, .slice a2 h.t.l.length c2, .int .i64 h.t.cp, .int .i64 h.t.fi, .bool h.t.en, .slice a4 h.ws.length c4]).win, oT.alloc _, oW.alloc _⟩
  have B3 : Below w.heap.size w (w2.alloc (.cells #[.int .i64 h.g.ba, .string h.g.bs, .int .i64 h.g.cp, .int .i64 h.g.lm, .bool h.g.en, .bool h.g.dn, .int .i64 h.t.nx, .string h.t.bs, .slice a2 h.t.l.length c2, .int .i64 h.t.cp, .int .i64 h.t.fi, .bool h.t.en, .slice a4 h.ws.length c4] 31)) := B2.alloc B2.size _
  replace v2 := v2.alloc (.cells #[.int .i64 h.g.ba, .string h.g.bs, .int .i64 h.g.cp, .int .i64 h.g.lm, .bool h.g.en, .bool h.g.dn, .int .i64 h.t.nx, .string h.t.bs, .slice a2 h.t.l.length c2, .int .i64 h.t.cp, .int .i64 h.t.fi, .bool h.t.en, .slice a4 h.ws.length c4] 31)
  have hz2 : w1.heap.size ≤ w2.heap.size := HZ2.out
  have hz3 : w1.heap.size ≤ (w2.alloc (.cells #[.int .i64 h.g.ba, .string h.g.bs, .int .i64 h.g.cp, .int .i64 h.g.lm, .bool h.g.en, .bool h.g.dn, .int .i64 h.t.nx, .string h.t.bs, .slice a2 h.t.l.length c2, .int .i64 h.t.cp, .int .i64 h.t.fi, .bool h.t.en, .slice a4 h.ws.length c4] 31)).heap.size := by simp; omega
  clear v1 oT oW B2
  go_upto_region 4 with (fail)
  generalize w2.alloc (.cells #[.int .i64 h.g.ba, .string h.g.bs, .int .i64 h.g.cp, .int .i64 h.g.lm, .bool h.g.en, .bool h.g.dn, .int .i64 h.t.nx, .string h.t.bs, .slice a2 h.t.l.length c2, .int .i64 h.t.cp, .int .i64 h.t.fi, .bool h.t.en, .slice a4 h.ws.length c4] 31) = W2 at *
  generalize w2.heap.size = k9 at *
  go_wp2_with fail
  refine (outLay (by decide) (by decide) k9 w1.heap.size h n _ L0 hz3 (by have := (hop_ok HHB.out).1; omega)).mono ?_
  rintro e w3 ⟨x, rfl, L3, k4⟩
  replace v2 := (k4.var v2 hV2 (by omega)).alloc (.cells #[.bool x.bk, .int .i64 x.rd, .int .i64 x.pl, .string x.bs, .bool x.en, .int .i64 x.lm, .bool x.dn] 39)
  have B5 := B3.trans (k4.below (by omega) (by omega))
  have B4 := B5.alloc B5.size (.cells #[.bool x.bk, .int .i64 x.rd, .int .i64 x.pl, .string x.bs, .bool x.en, .int .i64 x.lm, .bool x.dn] 39)
  have L4 := L3.alloc (.cells #[.bool x.bk, .int .i64 x.rd, .int .i64 x.pl, .string x.bs, .bool x.en, .int .i64 x.lm, .bool x.dn] 39)
  clear B5 L3
  go_upto_region 5 with (fail)
  generalize w3.alloc (.cells #[.bool x.bk, .int .i64 x.rd, .int .i64 x.pl, .string x.bs, .bool x.en, .int .i64 x.lm, .bool x.dn] 39) = w4 at *
  rw [← hR] at L4 ⊢
  obtain ⟨y, b⟩ := R
  obtain ⟨a5, c5, a6, c6, v5, oT, oW⟩ := L4
  dsimp only at *
  replace v5 := v5.whole
  replace oT := oT.mono (B := w.heap.size) (by omega)
  replace oW := oW.mono (B := w.heap.size) (by omega)
  clear hR k4 B3 hb L0
  obtain ⟨e0, e1, e2, e3, e4, e5, e6, e7, e8, e9, e10, e11, e12⟩ := v5.c13
  obtain ⟨f0, f1, f2, f3, f4, f5, f6, f7, f8, f9, f10, f11, f12⟩ := v2.c13
  obtain ⟨y0, y1, y2, y3, y4, y5, y6, y7, y8, y9, y10, y11, y12⟩ := v2.f13
  go_wp2_with fail
  have r2 : Var 31 ((((((((((((((w4.setCell ⟨(w.heap.size + 1), 0, none⟩ (.int .i64 y.g.ba)).setCell ⟨(w.heap.size + 1), 1, none⟩ (.string y.g.bs)).setCell ⟨(w.heap.size + 1), 2, none⟩ (.int .i64 y.g.cp)).setCell ⟨(w.heap.size + 1), 3, none⟩ (.int .i64 y.g.lm)).setCell ⟨(w.heap.size + 1), 4, none⟩ (.bool y.g.en)).setCell ⟨(w.heap.size + 1), 5, none⟩ (.bool y.g.dn)).setCell ⟨(w.heap.size + 1), 6, none⟩ (.int .i64 y.t.nx)).setCell ⟨(w.heap.size + 1), 7, none⟩ (.string y.t.bs)).setCell ⟨(w.heap.size + 1), 8, none⟩ (.slice a5 y.t.l.length c5)).setCell ⟨(w.heap.size + 1), 9, none⟩ (.int .i64 y.t.cp)).setCell ⟨(w.heap.size + 1), 10, none⟩ (.int .i64 y.t.fi)).setCell ⟨(w.heap.size + 1), 11, none⟩ (.bool y.t.en)).setCell ⟨(w.heap.size + 1), 12, none⟩ (.slice a6 y.ws.length c6))) (w.heap.size + 1) [.int .i64 y.g.ba, .string y.g.bs, .int .i64 y.g.cp, .int .i64 y.g.lm, .bool y.g.en, .bool y.g.dn, .int .i64 y.t.nx, .string y.t.bs, .slice a5 y.t.l.length c5, .int .i64 y.t.cp, .int .i64 y.t.fi, .bool y.t.en, .slice a6 y.ws.length c6] := (((((((((((((v2.set 0 _).set 1 _).set 2 _).set 3 _).set 4 _).set 5 _).set 6 _).set 7 _).set 8 _).set 9 _).set 10 _).set 11 _).set 12 _)
  have rT : Tak.partE.Own 69 ((((((((((((((w4.setCell ⟨(w.heap.size + 1), 0, none⟩ (.int .i64 y.g.ba)).setCell ⟨(w.heap.size + 1), 1, none⟩ (.string y.g.bs)).setCell ⟨(w.heap.size + 1), 2, none⟩ (.int .i64 y.g.cp)).setCell ⟨(w.heap.size + 1), 3, none⟩ (.int .i64 y.g.lm)).setCell ⟨(w.heap.size + 1), 4, none⟩ (.bool y.g.en)).setCell ⟨(w.heap.size + 1), 5, none⟩ (.bool y.g.dn)).setCell ⟨(w.heap.size + 1), 6, none⟩ (.int .i64 y.t.nx)).setCell ⟨(w.heap.size + 1), 7, none⟩ (.string y.t.bs)).setCell ⟨(w.heap.size + 1), 8, none⟩ (.slice a5 y.t.l.length c5)).setCell ⟨(w.heap.size + 1), 9, none⟩ (.int .i64 y.t.cp)).setCell ⟨(w.heap.size + 1), 10, none⟩ (.int .i64 y.t.fi)).setCell ⟨(w.heap.size + 1), 11, none⟩ (.bool y.t.en)).setCell ⟨(w.heap.size + 1), 12, none⟩ (.slice a6 y.ws.length c6))) w.heap.size a5 c5 y.t.l := by
    iterate 13 (refine El.Own.setCell ?_ (fun x hx => by have := (own_win (by decide) oT v2.win x hx); exact this) _)
    exact oT
  have rW : letE.Own 39 ((((((((((((((w4.setCell ⟨(w.heap.size + 1), 0, none⟩ (.int .i64 y.g.ba)).setCell ⟨(w.heap.size + 1), 1, none⟩ (.string y.g.bs)).setCell ⟨(w.heap.size + 1), 2, none⟩ (.int .i64 y.g.cp)).setCell ⟨(w.heap.size + 1), 3, none⟩ (.int .i64 y.g.lm)).setCell ⟨(w.heap.size + 1), 4, none⟩ (.bool y.g.en)).setCell ⟨(w.heap.size + 1), 5, none⟩ (.bool y.g.dn)).setCell ⟨(w.heap.size + 1), 6, none⟩ (.int .i64 y.t.nx)).setCell ⟨(w.heap.size + 1), 7, none⟩ (.string y.t.bs)).setCell ⟨(w.heap.size + 1), 8, none⟩ (.slice a5 y.t.l.length c5)).setCell ⟨(w.heap.size + 1), 9, none⟩ (.int .i64 y.t.cp)).setCell ⟨(w.heap.size + 1), 10, none⟩ (.int .i64 y.t.fi)).setCell ⟨(w.heap.size + 1), 11, none⟩ (.bool y.t.en)).setCell ⟨(w.heap.size + 1), 12, none⟩ (.slice a6 y.ws.length c6))) w.heap.size a6 c6 y.ws := by
    iterate 13 (refine El.Own.setCell ?_ (fun x hx => by have := (own_win (by decide) oW v2.win x hx); exact this) _)
    exact oW
  have rB : Below w.heap.size w ((((((((((((((w4.setCell ⟨(w.heap.size + 1), 0, none⟩ (.int .i64 y.g.ba)).setCell ⟨(w.heap.size + 1), 1, none⟩ (.string y.g.bs)).setCell ⟨(w.heap.size + 1), 2, none⟩ (.int .i64 y.g.cp)).setCell ⟨(w.heap.size + 1), 3, none⟩ (.int .i64 y.g.lm)).setCell ⟨(w.heap.size + 1), 4, none⟩ (.bool y.g.en)).setCell ⟨(w.heap.size + 1), 5, none⟩ (.bool y.g.dn)).setCell ⟨(w.heap.size + 1), 6, none⟩ (.int .i64 y.t.nx)).setCell ⟨(w.heap.size + 1), 7, none⟩ (.string y.t.bs)).setCell ⟨(w.heap.size + 1), 8, none⟩ (.slice a5 y.t.l.length c5)).setCell ⟨(w.heap.size + 1), 9, none⟩ (.int .i64 y.t.cp)).setCell ⟨(w.heap.size + 1), 10, none⟩ (.int .i64 y.t.fi)).setCell ⟨(w.heap.size + 1), 11, none⟩ (.bool y.t.en)).setCell ⟨(w.heap.size + 1), 12, none⟩ (.slice a6 y.ws.length c6))) := by
    iterate 13 (refine Below.setCell ?_ (by dsimp only; omega) _)
    exact B4
  generalize (((((((((((((w4.setCell ⟨(w.heap.size + 1), 0, none⟩ (.int .i64 y.g.ba)).setCell ⟨(w.heap.size + 1), 1, none⟩ (.string y.g.bs)).setCell ⟨(w.heap.size + 1), 2, none⟩ (.int .i64 y.g.cp)).setCell ⟨(w.heap.size + 1), 3, none⟩ (.int .i64 y.g.lm)).setCell ⟨(w.heap.size + 1), 4, none⟩ (.bool y.g.en)).setCell ⟨(w.heap.size + 1), 5, none⟩ (.bool y.g.dn)).setCell ⟨(w.heap.size + 1), 6, none⟩ (.int .i64 y.t.nx)).setCell ⟨(w.heap.size + 1), 7, none⟩ (.string y.t.bs)).setCell ⟨(w.heap.size + 1), 8, none⟩ (.slice a5 y.t.l.length c5)).setCell ⟨(w.heap.size + 1), 9, none⟩ (.int .i64 y.t.cp)).setCell ⟨(w.heap.size + 1), 10, none⟩ (.int .i64 y.t.fi)).setCell ⟨(w.heap.size + 1), 11, none⟩ (.bool y.t.en)).setCell ⟨(w.heap.size + 1), 12, none⟩ (.slice a6 y.ws.length c6)) = W4 at *
  obtain ⟨s0, s1, s2, s3, s4, s5, s6, s7, s8, s9, s10, s11, s12⟩ := r2.c13
  refine bodyPost_ret (v := .tuple #[.agg #[.int .i64 y.g.ba, .string y.g.bs, .int .i64 y.g.cp, .int .i64 y.g.lm, .bool y.g.en, .bool y.g.dn, .int .i64 y.t.nx, .string y.t.bs, .slice a5 y.t.l.length c5, .int .i64 y.t.cp, .int .i64 y.t.fi, .bool y.t.en, .slice a6 y.ws.length c6], .bool b]) (by rw [Tak.res_cell_tmp rfl]; clear r2 rT rW rB v5 v2 oT oW e0 f0 y0 e1 f1 y1 e2 f2 y2 e3 f3 y3 e4 f4 y4 e5 f5 y5 e6 f6 y6 e7 f7 y7 e8 f8 y8 e9 f9 y9 e10 f10 y10 e11 f11 y11 e12 f12 y12; go_simp; done) rfl ⟨a5, c5, a6, c6, rfl, rT, rW, rB⟩

def doublesH (h : Hp) (n : Int) : Hp × Bool := if hopB h then dbl2 h n else (zeroH, false)

set_option maxRecDepth 10000 in
set_option maxHeartbeats 8000000 in
theorem specDoubles (h : Hp) (aT : Option Addr) (cT : Nat) (aW : Option Addr) (cW : Nat) (n : Int) (w : World) (hT : Tak.partE.Lies w aT h.t.l) (hW : letE.Lies w aW h.ws) (hnT : aT = none → cT = 0) (hnW : aW = none → cW = 0) (hs : h.Sm) :
    Calls Tryz.prog 12 #[h.v aT cT aW cW, .int .i64 n] w fun e w' => ∃ aT' cT' aW' cW', e = .returned (.tuple #[(doublesH h n).1.v aT' cT' aW' cW', .bool (doublesH h n).2]) ∧ Tak.partE.Own 69 w' w.heap.size aT' cT' (doublesH h n).1.t.l ∧ letE.Own 39 w' w.heap.size aW' cW' (doublesH h n).1.ws ∧ Below w.heap.size w w' := by
  have v1 : Var 31 ((w.alloc (.cells #[.int .i64 h.g.ba, .string h.g.bs, .int .i64 h.g.cp, .int .i64 h.g.lm, .bool h.g.en, .bool h.g.dn, .int .i64 h.t.nx, .string h.t.bs, .slice aT h.t.l.length cT, .int .i64 h.t.cp, .int .i64 h.t.fi, .bool h.t.en, .slice aW h.ws.length cW] 31)).alloc (.cells #[.int .i64 0, .string ⟨#[]⟩, .int .i64 0, .int .i64 0, .bool false, .bool false, .int .i64 0, .string ⟨#[]⟩, .slice none 0 0, .int .i64 0, .int .i64 0, .bool false, .slice none 0 0] 31)) w.heap.size [.int .i64 h.g.ba, .string h.g.bs, .int .i64 h.g.cp, .int .i64 h.g.lm, .bool h.g.en, .bool h.g.dn, .int .i64 h.t.nx, .string h.t.bs, .slice aT h.t.l.length cT, .int .i64 h.t.cp, .int .i64 h.t.fi, .bool h.t.en, .slice aW h.ws.length cW] := (Var.new w [.int .i64 h.g.ba, .string h.g.bs, .int .i64 h.g.cp, .int .i64 h.g.lm, .bool h.g.en, .bool h.g.dn, .int .i64 h.t.nx, .string h.t.bs, .slice aT h.t.l.length cT, .int .i64 h.t.cp, .int .i64 h.t.fi, .bool h.t.en, .slice aW h.ws.length cW]).alloc _
  have v2 : Var 31 ((w.alloc (.cells #[.int .i64 h.g.ba, .string h.g.bs, .int .i64 h.g.cp, .int .i64 h.g.lm, .bool h.g.en, .bool h.g.dn, .int .i64 h.t.nx, .string h.t.bs, .slice aT h.t.l.length cT, .int .i64 h.t.cp, .int .i64 h.t.fi, .bool h.t.en, .slice aW h.ws.length cW] 31)).alloc (.cells #[.int .i64 0, .string ⟨#[]⟩, .int .i64 0, .int .i64 0, .bool false, .bool false, .int .i64 0, .string ⟨#[]⟩, .slice none 0 0, .int .i64 0, .int .i64 0, .bool false, .slice none 0 0] 31)) (w.heap.size + 1) [.int .i64 0, .string ⟨#[]⟩, .int .i64 0, .int .i64 0, .bool false, .bool false, .int .i64 0, .string ⟨#[]⟩, .slice none 0 0, .int .i64 0, .int .i64 0, .bool false, .slice none 0 0] := by
    have q := Var.new (T := 31) (w.alloc (.cells #[.int .i64 h.g.ba, .string h.g.bs, .int .i64 h.g.cp, .int .i64 h.g.lm, .bool h.g.en, .bool h.g.dn, .int .i64 h.t.nx, .string h.t.bs, .slice aT h.t.l.length cT, .int .i64 h.t.cp, .int .i64 h.t.fi, .bool h.t.en, .slice aW h.ws.length cW] 31)) [.int .i64 0, .string ⟨#[]⟩, .int .i64 0, .int .i64 0, .bool false, .bool false, .int .i64 0, .string ⟨#[]⟩, .slice none 0 0, .int .i64 0, .int .i64 0, .bool false, .slice none 0 0]
    simpa using q
  have b0 : Below w.heap.size w ((w.alloc (.cells #[.int .i64 h.g.ba, .string h.g.bs, .int .i64 h.g.cp, .int .i64 h.g.lm, .bool h.g.en, .bool h.g.dn, .int .i64 h.t.nx, .string h.t.bs, .slice aT h.t.l.length cT, .int .i64 h.t.cp, .int .i64 h.t.fi, .bool h.t.en, .slice aW h.ws.length cW] 31)).alloc (.cells #[.int .i64 0, .string ⟨#[]⟩, .int .i64 0, .int .i64 0, .bool false, .bool false, .int .i64 0, .string ⟨#[]⟩, .slice none 0 0, .int .i64 0, .int .i64 0, .bool false, .slice none 0 0] 31)) := ((Below.refl _ _).alloc (Nat.le_refl _) _).alloc (by simp) _
  have lT := hT.later b0
  have lW := hW.later b0
  have HOK : Hid _ := fun w' a b => specHopOk h aT cT aW cW w' a b hs
  have hs_wb := hs.wb
  have HCP : Hid _ := fun w' a b => l7Copy h aT cT aW cW w' a b hnT hnW hs.tl hs.wl
  have HR : Hid (doublesH h n = if hopB h then dbl2 h n else (zeroH, false)) := rfl
  generalize doublesH h n = R at *
  go_enter Tryz.func12, Tryz.ntmps12
  go_upto_region 1 with (fail)
  generalize (w.alloc (.cells #[.int .i64 h.g.ba, .string h.g.bs, .int .i64 h.g.cp, .int .i64 h.g.lm, .bool h.g.en, .bool h.g.dn, .int .i64 h.t.nx, .string h.t.bs, .slice aT h.t.l.length cT, .int .i64 h.t.cp, .int .i64 h.t.fi, .bool h.t.en, .slice aW h.ws.length cW] 31)).alloc (.cells #[.int .i64 0, .string ⟨#[]⟩, .int .i64 0, .int .i64 0, .bool false, .bool false, .int .i64 0, .string ⟨#[]⟩, .slice none 0 0, .int .i64 0, .int .i64 0, .bool false, .slice none 0 0] 31) = V at *
  obtain ⟨e0, e1, e2, e3, e4, e5, e6, e7, e8, e9, e10, e11, e12⟩ := v1.c13
  go_wp2_with fail
  refine (HOK.out _ lT lW).mono ?_
  rintro e w1 ⟨rfl, b1⟩
  replace v1 := v1.later b1
  replace v2 := v2.later b1
  replace lW := lW.later b1
  replace lT := lT.later b1
  have B1 := b0.trans (b1.mono b0.size)
  clear HOK b1 b0 e0 e1 e2 e3 e4 e5 e6 e7 e8 e9 e10 e11 e12
  cases hb : hopB h
  case false =>
    have hR : R = (zeroH, false) := by rw [HR.out, hb]; rfl
    subst hR
    dsimp only [zeroH, Tak.zeroK, List.length_nil]
    obtain ⟨f0, f1, f2, f3, f4, f5, f6, f7, f8, f9, f10, f11, f12⟩ := v2.c13
    obtain ⟨y0, y1, y2, y3, y4, y5, y6, y7, y8, y9, y10, y11, y12⟩ := v2.f13
    go_wp2_with fail
    have r2 : Var 31 ((((((((((((((w1.setCell ⟨(w.heap.size + 1), 0, none⟩ (.int .i64 0)).setCell ⟨(w.heap.size + 1), 1, none⟩ (.string ⟨#[]⟩)).setCell ⟨(w.heap.size + 1), 2, none⟩ (.int .i64 0)).setCell ⟨(w.heap.size + 1), 3, none⟩ (.int .i64 0)).setCell ⟨(w.heap.size + 1), 4, none⟩ (.bool false)).setCell ⟨(w.heap.size + 1), 5, none⟩ (.bool false)).setCell ⟨(w.heap.size + 1), 6, none⟩ (.int .i64 0)).setCell ⟨(w.heap.size + 1), 7, none⟩ (.string ⟨#[]⟩)).setCell ⟨(w.heap.size + 1), 8, none⟩ (.slice none 0 0)).setCell ⟨(w.heap.size + 1), 9, none⟩ (.int .i64 0)).setCell ⟨(w.heap.size + 1), 10, none⟩ (.int .i64 0)).setCell ⟨(w.heap.size + 1), 11, none⟩ (.bool false)).setCell ⟨(w.heap.size + 1), 12, none⟩ (.slice none 0 0))) (w.heap.size + 1) [.int .i64 0, .string ⟨#[]⟩, .int .i64 0, .int .i64 0, .bool false, .bool false, .int .i64 0, .string ⟨#[]⟩, .slice none 0 0, .int .i64 0, .int .i64 0, .bool false, .slice none 0 0] := (((((((((((((v2.set 0 _).set 1 _).set 2 _).set 3 _).set 4 _).set 5 _).set 6 _).set 7 _).set 8 _).set 9 _).set 10 _).set 11 _).set 12 _)
    have rB : Below w.heap.size w ((((((((((((((w1.setCell ⟨(w.heap.size + 1), 0, none⟩ (.int .i64 0)).setCell ⟨(w.heap.size + 1), 1, none⟩ (.string ⟨#[]⟩)).setCell ⟨(w.heap.size + 1), 2, none⟩ (.int .i64 0)).setCell ⟨(w.heap.size + 1), 3, none⟩ (.int .i64 0)).setCell ⟨(w.heap.size + 1), 4, none⟩ (.bool false)).setCell ⟨(w.heap.size + 1), 5, none⟩ (.bool false)).setCell ⟨(w.heap.size + 1), 6, none⟩ (.int .i64 0)).setCell ⟨(w.heap.size + 1), 7, none⟩ (.string ⟨#[]⟩)).setCell ⟨(w.heap.size + 1), 8, none⟩ (.slice none 0 0)).setCell ⟨(w.heap.size + 1), 9, none⟩ (.int .i64 0)).setCell ⟨(w.heap.size + 1), 10, none⟩ (.int .i64 0)).setCell ⟨(w.heap.size + 1), 11, none⟩ (.bool false)).setCell ⟨(w.heap.size + 1), 12, none⟩ (.slice none 0 0))) := by
      iterate 13 (refine Below.setCell ?_ (by dsimp only; omega) _)
      exact B1
    generalize (((((((((((((w1.setCell ⟨(w.heap.size + 1), 0, none⟩ (.int .i64 0)).setCell ⟨(w.heap.size + 1), 1, none⟩ (.string ⟨#[]⟩)).setCell ⟨(w.heap.size + 1), 2, none⟩ (.int .i64 0)).setCell ⟨(w.heap.size + 1), 3, none⟩ (.int .i64 0)).setCell ⟨(w.heap.size + 1), 4, none⟩ (.bool false)).setCell ⟨(w.heap.size + 1), 5, none⟩ (.bool false)).setCell ⟨(w.heap.size + 1), 6, none⟩ (.int .i64 0)).setCell ⟨(w.heap.size + 1), 7, none⟩ (.string ⟨#[]⟩)).setCell ⟨(w.heap.size + 1), 8, none⟩ (.slice none 0 0)).setCell ⟨(w.heap.size + 1), 9, none⟩ (.int .i64 0)).setCell ⟨(w.heap.size + 1), 10, none⟩ (.int .i64 0)).setCell ⟨(w.heap.size + 1), 11, none⟩ (.bool false)).setCell ⟨(w.heap.size + 1), 12, none⟩ (.slice none 0 0)) = W4 at *
    obtain ⟨s0, s1, s2, s3, s4, s5, s6, s7, s8, s9, s10, s11, s12⟩ := r2.c13
    refine bodyPost_ret (v := .tuple #[.agg #[.int .i64 0, .string ⟨#[]⟩, .int .i64 0, .int .i64 0, .bool false, .bool false, .int .i64 0, .string ⟨#[]⟩, .slice none 0 0, .int .i64 0, .int .i64 0, .bool false, .slice none 0 0], .bool false]) (by rw [Tak.res_cell_tmp rfl]; clear r2 rB v1 v2 f0 y0 f1 y1 f2 y2 f3 y3 f4 y4 f5 y5 f6 y6 f7 y7 f8 y8 f9 y9 f10 y10 f11 y11 f12 y12; go_simp; done) rfl ⟨none, 0, none, 0, rfl, El.Own.none _ _, El.Own.none _ _, rB⟩
  have hR : R = dbl2 h n := by rw [HR.out, hb]; rfl
  have HV2 : Hid (w.heap.size + 1 < w1.heap.size) := v2.lt
  have HHB : Hid (hopB h = true) := hb
  clear HR
  obtain ⟨e0, e1, e2, e3, e4, e5, e6, e7, e8, e9, e10, e11, e12⟩ := v1.c13
  go_wp2_with fail
  refine (HCP.out _ lT lW).mono ?_
  rintro e w2 ⟨a2, c2, a4, c4, rfl, oT, oW, b2⟩
  replace v1 := v1.later b2
  replace v2 := v2.later b2
  have B2 := B1.trans (b2.mono B1.size)
  have HZ2 : Hid (w1.heap.size ≤ w2.heap.size) := b2.size
  have hV2 : w.heap.size + 1 < w1.heap.size := HV2.out
  replace lW := lW.later b2
  clear HCP lT b2 B1 e0 e1 e2 e3 e4 e5 e6 e7 e8 e9 e10 e11 e12
  have L0 : Lay 31 [] [] 0 (w2.alloc (.cells #[.int .i64 h.g.ba, .string h.g.bs, .int .i64 h.g.cp, .int .i64 h.g.lm, .bool h.g.en, .bool h.g.dn, .int .i64 h.t.nx, .string h.t.bs, .slice a2 h.t.l.length c2, .int .i64 h.t.cp, .int .i64 h.t.fi, .bool h.t.en, .slice a4 h.ws.length c4] 31)) w1.heap.size w2.heap.size h := ⟨a2, c2, a4, c4, (Var.new w2 [.int .i64 h.g.ba, .string h.g.bs, .int .i64 h.g.cp, .int .i64 h.g.lm, .bool h.g.en, .bool h.g.dn, .int .i64 h.t.nx, .string h.t.bs, .slice a2 h.t.l.length c2, .int .i64 h.t.cp, .int .i64 h.t.fi, .bool h.t.en, .slice a4 h.ws.length c4]).win, oT.alloc _, oW.alloc _⟩
  have B3 : Below w.heap.size w (w2.alloc (.cells #[.int .i64 h.g.ba, .string h.g.bs, .int .i64 h.g.cp, .int .i64 h.g.lm, .bool h.g.en, .bool h.g.dn, .int .i64 h.t.nx, .string h.t.bs, .slice a2 h.t.l.length c2, .int .i64 h.t.cp, .int .i64 h.t.fi, .bool h.t.en, .slice a4 h.ws.length c4] 31)) := B2.alloc B2.size _
  replace v2 := v2.alloc (.cells #[.int .i64 h.g.ba, .string h.g.bs, .int .i64 h.g.cp, .int .i64 h.g.lm, .bool h.g.en, .bool h.g.dn, .int .i64 h.t.nx, .string h.t.bs, .slice a2 h.t.l.length c2, .int .i64 h.t.cp, .int .i64 h.t.fi, .bool h.t.en, .slice a4 h.ws.length c4] 31)
  have hz2 : w1.heap.size ≤ w2.heap.size := HZ2.out
  have hz3 : w1.heap.size ≤ (w2.alloc (.cells #[.int .i64 h.g.ba, .string h.g.bs, .int .i64 h.g.cp, .int .i64 h.g.lm, .bool h.g.en, .bool h.g.dn, .int .i64 h.t.nx, .string h.t.bs, .slice a2 h.t.l.length c2, .int .i64 h.t.cp, .int .i64 h.t.fi, .bool h.t.en, .slice a4 h.ws.length c4] 31)).heap.size := by simp; omega
  replace v1 := v1.alloc (.cells #[.int .i64 h.g.ba, .string h.g.bs, .int .i64 h.g.cp, .int .i64 h.g.lm, .bool h.g.en, .bool h.g.dn, .int .i64 h.t.nx, .string h.t.bs, .slice a2 h.t.l.length c2, .int .i64 h.t.cp, .int .i64 h.t.fi, .bool h.t.en, .slice a4 h.ws.length c4] 31)
  replace lW := lW.alloc (.cells #[.int .i64 h.g.ba, .string h.g.bs, .int .i64 h.g.cp, .int .i64 h.g.lm, .bool h.g.en, .bool h.g.dn, .int .i64 h.t.nx, .string h.t.bs, .slice a2 h.t.l.length c2, .int .i64 h.t.cp, .int .i64 h.t.fi, .bool h.t.en, .slice a4 h.ws.length c4] 31)
  clear oT oW B2
  go_upto_region 4 with (fail)
  generalize w2.alloc (.cells #[.int .i64 h.g.ba, .string h.g.bs, .int .i64 h.g.cp, .int .i64 h.g.lm, .bool h.g.en, .bool h.g.dn, .int .i64 h.t.nx, .string h.t.bs, .slice a2 h.t.l.length c2, .int .i64 h.t.cp, .int .i64 h.t.fi, .bool h.t.en, .slice a4 h.ws.length c4] 31) = W2 at *
  generalize w2.heap.size = k9 at *
  have e12 := v1.cell (i := 12) rfl
  by_cases hn0 : 0 ≤ n
  case neg =>
    have hR2 : R = (h, false) := hR.trans (dbl_none (.inl (by omega)))
    clear v1 lW e12 hR
    subst hR2
    have hnn : ¬ n ≥ 0 := hn0
    go_upto_region 5 with (fail)
    have L4 := L0
    have B4 := B3
    clear B3 L0
    generalize W2 = w4 at *
    have hb9 : Hid (0 = 0) := rfl
    obtain ⟨a5, c5, a6, c6, v5, oT, oW⟩ := L4
    try dsimp only at *
    replace v5 := v5.whole
    replace oT := oT.mono (B := w.heap.size) (by omega)
    replace oW := oW.mono (B := w.heap.size) (by omega)
    clear hb hb9
    obtain ⟨e0, e1, e2, e3, e4, e5, e6, e7, e8, e9, e10, e11, e12⟩ := v5.c13
    obtain ⟨f0, f1, f2, f3, f4, f5, f6, f7, f8, f9, f10, f11, f12⟩ := v2.c13
    obtain ⟨y0, y1, y2, y3, y4, y5, y6, y7, y8, y9, y10, y11, y12⟩ := v2.f13
    go_wp2_with fail
    have r2 : Var 31 ((((((((((((((w4.setCell ⟨(w.heap.size + 1), 0, none⟩ (.int .i64 h.g.ba)).setCell ⟨(w.heap.size + 1), 1, none⟩ (.string h.g.bs)).setCell ⟨(w.heap.size + 1), 2, none⟩ (.int .i64 h.g.cp)).setCell ⟨(w.heap.size + 1), 3, none⟩ (.int .i64 h.g.lm)).setCell ⟨(w.heap.size + 1), 4, none⟩ (.bool h.g.en)).setCell ⟨(w.heap.size + 1), 5, none⟩ (.bool h.g.dn)).setCell ⟨(w.heap.size + 1), 6, none⟩ (.int .i64 h.t.nx)).setCell ⟨(w.heap.size + 1), 7, none⟩ (.string h.t.bs)).setCell ⟨(w.heap.size + 1), 8, none⟩ (.slice a5 h.t.l.length c5)).setCell ⟨(w.heap.size + 1), 9, none⟩ (.int .i64 h.t.cp)).setCell ⟨(w.heap.size + 1), 10, none⟩ (.int .i64 h.t.fi)).setCell ⟨(w.heap.size + 1), 11, none⟩ (.bool h.t.en)).setCell ⟨(w.heap.size + 1), 12, none⟩ (.slice a6 h.ws.length c6))) (w.heap.size + 1) [.int .i64 h.g.ba, .string h.g.bs, .int .i64 h.g.cp, .int .i64 h.g.lm, .bool h.g.en, .bool h.g.dn, .int .i64 h.t.nx, .string h.t.bs, .slice a5 h.t.l.length c5, .int .i64 h.t.cp, .int .i64 h.t.fi, .bool h.t.en, .slice a6 h.ws.length c6] := (((((((((((((v2.set 0 _).set 1 _).set 2 _).set 3 _).set 4 _).set 5 _).set 6 _).set 7 _).set 8 _).set 9 _).set 10 _).set 11 _).set 12 _)
    have rT : Tak.partE.Own 69 ((((((((((((((w4.setCell ⟨(w.heap.size + 1), 0, none⟩ (.int .i64 h.g.ba)).setCell ⟨(w.heap.size + 1), 1, none⟩ (.string h.g.bs)).setCell ⟨(w.heap.size + 1), 2, none⟩ (.int .i64 h.g.cp)).setCell ⟨(w.heap.size + 1), 3, none⟩ (.int .i64 h.g.lm)).setCell ⟨(w.heap.size + 1), 4, none⟩ (.bool h.g.en)).setCell ⟨(w.heap.size + 1), 5, none⟩ (.bool h.g.dn)).setCell ⟨(w.heap.size + 1), 6, none⟩ (.int .i64 h.t.nx)).setCell ⟨(w.heap.size + 1), 7, none⟩ (.string h.t.bs)).setCell ⟨(w.heap.size + 1), 8, none⟩ (.slice a5 h.t.l.length c5)).setCell ⟨(w.heap.size + 1), 9, none⟩ (.int .i64 h.t.cp)).setCell ⟨(w.heap.size + 1), 10, none⟩ (.int .i64 h.t.fi)).setCell ⟨(w.heap.size + 1), 11, none⟩ (.bool h.t.en)).setCell ⟨(w.heap.size + 1), 12, none⟩ (.slice a6 h.ws.length c6))) w.heap.size a5 c5 h.t.l := by
      iterate 13 (refine El.Own.setCell ?_ (fun x hx => by have := (own_win (by decide) oT v2.win x hx); exact this) _)
      exact oT
    have rW : letE.Own 39 ((((((((((((((w4.setCell ⟨(w.heap.size + 1), 0, none⟩ (.int .i64 h.g.ba)).setCell ⟨(w.heap.size + 1), 1, none⟩ (.string h.g.bs)).setCell ⟨(w.heap.size + 1), 2, none⟩ (.int .i64 h.g.cp)).setCell ⟨(w.heap.size + 1), 3, none⟩ (.int .i64 h.g.lm)).setCell ⟨(w.heap.size + 1), 4, none⟩ (.bool h.g.en)).setCell ⟨(w.heap.size + 1), 5, none⟩ (.bool h.g.dn)).setCell ⟨(w.heap.size + 1), 6, none⟩ (.int .i64 h.t.nx)).setCell ⟨(w.heap.size + 1), 7, none⟩ (.string h.t.bs)).setCell ⟨(w.heap.size + 1), 8, none⟩ (.slice a5 h.t.l.length c5)).setCell ⟨(w.heap.size + 1), 9, none⟩ (.int .i64 h.t.cp)).setCell ⟨(w.heap.size + 1), 10, none⟩ (.int .i64 h.t.fi)).setCell ⟨(w.heap.size + 1), 11, none⟩ (.bool h.t.en)).setCell ⟨(w.heap.size + 1), 12, none⟩ (.slice a6 h.ws.length c6))) w.heap.size a6 c6 h.ws := by
      iterate 13 (refine El.Own.setCell ?_ (fun x hx => by have := (own_win (by decide) oW v2.win x hx); exact this) _)
      exact oW
    have rB : Below w.heap.size w ((((((((((((((w4.setCell ⟨(w.heap.size + 1), 0, none⟩ (.int .i64 h.g.ba)).setCell ⟨(w.heap.size + 1), 1, none⟩ (.string h.g.bs)).setCell ⟨(w.heap.size + 1), 2, none⟩ (.int .i64 h.g.cp)).setCell ⟨(w.heap.size + 1), 3, none⟩ (.int .i64 h.g.lm)).setCell ⟨(w.heap.size + 1), 4, none⟩ (.bool h.g.en)).setCell ⟨(w.heap.size + 1), 5, none⟩ (.bool h.g.dn)).setCell ⟨(w.heap.size + 1), 6, none⟩ (.int .i64 h.t.nx)).setCell ⟨(w.heap.size + 1), 7, none⟩ (.string h.t.bs)).setCell ⟨(w.heap.size + 1), 8, none⟩ (.slice a5 h.t.l.length c5)).setCell ⟨(w.heap.size + 1), 9, none⟩ (.int .i64 h.t.cp)).setCell ⟨(w.heap.size + 1), 10, none⟩ (.int .i64 h.t.fi)).setCell ⟨(w.heap.size + 1), 11, none⟩ (.bool h.t.en)).setCell ⟨(w.heap.size + 1), 12, none⟩ (.slice a6 h.ws.length c6))) := by
      iterate 13 (refine Below.setCell ?_ (by dsimp only; omega) _)
      exact B4
    generalize (((((((((((((w4.setCell ⟨(w.heap.size + 1), 0, none⟩ (.int .i64 h.g.ba)).setCell ⟨(w.heap.size + 1), 1, none⟩ (.string h.g.bs)).setCell ⟨(w.heap.size + 1), 2, none⟩ (.int .i64 h.g.cp)).setCell ⟨(w.heap.size + 1), 3, none⟩ (.int .i64 h.g.lm)).setCell ⟨(w.heap.size + 1), 4, none⟩ (.bool h.g.en)).setCell ⟨(w.heap.size + 1), 5, none⟩ (.bool h.g.dn)).setCell ⟨(w.heap.size + 1), 6, none⟩ (.int .i64 h.t.nx)).setCell ⟨(w.heap.size + 1), 7, none⟩ (.string h.t.bs)).setCell ⟨(w.heap.size + 1), 8, none⟩ (.slice a5 h.t.l.length c5)).setCell ⟨(w.heap.size + 1), 9, none⟩ (.int .i64 h.t.cp)).setCell ⟨(w.heap.size + 1), 10, none⟩ (.int .i64 h.t.fi)).setCell ⟨(w.heap.size + 1), 11, none⟩ (.bool h.t.en)).setCell ⟨(w.heap.size + 1), 12, none⟩ (.slice a6 h.ws.length c6)) = W4 at *
    obtain ⟨s0, s1, s2, s3, s4, s5, s6, s7, s8, s9, s10, s11, s12⟩ := r2.c13
    refine bodyPost_ret (v := .tuple #[.agg #[.int .i64 h.g.ba, .string h.g.bs, .int .i64 h.g.cp, .int .i64 h.g.lm, .bool h.g.en, .bool h.g.dn, .int .i64 h.t.nx, .string h.t.bs, .slice a5 h.t.l.length c5, .int .i64 h.t.cp, .int .i64 h.t.fi, .bool h.t.en, .slice a6 h.ws.length c6], .bool false]) (by rw [Tak.res_cell_tmp rfl]; clear r2 rT rW rB v5 v2 oT oW e0 f0 y0 e1 f1 y1 e2 f2 y2 e3 f3 y3 e4 f4 y4 e5 f5 y5 e6 f6 y6 e7 f7 y7 e8 f8 y8 e9 f9 y9 e10 f10 y10 e11 f11 y11 e12 f12 y12; go_simp; done) rfl ⟨a5, c5, a6, c6, rfl, rT, rW, rB⟩
  by_cases hn1 : n < (h.ws.length : Int)
  case neg =>
    have hR2 : R = (h, false) := hR.trans (dbl_none (.inr (by omega)))
    clear lW hR
    subst hR2
    go_upto_region 5 with (fail)
    have L4 := L0
    have B4 := B3
    clear B3 L0 v1 e12
    generalize W2 = w4 at *
    have hb9 : Hid (0 = 0) := rfl
    obtain ⟨a5, c5, a6, c6, v5, oT, oW⟩ := L4
    try dsimp only at *
    replace v5 := v5.whole
    replace oT := oT.mono (B := w.heap.size) (by omega)
    replace oW := oW.mono (B := w.heap.size) (by omega)
    clear hb hb9
    obtain ⟨e0, e1, e2, e3, e4, e5, e6, e7, e8, e9, e10, e11, e12⟩ := v5.c13
    obtain ⟨f0, f1, f2, f3, f4, f5, f6, f7, f8, f9, f10, f11, f12⟩ := v2.c13
    obtain ⟨y0, y1, y2, y3, y4, y5, y6, y7, y8, y9, y10, y11, y12⟩ := v2.f13
    go_wp2_with fail
    have r2 : Var 31 ((((((((((((((w4.setCell ⟨(w.heap.size + 1), 0, none⟩ (.int .i64 h.g.ba)).setCell ⟨(w.heap.size + 1), 1, none⟩ (.string h.g.bs)).setCell ⟨(w.heap.size + 1), 2, none⟩ (.int .i64 h.g.cp)).setCell ⟨(w.heap.size + 1), 3, none⟩ (.int .i64 h.g.lm)).setCell ⟨(w.heap.size + 1), 4, none⟩ (.bool h.g.en)).setCell ⟨(w.heap.size + 1), 5, none⟩ (.bool h.g.dn)).setCell ⟨(w.heap.size + 1), 6, none⟩ (.int .i64 h.t.nx)).setCell ⟨(w.heap.size + 1), 7, none⟩ (.string h.t.bs)).setCell ⟨(w.heap.size + 1), 8, none⟩ (.slice a5 h.t.l.length c5)).setCell ⟨(w.heap.size + 1), 9, none⟩ (.int .i64 h.t.cp)).setCell ⟨(w.heap.size + 1), 10, none⟩ (.int .i64 h.t.fi)).setCell ⟨(w.heap.size + 1), 11, none⟩ (.bool h.t.en)).setCell ⟨(w.heap.size + 1), 12, none⟩ (.slice a6 h.ws.length c6))) (w.heap.size + 1) [.int .i64 h.g.ba, .string h.g.bs, .int .i64 h.g.cp, .int .i64 h.g.lm, .bool h.g.en, .bool h.g.dn, .int .i64 h.t.nx, .string h.t.bs, .slice a5 h.t.l.length c5, .int .i64 h.t.cp, .int .i64 h.t.fi, .bool h.t.en, .slice a6 h.ws.length c6] := (((((((((((((v2.set 0 _).set 1 _).set 2 _).set 3 _).set 4 _).set 5 _).set 6 _).set 7 _).set 8 _).set 9 _).set 10 _).set 11 _).set 12 _)
    have rT : Tak.partE.Own 69 ((((((((((((((w4.setCell ⟨(w.heap.size + 1), 0, none⟩ (.int .i64 h.g.ba)).setCell ⟨(w.heap.size + 1), 1, none⟩ (.string h.g.bs)).setCell ⟨(w.heap.size + 1), 2, none⟩ (.int .i64 h.g.cp)).setCell ⟨(w.heap.size + 1), 3, none⟩ (.int .i64 h.g.lm)).setCell ⟨(w.heap.size + 1), 4, none⟩ (.bool h.g.en)).setCell ⟨(w.heap.size + 1), 5, none⟩ (.bool h.g.dn)).setCell ⟨(w.heap.size + 1), 6, none⟩ (.int .i64 h.t.nx)).setCell ⟨(w.heap.size + 1), 7, none⟩ (.string h.t.bs)).setCell ⟨(w.heap.size + 1), 8, none⟩ (.slice a5 h.t.l.length c5)).setCell ⟨(w.heap.size + 1), 9, none⟩ (.int .i64 h.t.cp)).setCell ⟨(w.heap.size + 1), 10, none⟩ (.int .i64 h.t.fi)).setCell ⟨(w.heap.size + 1), 11, none⟩ (.bool h.t.en)).setCell ⟨(w.heap.size + 1), 12, none⟩ (.slice a6 h.ws.length c6))) w.heap.size a5 c5 h.t.l := by
      iterate 13 (refine El.Own.setCell ?_ (fun x hx => by have := (own_win (by decide) oT v2.win x hx); exact this) _)
      exact oT
    have rW : letE.Own 39 ((((((((((((((w4.setCell ⟨(w.heap.size + 1), 0, none⟩ (.int .i64 h.g.ba)).setCell ⟨(w.heap.size + 1), 1, none⟩ (.string h.g.bs)).setCell ⟨(w.heap.size + 1), 2, none⟩ (.int .i64 h.g.cp)).setCell ⟨(w.heap.size + 1), 3, none⟩ (.int .i64 h.g.lm)).setCell ⟨(w.heap.size + 1), 4, none⟩ (.bool h.g.en)).setCell ⟨(w.heap.size + 1), 5, none⟩ (.bool h.g.dn)).setCell ⟨(w.heap.size + 1), 6, none⟩ (.int .i64 h.t.nx)).setCell ⟨(w.heap.size + 1), 7, none⟩ (.string h.t.bs)).setCell ⟨(w.heap.size + 1), 8, none⟩ (.slice a5 h.t.l.length c5)).setCell ⟨(w.heap.size + 1), 9, none⟩ (.int .i64 h.t.cp)).setCell ⟨(w.heap.size + 1), 10, none⟩ (.int .i64 h.t.fi)).setCell ⟨(w.heap.size + 1), 11, none⟩ (.bool h.t.en)).setCell ⟨(w.heap.size + 1), 12, none⟩ (.slice a6 h.ws.length c6))) w.heap.size a6 c6 h.ws := by
      iterate 13 (refine El.Own.setCell ?_ (fun x hx => by have := (own_win (by decide) oW v2.win x hx); exact this) _)
      exact oW
    have rB : Below w.heap.size w ((((((((((((((w4.setCell ⟨(w.heap.size + 1), 0, none⟩ (.int .i64 h.g.ba)).setCell ⟨(w.heap.size + 1), 1, none⟩ (.string h.g.bs)).setCell ⟨(w.heap.size + 1), 2, none⟩ (.int .i64 h.g.cp)).setCell ⟨(w.heap.size + 1), 3, none⟩ (.int .i64 h.g.lm)).setCell ⟨(w.heap.size + 1), 4, none⟩ (.bool h.g.en)).setCell ⟨(w.heap.size + 1), 5, none⟩ (.bool h.g.dn)).setCell ⟨(w.heap.size + 1), 6, none⟩ (.int .i64 h.t.nx)).setCell ⟨(w.heap.size + 1), 7, none⟩ (.string h.t.bs)).setCell ⟨(w.heap.size + 1), 8, none⟩ (.slice a5 h.t.l.length c5)).setCell ⟨(w.heap.size + 1), 9, none⟩ (.int .i64 h.t.cp)).setCell ⟨(w.heap.size + 1), 10, none⟩ (.int .i64 h.t.fi)).setCell ⟨(w.heap.size + 1), 11, none⟩ (.bool h.t.en)).setCell ⟨(w.heap.size + 1), 12, none⟩ (.slice a6 h.ws.length c6))) := by
      iterate 13 (refine Below.setCell ?_ (by dsimp only; omega) _)
      exact B4
    generalize (((((((((((((w4.setCell ⟨(w.heap.size + 1), 0, none⟩ (.int .i64 h.g.ba)).setCell ⟨(w.heap.size + 1), 1, none⟩ (.string h.g.bs)).setCell ⟨(w.heap.size + 1), 2, none⟩ (.int .i64 h.g.cp)).setCell ⟨(w.heap.size + 1), 3, none⟩ (.int .i64 h.g.lm)).setCell ⟨(w.heap.size + 1), 4, none⟩ (.bool h.g.en)).setCell ⟨(w.heap.size + 1), 5, none⟩ (.bool h.g.dn)).setCell ⟨(w.heap.size + 1), 6, none⟩ (.int .i64 h.t.nx)).setCell ⟨(w.heap.size + 1), 7, none⟩ (.string h.t.bs)).setCell ⟨(w.heap.size + 1), 8, none⟩ (.slice a5 h.t.l.length c5)).setCell ⟨(w.heap.size + 1), 9, none⟩ (.int .i64 h.t.cp)).setCell ⟨(w.heap.size + 1), 10, none⟩ (.int .i64 h.t.fi)).setCell ⟨(w.heap.size + 1), 11, none⟩ (.bool h.t.en)).setCell ⟨(w.heap.size + 1), 12, none⟩ (.slice a6 h.ws.length c6)) = W4 at *
    obtain ⟨s0, s1, s2, s3, s4, s5, s6, s7, s8, s9, s10, s11, s12⟩ := r2.c13
    refine bodyPost_ret (v := .tuple #[.agg #[.int .i64 h.g.ba, .string h.g.bs, .int .i64 h.g.cp, .int .i64 h.g.lm, .bool h.g.en, .bool h.g.dn, .int .i64 h.t.nx, .string h.t.bs, .slice a5 h.t.l.length c5, .int .i64 h.t.cp, .int .i64 h.t.fi, .bool h.t.en, .slice a6 h.ws.length c6], .bool false]) (by rw [Tak.res_cell_tmp rfl]; clear r2 rT rW rB v5 v2 oT oW e0 f0 y0 e1 f1 y1 e2 f2 y2 e3 f3 y3 e4 f4 y4 e5 f5 y5 e6 f6 y6 e7 f7 y7 e8 f8 y8 e9 f9 y9 e10 f10 y10 e11 f11 y11 e12 f12 y12; go_simp; done) rfl ⟨a5, c5, a6, c6, rfl, rT, rW, rB⟩
  obtain ⟨m, rfl⟩ : ∃ m : Nat, n = (m : Int) := ⟨n.toNat, by omega⟩
  obtain ⟨x, hx⟩ : ∃ x, h.ws[m]? = some x := ⟨h.ws[m]'(by omega), List.getElem?_eq_getElem (by omega)⟩
  have hR2 : R = (postH h x, postB h x) := hR.trans (dbl_some hx)
  rcases lW with hs | ⟨b, off, ha, hs⟩
  · rw [hs] at hn1; simp at hn1; omega
  subst ha
  have l0 : W2.cell? ⟨b, off + m * 7, none⟩ = some (.bool x.bk) := El.Lies.cell hs hx (j := 0) rfl
  have l1 : W2.cell? ⟨b, off + m * 7 + 1, none⟩ = some (.int .i64 x.rd) := El.Lies.cell hs hx (j := 1) rfl
  have l2 : W2.cell? ⟨b, off + m * 7 + 2, none⟩ = some (.int .i64 x.pl) := El.Lies.cell hs hx (j := 2) rfl
  have l3 : W2.cell? ⟨b, off + m * 7 + 3, none⟩ = some (.string x.bs) := El.Lies.cell hs hx (j := 3) rfl
  have l4 : W2.cell? ⟨b, off + m * 7 + 4, none⟩ = some (.bool x.en) := El.Lies.cell hs hx (j := 4) rfl
  have l5 : W2.cell? ⟨b, off + m * 7 + 5, none⟩ = some (.int .i64 x.lm) := El.Lies.cell hs hx (j := 5) rfl
  have l6 : W2.cell? ⟨b, off + m * 7 + 6, none⟩ = some (.bool x.dn) := El.Lies.cell hs hx (j := 6) rfl
  have hxs := hs_wb x (List.mem_of_getElem? hx)
  clear hs hx hR
  go_wp2_with fail
  refine (postLay (by decide) (by decide) k9 w1.heap.size h x _ L0 hz3 (by have := (hop_ok HHB.out).1; omega) hxs).mono ?_
  rintro e w4 ⟨rfl, L4, k4⟩
  replace v2 := k4.var v2 hV2 (by omega)
  have B4 := B3.trans (k4.below (by omega) (by omega))
  clear v1 e12 l0 l1 l2 l3 l4 l5 l6
  have hy1 : R.1 = postH h x := by rw [hR2]
  have hb1 : R.2 = postB h x := by rw [hR2]
  rw [← hy1] at L4
  rw [← hb1]
  clear hy1 hb1 hR2
  obtain ⟨y, b⟩ := R
  obtain ⟨a5, c5, a6, c6, v5, oT, oW⟩ := L4
  dsimp only at *
  replace v5 := v5.whole
  replace oT := oT.mono (B := w.heap.size) (by omega)
  replace oW := oW.mono (B := w.heap.size) (by omega)
  clear k4 B3 hb L0
  obtain ⟨e0, e1, e2, e3, e4, e5, e6, e7, e8, e9, e10, e11, e12⟩ := v5.c13
  obtain ⟨f0, f1, f2, f3, f4, f5, f6, f7, f8, f9, f10, f11, f12⟩ := v2.c13
  obtain ⟨y0, y1, y2, y3, y4, y5, y6, y7, y8, y9, y10, y11, y12⟩ := v2.f13
  go_wp2_with fail
  have r2 : Var 31 ((((((((((((((w4.setCell ⟨(w.heap.size + 1), 0, none⟩ (.int .i64 y.g.ba)).setCell ⟨(w.heap.size + 1), 1, none⟩ (.string y.g.bs)).setCell ⟨(w.heap.size + 1), 2, none⟩ (.int .i64 y.g.cp)).setCell ⟨(w.heap.size + 1), 3, none⟩ (.int .i64 y.g.lm)).setCell ⟨(w.heap.size + 1), 4, none⟩ (.bool y.g.en)).setCell ⟨(w.heap.size + 1), 5, none⟩ (.bool y.g.dn)).setCell ⟨(w.heap.size + 1), 6, none⟩ (.int .i64 y.t.nx)).setCell ⟨(w.heap.size + 1), 7, none⟩ (.string y.t.bs)).setCell ⟨(w.heap.size + 1), 8, none⟩ (.slice a5 y.t.l.length c5)).setCell ⟨(w.heap.size + 1), 9, none⟩ (.int .i64 y.t.cp)).setCell ⟨(w.heap.size + 1), 10, none⟩ (.int .i64 y.t.fi)).setCell ⟨(w.heap.size + 1), 11, none⟩ (.bool y.t.en)).setCell ⟨(w.heap.size + 1), 12, none⟩ (.slice a6 y.ws.length c6))) (w.heap.size + 1) [.int .i64 y.g.ba, .string y.g.bs, .int .i64 y.g.cp, .int .i64 y.g.lm, .bool y.g.en, .bool y.g.dn, .int .i64 y.t.nx, .string y.t.bs, .slice a5 y.t.l.length c5, .int .i64 y.t.cp, .int .i64 y.t.fi, .bool y.t.en, .slice a6 y.ws.length c6] := (((((((((((((v2.set 0 _).set 1 _).set 2 _).set 3 _).set 4 _).set 5 _).set 6 _).set 7 _).set 8 _).set 9 _).set 10 _).set 11 _).set 12 _)
  have rT : Tak.partE.Own 69 ((((((((((((((w4.setCell ⟨(w.heap.size + 1), 0, none⟩ (.int .i64 y.g.ba)).setCell ⟨(w.heap.size + 1), 1, none⟩ (.string y.g.bs)).setCell ⟨(w.heap.size + 1), 2, none⟩ (.int .i64 y.g.cp)).setCell ⟨(w.heap.size + 1), 3, none⟩ (.int .i64 y.g.lm)).setCell ⟨(w.heap.size + 1), 4, none⟩ (.bool y.g.en)).setCell ⟨(w.heap.size + 1), 5, none⟩ (.bool y.g.dn)).setCell ⟨(w.heap.size + 1), 6, none⟩ (.int .i64 y.t.nx)).setCell ⟨(w.heap.size + 1), 7, none⟩ (.string y.t.bs)).setCell ⟨(w.heap.size + 1), 8, none⟩ (.slice a5 y.t.l.length c5)).setCell ⟨(w.heap.size + 1), 9, none⟩ (.int .i64 y.t.cp)).setCell ⟨(w.heap.size + 1), 10, none⟩ (.int .i64 y.t.fi)).setCell ⟨(w.heap.size + 1), 11, none⟩ (.bool y.t.en)).setCell ⟨(w.heap.size + 1), 12, none⟩ (.slice a6 y.ws.length c6))) w.heap.size a5 c5 y.t.l := by
    iterate 13 (refine El.Own.setCell ?_ (fun x hx => by have := (own_win (by decide) oT v2.win x hx); exact this) _)
    exact oT
  have rW : letE.Own 39 ((((((((((((((w4.setCell ⟨(w.heap.size + 1), 0, none⟩ (.int .i64 y.g.ba)).setCell ⟨(w.heap.size + 1), 1, none⟩ (.string y.g.bs)).setCell ⟨(w.heap.size + 1), 2, none⟩ (.int .i64 y.g.cp)).setCell ⟨(w.heap.size + 1), 3, none⟩ (.int .i64 y.g.lm)).setCell ⟨(w.heap.size + 1), 4, none⟩ (.bool y.g.en)).setCell ⟨(w.heap.size + 1), 5, none⟩ (.bool y.g.dn)).setCell ⟨(w.heap.size + 1), 6, none⟩ (.int .i64 y.t.nx)).setCell ⟨(w.heap.size + 1), 7, none⟩ (.string y.t.bs)).setCell ⟨(w.heap.size + 1), 8, none⟩ (.slice a5 y.t.l.length c5)).setCell ⟨(w.heap.size + 1), 9, none⟩ (.int .i64 y.t.cp)).setCell ⟨(w.heap.size + 1), 10, none⟩ (.int .i64 y.t.fi)).setCell ⟨(w.heap.size + 1), 11, none⟩ (.bool y.t.en)).setCell ⟨(w.heap.size + 1), 12, none⟩ (.slice a6 y.ws.length c6))) w.heap.size a6 c6 y.ws := by
    iterate 13 (refine El.Own.setCell ?_ (fun x hx => by have := (own_win (by decide) oW v2.win x hx); exact this) _)
    exact oW
  have rB : Below w.heap.size w ((((((((((((((w4.setCell ⟨(w.heap.size + 1), 0, none⟩ (.int .i64 y.g.ba)).setCell ⟨(w.heap.size + 1), 1, none⟩ (.string y.g.bs)).setCell ⟨(w.heap.size + 1), 2, none⟩ (.int .i64 y.g.cp)).setCell ⟨(w.heap.size + 1), 3, none⟩ (.int .i64 y.g.lm)).setCell ⟨(w.heap.size + 1), 4, none⟩ (.bool y.g.en)).setCell ⟨(w.heap.size + 1), 5, none⟩ (.bool y.g.dn)).setCell ⟨(w.heap.size + 1), 6, none⟩ (.int .i64 y.t.nx)).setCell ⟨(w.heap.size + 1), 7, none⟩ (.string y.t.bs)).setCell ⟨(w.heap.size + 1), 8, none⟩ (.slice a5 y.t.l.length c5)).setCell ⟨(w.heap.size + 1), 9, none⟩ (.int .i64 y.t.cp)).setCell ⟨(w.heap.size + 1), 10, none⟩ (.int .i64 y.t.fi)).setCell ⟨(w.heap.size + 1), 11, none⟩ (.bool y.t.en)).setCell ⟨(w.heap.size + 1), 12, none⟩ (.slice a6 y.ws.length c6))) := by
    iterate 13 (refine Below.setCell ?_ (by dsimp only; omega) _)
    exact B4
  generalize (((((((((((((w4.setCell ⟨(w.heap.size + 1), 0, none⟩ (.int .i64 y.g.ba)).setCell ⟨(w.heap.size + 1), 1, none⟩ (.string y.g.bs)).setCell ⟨(w.heap.size + 1), 2, none⟩ (.int .i64 y.g.cp)).setCell ⟨(w.heap.size + 1), 3, none⟩ (.int .i64 y.g.lm)).setCell ⟨(w.heap.size + 1), 4, none⟩ (.bool y.g.en)).setCell ⟨(w.heap.size + 1), 5, none⟩ (.bool y.g.dn)).setCell ⟨(w.heap.size + 1), 6, none⟩ (.int .i64 y.t.nx)).setCell ⟨(w.heap.size + 1), 7, none⟩ (.string y.t.bs)).setCell ⟨(w.heap.size + 1), 8, none⟩ (.slice a5 y.t.l.length c5)).setCell ⟨(w.heap.size + 1), 9, none⟩ (.int .i64 y.t.cp)).setCell ⟨(w.heap.size + 1), 10, none⟩ (.int .i64 y.t.fi)).setCell ⟨(w.heap.size + 1), 11, none⟩ (.bool y.t.en)).setCell ⟨(w.heap.size + 1), 12, none⟩ (.slice a6 y.ws.length c6)) = W4 at *
  obtain ⟨s0, s1, s2, s3, s4, s5, s6, s7, s8, s9, s10, s11, s12⟩ := r2.c13
  refine bodyPost_ret (v := .tuple #[.agg #[.int .i64 y.g.ba, .string y.g.bs, .int .i64 y.g.cp, .int .i64 y.g.lm, .bool y.g.en, .bool y.g.dn, .int .i64 y.t.nx, .string y.t.bs, .slice a5 y.t.l.length c5, .int .i64 y.t.cp, .int .i64 y.t.fi, .bool y.t.en, .slice a6 y.ws.length c6], .bool b]) (by rw [Tak.res_cell_tmp rfl]; clear r2 rT rW rB v5 v2 oT oW e0 f0 y0 e1 f1 y1 e2 f2 y2 e3 f3 y3 e4 f4 y4 e5 f5 y5 e6 f6 y6 e7 f7 y7 e8 f8 y8 e9 f9 y9 e10 f10 y10 e11 f11 y11 e12 f12 y12; go_simp; done) rfl ⟨a5, c5, a6, c6, rfl, rT, rW, rB⟩

end Go.Proofs.YtjnkjeajkmgcmaaGreat.Hop
