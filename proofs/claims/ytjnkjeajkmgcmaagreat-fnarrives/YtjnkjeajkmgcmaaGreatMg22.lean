/- The program's delivered, of a letter that goes forth; of hops that are not too great. · The program's delivered, of a letter that goes back; of hops that are not too great. -/
import Derived.Test.YtjnkjeajkmgcmaaGreatMg13
import Derived.Test.YtjnkjeajkmgcmaaGreatMg21
namespace Go.Proofs.YtjnkjeajkmgcmaaGreat.Hop
open Go.RowKit RowG
set_option linter.unusedVariables false
set_option linter.unusedSimpArgs false

set_option maxRecDepth 10000 in
set_option maxHeartbeats 8000000 in
theorem deliveredForth (sortNil : ∀ (cap : Nat) (fv : Value) (w : World), Calls Tryz.prog 99 #[.slice none 0 cap, fv] w fun e w' => e = .returned (.tuple #[]) ∧ w' = w)
    (h : Hp) (aT : Option Addr) (cT : Nat) (aW : Option Addr) (cW : Nat) (p : Int) (bz : ByteArray) (en : Bool) (w : World) (hT : Tak.partE.Lies w aT h.t.l) (hnT : aT = none → cT = 0) (hs : h.Sm) (hz : bz.size ≤ 1048576) :
    Calls Tryz.prog 25 #[h.v aT cT aW cW, .iface 85 (.agg #[.int .i64 p, .string bz, .bool en])] w fun e w' => ∃ a5 c5, e = .returned ((⟨h.g, (Tak.takes h.t p bz en).1, h.ws⟩ : Hp).v a5 c5 aW cW) ∧ Tak.partE.Own 69 w' w.heap.size a5 c5 (Tak.takes h.t p bz en).1.l ∧ Below w.heap.size w w' := by
  have v1 : Var 31 ((w.alloc (.cells #[.int .i64 h.g.ba, .string h.g.bs, .int .i64 h.g.cp, .int .i64 h.g.lm, .bool h.g.en, .bool h.g.dn, .int .i64 h.t.nx, .string h.t.bs, .slice aT h.t.l.length cT, .int .i64 h.t.cp, .int .i64 h.t.fi, .bool h.t.en, .slice aW h.ws.length cW] 31)).alloc (.cells #[.int .i64 0, .string ⟨#[]⟩, .int .i64 0, .int .i64 0, .bool false, .bool false, .int .i64 0, .string ⟨#[]⟩, .slice none 0 0, .int .i64 0, .int .i64 0, .bool false, .slice none 0 0] 31)) w.heap.size [.int .i64 h.g.ba, .string h.g.bs, .int .i64 h.g.cp, .int .i64 h.g.lm, .bool h.g.en, .bool h.g.dn, .int .i64 h.t.nx, .string h.t.bs, .slice aT h.t.l.length cT, .int .i64 h.t.cp, .int .i64 h.t.fi, .bool h.t.en, .slice aW h.ws.length cW] := (Var.new w [.int .i64 h.g.ba, .string h.g.bs, .int .i64 h.g.cp, .int .i64 h.g.lm, .bool h.g.en, .bool h.g.dn, .int .i64 h.t.nx, .string h.t.bs, .slice aT h.t.l.length cT, .int .i64 h.t.cp, .int .i64 h.t.fi, .bool h.t.en, .slice aW h.ws.length cW]).alloc _
  have v2 : Var 31 ((w.alloc (.cells #[.int .i64 h.g.ba, .string h.g.bs, .int .i64 h.g.cp, .int .i64 h.g.lm, .bool h.g.en, .bool h.g.dn, .int .i64 h.t.nx, .string h.t.bs, .slice aT h.t.l.length cT, .int .i64 h.t.cp, .int .i64 h.t.fi, .bool h.t.en, .slice aW h.ws.length cW] 31)).alloc (.cells #[.int .i64 0, .string ⟨#[]⟩, .int .i64 0, .int .i64 0, .bool false, .bool false, .int .i64 0, .string ⟨#[]⟩, .slice none 0 0, .int .i64 0, .int .i64 0, .bool false, .slice none 0 0] 31)) (w.heap.size + 1) [.int .i64 0, .string ⟨#[]⟩, .int .i64 0, .int .i64 0, .bool false, .bool false, .int .i64 0, .string ⟨#[]⟩, .slice none 0 0, .int .i64 0, .int .i64 0, .bool false, .slice none 0 0] := by
    have q := Var.new (T := 31) (w.alloc (.cells #[.int .i64 h.g.ba, .string h.g.bs, .int .i64 h.g.cp, .int .i64 h.g.lm, .bool h.g.en, .bool h.g.dn, .int .i64 h.t.nx, .string h.t.bs, .slice aT h.t.l.length cT, .int .i64 h.t.cp, .int .i64 h.t.fi, .bool h.t.en, .slice aW h.ws.length cW] 31)) [.int .i64 0, .string ⟨#[]⟩, .int .i64 0, .int .i64 0, .bool false, .bool false, .int .i64 0, .string ⟨#[]⟩, .slice none 0 0, .int .i64 0, .int .i64 0, .bool false, .slice none 0 0]
    simpa using q
  have b0 : Below w.heap.size w ((w.alloc (.cells #[.int .i64 h.g.ba, .string h.g.bs, .int .i64 h.g.cp, .int .i64 h.g.lm, .bool h.g.en, .bool h.g.dn, .int .i64 h.t.nx, .string h.t.bs, .slice aT h.t.l.length cT, .int .i64 h.t.cp, .int .i64 h.t.fi, .bool h.t.en, .slice aW h.ws.length cW] 31)).alloc (.cells #[.int .i64 0, .string ⟨#[]⟩, .int .i64 0, .int .i64 0, .bool false, .bool false, .int .i64 0, .string ⟨#[]⟩, .slice none 0 0, .int .i64 0, .int .i64 0, .bool false, .slice none 0 0] 31)) := ((Below.refl _ _).alloc (Nat.le_refl _) _).alloc (by simp) _
  have lT := hT.later b0
  have hIT := fun w' l' => Tak.implTakes sortNil h.t.nx h.t.bs aT h.t.l.length cT h.t.cp h.t.fi h.t.en h.t.l p bz en w' rfl l' (by have := hs.tl; omega) hs.tb hs.bd hnT hz
  have HIT : Hid _ := hIT
  have hta := fun (w' : World) => asForth (.agg #[.int .i64 p, .string bz, .bool en]) 53 w'
  clear hIT
  try dsimp only
  go_enter Tryz.func25, Tryz.ntmps25
  go_upto_region 1 with (fail)
  generalize (w.alloc (.cells #[.int .i64 h.g.ba, .string h.g.bs, .int .i64 h.g.cp, .int .i64 h.g.lm, .bool h.g.en, .bool h.g.dn, .int .i64 h.t.nx, .string h.t.bs, .slice aT h.t.l.length cT, .int .i64 h.t.cp, .int .i64 h.t.fi, .bool h.t.en, .slice aW h.ws.length cW] 31)).alloc (.cells #[.int .i64 0, .string ⟨#[]⟩, .int .i64 0, .int .i64 0, .bool false, .bool false, .int .i64 0, .string ⟨#[]⟩, .slice none 0 0, .int .i64 0, .int .i64 0, .bool false, .slice none 0 0] 31) = V at *
  have hV1 : w.heap.size < V.heap.size := v1.lt
  have hV2 : w.heap.size + 1 < V.heap.size := v2.lt
  replace v1 := v1.alloc (.cells #[.int .i64 p, .string bz, .bool en] 85)
  replace v2 := v2.alloc (.cells #[.int .i64 p, .string bz, .bool en] 85)
  have v5 : Var 85 (V.alloc (.cells #[.int .i64 p, .string bz, .bool en] 85)) V.heap.size [.int .i64 p, .string bz, .bool en] := Var.new V _
  have b1 := b0.alloc b0.size (.cells #[.int .i64 p, .string bz, .bool en] 85)
  replace lT := lT.alloc (.cells #[.int .i64 p, .string bz, .bool en] 85)
  clear b0
  go_upto_region 4 with (fail)
  generalize V.alloc (.cells #[.int .i64 p, .string bz, .bool en] 85) = V1 at *
  generalize V.heap.size = k5 at *
  obtain ⟨e0, e1, e2, e3, e4, e5, e6, e7, e8, e9, e10, e11, e12⟩ := v1.c13
  have d0 := v5.cell (i := 0) rfl
  have d1 := v5.cell (i := 1) rfl
  have d2 := v5.cell (i := 2) rfl
  go_wp2_with fail
  refine (HIT.out _ lT).mono ?_
  rintro e w1 ⟨a5, c5, rfl, oT, b2⟩
  replace v1 := v1.later b2
  replace v2 := v2.later b2
  have B2 := b1.trans (b2.mono b1.size)
  replace oT := oT.mono b1.size
  clear HIT b2 b1 lT v5 e0 e1 e2 e3 e4 e5 e6 e7 e8 e9 e10 e11 e12 d0 d1 d2
  generalize hyE : (Tak.takes ⟨h.t.nx, h.t.bs, h.t.l, h.t.cp, h.t.fi, h.t.en⟩ p bz en).1 = y at *
  have HY : Hid ((Tak.takes h.t p bz en).1 = y) := hyE
  clear hyE
  generalize (Tak.takes ⟨h.t.nx, h.t.bs, h.t.l, h.t.cp, h.t.fi, h.t.en⟩ p bz en).2 = yb at *
  dsimp only [Tak.Tk.v]
  obtain ⟨e0, e1, e2, e3, e4, e5, e6, e7, e8, e9, e10, e11, e12⟩ := v1.c13
  have y6 := v1.free 6
  have y7 := v1.free 7
  have y8 := v1.free 8
  have y9 := v1.free 9
  have y10 := v1.free 10
  have y11 := v1.free 11
  have u1 := var_part [.int .i64 y.nx, .string y.bs, .slice a5 y.l.length c5, .int .i64 y.cp, .int .i64 y.fi, .bool y.en] 6 w1 [.int .i64 h.g.ba, .string h.g.bs, .int .i64 h.g.cp, .int .i64 h.g.lm, .bool h.g.en, .bool h.g.dn] [.int .i64 h.t.nx, .string h.t.bs, .slice aT h.t.l.length cT, .int .i64 h.t.cp, .int .i64 h.t.fi, .bool h.t.en] [.slice aW h.ws.length cW] v1 rfl rfl
  have u2 := var_other6 (k := w.heap.size + 1) (j := w.heap.size) (by omega) [.int .i64 y.nx, .string y.bs, .slice a5 y.l.length c5, .int .i64 y.cp, .int .i64 y.fi, .bool y.en] 6 w1 v2
  have o2 := own_all (k := w.heap.size) (own_win (by decide) oT v1.win) [.int .i64 y.nx, .string y.bs, .slice a5 y.l.length c5, .int .i64 y.cp, .int .i64 y.fi, .bool y.en] 6 w1 oT
  have B3 := below_all (k := w.heap.size) (Nat.le_refl _) [.int .i64 y.nx, .string y.bs, .slice a5 y.l.length c5, .int .i64 y.cp, .int .i64 y.fi, .bool y.en] 6 w1 B2
  simp only [World.setCells, Nat.reduceAdd, List.cons_append, List.nil_append] at u1 u2 o2 B3
  go_upto_region 8 with (fail)
  generalize ((((((w1.setCell ⟨w.heap.size, 6, none⟩ (.int .i64 y.nx)).setCell ⟨w.heap.size, 7, none⟩ (.string y.bs)).setCell ⟨w.heap.size, 8, none⟩ (.slice a5 y.l.length c5)).setCell ⟨w.heap.size, 9, none⟩ (.int .i64 y.cp)).setCell ⟨w.heap.size, 10, none⟩ (.int .i64 y.fi)).setCell ⟨w.heap.size, 11, none⟩ (.bool y.en)) = w2 at *
  clear e0 e1 e2 e3 e4 e5 e6 e7 e8 e9 e10 e11 e12 y6 y7 y8 y9 y10 y11 v1 v2 oT B2
  have v2 := u2
  obtain ⟨e0, e1, e2, e3, e4, e5, e6, e7, e8, e9, e10, e11, e12⟩ := u1.c13
  obtain ⟨f0, f1, f2, f3, f4, f5, f6, f7, f8, f9, f10, f11, f12⟩ := v2.c13
  obtain ⟨y0, y1, y2, y3, y4, y5, y6, y7, y8, y9, y10, y11, y12⟩ := v2.f13
  go_wp2_with fail
  have r2 := var_all v2 [.int .i64 h.g.ba, .string h.g.bs, .int .i64 h.g.cp, .int .i64 h.g.lm, .bool h.g.en, .bool h.g.dn, .int .i64 y.nx, .string y.bs, .slice a5 y.l.length c5, .int .i64 y.cp, .int .i64 y.fi, .bool y.en, .slice aW h.ws.length cW] rfl
  have rT := own_all (k := w.heap.size + 1) (own_win (by decide) o2 v2.win) [.int .i64 h.g.ba, .string h.g.bs, .int .i64 h.g.cp, .int .i64 h.g.lm, .bool h.g.en, .bool h.g.dn, .int .i64 y.nx, .string y.bs, .slice a5 y.l.length c5, .int .i64 y.cp, .int .i64 y.fi, .bool y.en, .slice aW h.ws.length cW] 0 w2 o2
  have rB := below_all (k := w.heap.size + 1) (by omega) [.int .i64 h.g.ba, .string h.g.bs, .int .i64 h.g.cp, .int .i64 h.g.lm, .bool h.g.en, .bool h.g.dn, .int .i64 y.nx, .string y.bs, .slice a5 y.l.length c5, .int .i64 y.cp, .int .i64 y.fi, .bool y.en, .slice aW h.ws.length cW] 0 w2 B3
  simp only [World.setCells, Nat.reduceAdd] at r2 rT rB
  generalize (((((((((((((w2.setCell ⟨(w.heap.size + 1), 0, none⟩ (.int .i64 h.g.ba)).setCell ⟨(w.heap.size + 1), 1, none⟩ (.string h.g.bs)).setCell ⟨(w.heap.size + 1), 2, none⟩ (.int .i64 h.g.cp)).setCell ⟨(w.heap.size + 1), 3, none⟩ (.int .i64 h.g.lm)).setCell ⟨(w.heap.size + 1), 4, none⟩ (.bool h.g.en)).setCell ⟨(w.heap.size + 1), 5, none⟩ (.bool h.g.dn)).setCell ⟨(w.heap.size + 1), 6, none⟩ (.int .i64 y.nx)).setCell ⟨(w.heap.size + 1), 7, none⟩ (.string y.bs)).setCell ⟨(w.heap.size + 1), 8, none⟩ (.slice a5 y.l.length c5)).setCell ⟨(w.heap.size + 1), 9, none⟩ (.int .i64 y.cp)).setCell ⟨(w.heap.size + 1), 10, none⟩ (.int .i64 y.fi)).setCell ⟨(w.heap.size + 1), 11, none⟩ (.bool y.en)).setCell ⟨(w.heap.size + 1), 12, none⟩ (.slice aW h.ws.length cW)) = w4 at *
  obtain ⟨s0, s1, s2, s3, s4, s5, s6, s7, s8, s9, s10, s11, s12⟩ := r2.c13
  exact bodyPost_ret (v := .agg #[.int .i64 h.g.ba, .string h.g.bs, .int .i64 h.g.cp, .int .i64 h.g.lm, .bool h.g.en, .bool h.g.dn, .int .i64 y.nx, .string y.bs, .slice a5 y.l.length c5, .int .i64 y.cp, .int .i64 y.fi, .bool y.en, .slice aW h.ws.length cW]) (by rw [res_one rfl]; clear r2 rT rB u1 u2 v2 o2 B3 e0 e1 e2 e3 e4 e5 e6 e7 e8 e9 e10 e11 e12 f0 f1 f2 f3 f4 f5 f6 f7 f8 f9 f10 f11 f12 y0 y1 y2 y3 y4 y5 y6 y7 y8 y9 y10 y11 y12; go_simp; done) rfl ⟨a5, c5, by rw [HY.out], by rw [HY.out]; exact rT, rB⟩

end Go.Proofs.YtjnkjeajkmgcmaaGreat.Hop

namespace Go.Proofs.YtjnkjeajkmgcmaaGreat.Hop
open Go.RowKit RowG
set_option linter.unusedVariables false
set_option linter.unusedSimpArgs false

set_option maxRecDepth 10000 in
set_option maxHeartbeats 8000000 in
theorem deliveredBack (h : Hp) (aT : Option Addr) (cT : Nat) (aW : Option Addr) (cW : Nat) (p lm : Int) (dn : Bool) (w : World) (hs : h.Sm) :
    Calls Tryz.prog 25 #[h.v aT cT aW cW, .iface 83 (.agg #[.int .i64 p, .int .i64 lm, .bool dn])] w fun e w' => e = .returned ((⟨(Giv.hearsG h.g p lm dn).1, h.t, h.ws⟩ : Hp).v aT cT aW cW) ∧ Below w.heap.size w w' := by
  have v1 : Var 31 ((w.alloc (.cells #[.int .i64 h.g.ba, .string h.g.bs, .int .i64 h.g.cp, .int .i64 h.g.lm, .bool h.g.en, .bool h.g.dn, .int .i64 h.t.nx, .string h.t.bs, .slice aT h.t.l.length cT, .int .i64 h.t.cp, .int .i64 h.t.fi, .bool h.t.en, .slice aW h.ws.length cW] 31)).alloc (.cells #[.int .i64 0, .string ⟨#[]⟩, .int .i64 0, .int .i64 0, .bool false, .bool false, .int .i64 0, .string ⟨#[]⟩, .slice none 0 0, .int .i64 0, .int .i64 0, .bool false, .slice none 0 0] 31)) w.heap.size [.int .i64 h.g.ba, .string h.g.bs, .int .i64 h.g.cp, .int .i64 h.g.lm, .bool h.g.en, .bool h.g.dn, .int .i64 h.t.nx, .string h.t.bs, .slice aT h.t.l.length cT, .int .i64 h.t.cp, .int .i64 h.t.fi, .bool h.t.en, .slice aW h.ws.length cW] := (Var.new w [.int .i64 h.g.ba, .string h.g.bs, .int .i64 h.g.cp, .int .i64 h.g.lm, .bool h.g.en, .bool h.g.dn, .int .i64 h.t.nx, .string h.t.bs, .slice aT h.t.l.length cT, .int .i64 h.t.cp, .int .i64 h.t.fi, .bool h.t.en, .slice aW h.ws.length cW]).alloc _
  have v2 : Var 31 ((w.alloc (.cells #[.int .i64 h.g.ba, .string h.g.bs, .int .i64 h.g.cp, .int .i64 h.g.lm, .bool h.g.en, .bool h.g.dn, .int .i64 h.t.nx, .string h.t.bs, .slice aT h.t.l.length cT, .int .i64 h.t.cp, .int .i64 h.t.fi, .bool h.t.en, .slice aW h.ws.length cW] 31)).alloc (.cells #[.int .i64 0, .string ⟨#[]⟩, .int .i64 0, .int .i64 0, .bool false, .bool false, .int .i64 0, .string ⟨#[]⟩, .slice none 0 0, .int .i64 0, .int .i64 0, .bool false, .slice none 0 0] 31)) (w.heap.size + 1) [.int .i64 0, .string ⟨#[]⟩, .int .i64 0, .int .i64 0, .bool false, .bool false, .int .i64 0, .string ⟨#[]⟩, .slice none 0 0, .int .i64 0, .int .i64 0, .bool false, .slice none 0 0] := by
    have q := Var.new (T := 31) (w.alloc (.cells #[.int .i64 h.g.ba, .string h.g.bs, .int .i64 h.g.cp, .int .i64 h.g.lm, .bool h.g.en, .bool h.g.dn, .int .i64 h.t.nx, .string h.t.bs, .slice aT h.t.l.length cT, .int .i64 h.t.cp, .int .i64 h.t.fi, .bool h.t.en, .slice aW h.ws.length cW] 31)) [.int .i64 0, .string ⟨#[]⟩, .int .i64 0, .int .i64 0, .bool false, .bool false, .int .i64 0, .string ⟨#[]⟩, .slice none 0 0, .int .i64 0, .int .i64 0, .bool false, .slice none 0 0]
    simpa using q
  have b0 : Below w.heap.size w ((w.alloc (.cells #[.int .i64 h.g.ba, .string h.g.bs, .int .i64 h.g.cp, .int .i64 h.g.lm, .bool h.g.en, .bool h.g.dn, .int .i64 h.t.nx, .string h.t.bs, .slice aT h.t.l.length cT, .int .i64 h.t.cp, .int .i64 h.t.fi, .bool h.t.en, .slice aW h.ws.length cW] 31)).alloc (.cells #[.int .i64 0, .string ⟨#[]⟩, .int .i64 0, .int .i64 0, .bool false, .bool false, .int .i64 0, .string ⟨#[]⟩, .slice none 0 0, .int .i64 0, .int .i64 0, .bool false, .slice none 0 0] 31)) := ((Below.refl _ _).alloc (Nat.le_refl _) _).alloc (by simp) _
  have hIT := fun w' => Giv.implHears h.g p lm dn w' hs.gb
  have HIT : Hid _ := hIT
  have hta := fun (w' : World) => asForthNo (.agg #[.int .i64 p, .int .i64 lm, .bool dn]) 53 w'
  have htb := fun (w' : World) => asBack (.agg #[.int .i64 p, .int .i64 lm, .bool dn]) 53 w'
  clear hIT
  try dsimp only
  go_enter Tryz.func25, Tryz.ntmps25
  go_upto_region 1 with (fail)
  generalize (w.alloc (.cells #[.int .i64 h.g.ba, .string h.g.bs, .int .i64 h.g.cp, .int .i64 h.g.lm, .bool h.g.en, .bool h.g.dn, .int .i64 h.t.nx, .string h.t.bs, .slice aT h.t.l.length cT, .int .i64 h.t.cp, .int .i64 h.t.fi, .bool h.t.en, .slice aW h.ws.length cW] 31)).alloc (.cells #[.int .i64 0, .string ⟨#[]⟩, .int .i64 0, .int .i64 0, .bool false, .bool false, .int .i64 0, .string ⟨#[]⟩, .slice none 0 0, .int .i64 0, .int .i64 0, .bool false, .slice none 0 0] 31) = V at *
  have hV1 : w.heap.size < V.heap.size := v1.lt
  have hV2 : w.heap.size + 1 < V.heap.size := v2.lt
  replace v1 := v1.alloc (.cells #[.int .i64 p, .int .i64 lm, .bool dn] 83)
  replace v2 := v2.alloc (.cells #[.int .i64 p, .int .i64 lm, .bool dn] 83)
  have v5 : Var 83 (V.alloc (.cells #[.int .i64 p, .int .i64 lm, .bool dn] 83)) V.heap.size [.int .i64 p, .int .i64 lm, .bool dn] := Var.new V _
  have b1 := b0.alloc b0.size (.cells #[.int .i64 p, .int .i64 lm, .bool dn] 83)
  clear b0
  go_upto_region 7 with (fail)
  generalize V.alloc (.cells #[.int .i64 p, .int .i64 lm, .bool dn] 83) = V1 at *
  generalize V.heap.size = k5 at *
  obtain ⟨e0, e1, e2, e3, e4, e5, e6, e7, e8, e9, e10, e11, e12⟩ := v1.c13
  have d0 := v5.cell (i := 0) rfl
  have d1 := v5.cell (i := 1) rfl
  have d2 := v5.cell (i := 2) rfl
  go_wp2_with fail
  refine (HIT.out _).mono ?_
  rintro e w1 ⟨rfl, b2⟩
  replace v1 := v1.later b2
  replace v2 := v2.later b2
  have B2 := b1.trans (b2.mono b1.size)
  clear HIT b2 b1 v5 e0 e1 e2 e3 e4 e5 e6 e7 e8 e9 e10 e11 e12 d0 d1 d2
  generalize hyE : (Giv.hearsG h.g p lm dn).1 = y at *
  have HY : Hid _ := hyE
  clear hyE
  generalize (Giv.hearsG h.g p lm dn).2 = yb at *
  obtain ⟨e0, e1, e2, e3, e4, e5, e6, e7, e8, e9, e10, e11, e12⟩ := v1.c13
  obtain ⟨y0, y1, y2, y3, y4, y5⟩ := v1.f6
  have u1 := var_part [.int .i64 y.ba, .string y.bs, .int .i64 y.cp, .int .i64 y.lm, .bool y.en, .bool y.dn] 0 w1 [] [.int .i64 h.g.ba, .string h.g.bs, .int .i64 h.g.cp, .int .i64 h.g.lm, .bool h.g.en, .bool h.g.dn] [.int .i64 h.t.nx, .string h.t.bs, .slice aT h.t.l.length cT, .int .i64 h.t.cp, .int .i64 h.t.fi, .bool h.t.en, .slice aW h.ws.length cW] v1 rfl rfl
  have u2 := var_other6 (k := w.heap.size + 1) (j := w.heap.size) (by omega) [.int .i64 y.ba, .string y.bs, .int .i64 y.cp, .int .i64 y.lm, .bool y.en, .bool y.dn] 0 w1 v2
  have B3 := below_all (k := w.heap.size) (Nat.le_refl _) [.int .i64 y.ba, .string y.bs, .int .i64 y.cp, .int .i64 y.lm, .bool y.en, .bool y.dn] 0 w1 B2
  simp only [World.setCells, Nat.reduceAdd, List.cons_append, List.nil_append] at u1 u2 B3
  go_upto_region 8 with (fail)
  generalize ((((((w1.setCell ⟨w.heap.size, 0, none⟩ (.int .i64 y.ba)).setCell ⟨w.heap.size, 1, none⟩ (.string y.bs)).setCell ⟨w.heap.size, 2, none⟩ (.int .i64 y.cp)).setCell ⟨w.heap.size, 3, none⟩ (.int .i64 y.lm)).setCell ⟨w.heap.size, 4, none⟩ (.bool y.en)).setCell ⟨w.heap.size, 5, none⟩ (.bool y.dn)) = w2 at *
  clear e0 e1 e2 e3 e4 e5 e6 e7 e8 e9 e10 e11 e12 y0 y1 y2 y3 y4 y5 v1 v2 B2
  have v2 := u2
  obtain ⟨e0, e1, e2, e3, e4, e5, e6, e7, e8, e9, e10, e11, e12⟩ := u1.c13
  obtain ⟨f0, f1, f2, f3, f4, f5, f6, f7, f8, f9, f10, f11, f12⟩ := v2.c13
  obtain ⟨y0, y1, y2, y3, y4, y5, y6, y7, y8, y9, y10, y11, y12⟩ := v2.f13
  go_wp2_with fail
  have r2 := var_all v2 [.int .i64 y.ba, .string y.bs, .int .i64 y.cp, .int .i64 y.lm, .bool y.en, .bool y.dn, .int .i64 h.t.nx, .string h.t.bs, .slice aT h.t.l.length cT, .int .i64 h.t.cp, .int .i64 h.t.fi, .bool h.t.en, .slice aW h.ws.length cW] rfl
  have rB := below_all (k := w.heap.size + 1) (by omega) [.int .i64 y.ba, .string y.bs, .int .i64 y.cp, .int .i64 y.lm, .bool y.en, .bool y.dn, .int .i64 h.t.nx, .string h.t.bs, .slice aT h.t.l.length cT, .int .i64 h.t.cp, .int .i64 h.t.fi, .bool h.t.en, .slice aW h.ws.length cW] 0 w2 B3
  simp only [World.setCells, Nat.reduceAdd] at r2 rB
  generalize (((((((((((((w2.setCell ⟨(w.heap.size + 1), 0, none⟩ (.int .i64 y.ba)).setCell ⟨(w.heap.size + 1), 1, none⟩ (.string y.bs)).setCell ⟨(w.heap.size + 1), 2, none⟩ (.int .i64 y.cp)).setCell ⟨(w.heap.size + 1), 3, none⟩ (.int .i64 y.lm)).setCell ⟨(w.heap.size + 1), 4, none⟩ (.bool y.en)).setCell ⟨(w.heap.size + 1), 5, none⟩ (.bool y.dn)).setCell ⟨(w.heap.size + 1), 6, none⟩ (.int .i64 h.t.nx)).setCell ⟨(w.heap.size + 1), 7, none⟩ (.string h.t.bs)).setCell ⟨(w.heap.size + 1), 8, none⟩ (.slice aT h.t.l.length cT)).setCell ⟨(w.heap.size + 1), 9, none⟩ (.int .i64 h.t.cp)).setCell ⟨(w.heap.size + 1), 10, none⟩ (.int .i64 h.t.fi)).setCell ⟨(w.heap.size + 1), 11, none⟩ (.bool h.t.en)).setCell ⟨(w.heap.size + 1), 12, none⟩ (.slice aW h.ws.length cW)) = w4 at *
  obtain ⟨s0, s1, s2, s3, s4, s5, s6, s7, s8, s9, s10, s11, s12⟩ := r2.c13
  exact bodyPost_ret (v := .agg #[.int .i64 y.ba, .string y.bs, .int .i64 y.cp, .int .i64 y.lm, .bool y.en, .bool y.dn, .int .i64 h.t.nx, .string h.t.bs, .slice aT h.t.l.length cT, .int .i64 h.t.cp, .int .i64 h.t.fi, .bool h.t.en, .slice aW h.ws.length cW]) (by rw [res_one rfl]; clear r2 rB u1 u2 v2 B3 e0 e1 e2 e3 e4 e5 e6 e7 e8 e9 e10 e11 e12 f0 f1 f2 f3 f4 f5 f6 f7 f8 f9 f10 f11 f12 y0 y1 y2 y3 y4 y5 y6 y7 y8 y9 y10 y11 y12; go_simp; done) rfl ⟨by rw [HY.out], rB⟩

end Go.Proofs.YtjnkjeajkmgcmaaGreat.Hop
