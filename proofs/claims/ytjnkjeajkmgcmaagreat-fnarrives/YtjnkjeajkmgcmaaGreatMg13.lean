/- The program's isUnderWay, takenOut, delivered; of hops that are not too great. · The specification's l7Out, through a pointer into whatever block; at most 2^19 letters. -/
import Derived.Test.YtjnkjeajkmgcmaaGreatMg8
import Derived.Test.YtjnkjeajkmgcmaaGreatHopP
import Derived.Test.YtjnkjeajkmgcmaaGreatMg10
import Derived.Test.YtjnkjeajkmgcmaaGreatGivT
namespace Go.Proofs.YtjnkjeajkmgcmaaGreat.Hop
open Go.RowKit RowG
set_option linter.unusedVariables false
set_option linter.unusedSimpArgs false

theorem var_part {T : TypeId} {k : Nat} : ∀ (vs : List Value) (o : Nat) (w : World) (p m q : List Value), Var T w k (p ++ m ++ q) → p.length = o → m.length = vs.length → Var T (w.setCells k o vs) k (p ++ vs ++ q)
  | [], o, w, p, m, q, h, hp, hm => by
    have : m = [] := List.eq_nil_of_length_eq_zero hm
    subst this
    exact h
  | v :: vs, o, w, p, m, q, h, hp, hm => by
    cases m with
    | nil => simp at hm
    | cons u m =>
      have h1 := h.set o v
      have e : (p ++ u :: m ++ q).set o v = (p ++ [v]) ++ m ++ q := by
        subst hp
        simp
      rw [e] at h1
      have := var_part vs (o + 1) _ (p ++ [v]) m q h1 (by simp [hp]) (by simpa using hm)
      simpa [World.setCells] using this
theorem var_all {T : TypeId} {w : World} {k : Nat} {vs0 : List Value} (h : Var T w k vs0) (vs : List Value) (hl : vs0.length = vs.length) : Var T (w.setCells k 0 vs) k vs := by
  have := var_part vs 0 w [] vs0 [] (by simpa using h) rfl hl
  simpa using this
theorem below_all {B k : Nat} {w0 : World} (hk : B ≤ k) : ∀ (vs : List Value) (o : Nat) (w : World), Below B w0 w → Below B w0 (w.setCells k o vs)
  | [], _, _, h => h
  | v :: vs, o, w, h => below_all hk vs (o + 1) _ (h.setCell (p := ⟨k, o, none⟩) hk v)
theorem own_all {α : Type} {E : El α} {T : TypeId} {B k : Nat} {a : Option Addr} {c : Nat} {l : List α} (hk : ∀ x, a = some x → x.block ≠ k) : ∀ (vs : List Value) (o : Nat) (w : World), E.Own T w B a c l → E.Own T (w.setCells k o vs) B a c l
  | [], _, _, h => h
  | v :: vs, o, w, h => own_all hk vs (o + 1) _ (h.setCell (p := ⟨k, o, none⟩) hk v)
theorem kept_cells2 {g k : Nat} {w0 : World} (hk : w0.heap.size ≤ k) : ∀ (vs : List Value) (o : Nat) (w : World), Draw.Kept g w0 w → Draw.Kept g w0 (w.setCells k o vs)
  | [], _, _, h => h
  | v :: vs, o, w, h => kept_cells2 hk vs (o + 1) _ (h.setCell (p := ⟨k, o, none⟩) (.inr hk) v)
theorem var_other6 {T : TypeId} {k j : Nat} {us : List Value} (hk : k ≠ j) : ∀ (vs : List Value) (o : Nat) (w : World), Var T w k us → Var T (w.setCells j o vs) k us
  | [], _, _, h => h
  | v :: vs, o, w, h => var_other6 hk vs (o + 1) _ (h.other (p := ⟨j, o, none⟩) hk v)
theorem asForth (x : Value) (t : TypeId) (w : World) : (Instr.typeAssert (.iface 85 x) t 85 true).run Tryz.prog w = .ok (.tuple #[x, .bool true]) w := by kernel_rfl
theorem asForthNo (x : Value) (t : TypeId) (w : World) : (Instr.typeAssert (.iface 83 x) t 85 true).run Tryz.prog w = .ok (.tuple #[.agg #[.int .i64 0, .string ByteArray.empty, .bool false], .bool false]) w := by kernel_rfl
theorem asBack (x : Value) (t : TypeId) (w : World) : (Instr.typeAssert (.iface 83 x) t 83 true).run Tryz.prog w = .ok (.tuple #[x, .bool true]) w := by kernel_rfl

set_option maxRecDepth 10000 in
set_option maxHeartbeats 4000000 in
theorem isUnderWay (h : Hp) (aT : Option Addr) (cT : Nat) (aW : Option Addr) (cW : Nat) (n : Int) (w : World) :
    Calls Tryz.prog 22 #[h.v aT cT aW cW, .int .i64 n] w fun e w' => e = .returned (.bool (decide (0 ≤ n ∧ n < (h.ws.length : Int)))) ∧ Below w.heap.size w w' := by
  have b0 : Below w.heap.size w (w.alloc (.cells #[.int .i64 h.g.ba, .string h.g.bs, .int .i64 h.g.cp, .int .i64 h.g.lm, .bool h.g.en, .bool h.g.dn, .int .i64 h.t.nx, .string h.t.bs, .slice aT h.t.l.length cT, .int .i64 h.t.cp, .int .i64 h.t.fi, .bool h.t.en, .slice aW h.ws.length cW] 31)) := (Below.refl _ _).alloc (Nat.le_refl _) _
  by_cases h0 : 0 ≤ n
  · by_cases h1 : n < (h.ws.length : Int)
    all_goals
      go_enter Tryz.func22, Tryz.ntmps22
      go_wp2_with fail
      go_ret
      exact ⟨Num.ret_bool (by simp [h0, h1]), b0⟩
  · go_enter Tryz.func22, Tryz.ntmps22
    go_wp2_with fail
    go_ret
    exact ⟨Num.ret_bool (by rw [decide_eq_false (show ¬ (0 : Int) ≤ n by omega)]; rfl), b0⟩

abbrev cutH (h : Hp) (k : Nat) : Hp := ⟨h.g, h.t, h.ws.take k ++ h.ws.drop (k + 1)⟩

set_option maxRecDepth 10000 in
set_option maxHeartbeats 8000000 in
theorem takenOut (B g : Nat) (h : Hp) (aT : Option Addr) (cT cW : Nat) (k : Nat) (w : World) (ho : letE.Own 39 w B (some ⟨g, 0, none⟩) cW h.ws) (hk : k < h.ws.length) (hl : h.ws.length ≤ 524288) :
    Calls Tryz.prog 26 #[h.v aT cT (some ⟨g, 0, none⟩) cW, .int .i64 (k : Int)] w fun e w' => e = .returned ((cutH h k).v aT cT (some ⟨g, 0, none⟩) cW) ∧ letE.Own 39 w' B (some ⟨g, 0, none⟩) cW (cutH h k).ws ∧ Draw.Kept g w w' := by
  have v1 : Var 31 ((w.alloc (.cells #[.int .i64 h.g.ba, .string h.g.bs, .int .i64 h.g.cp, .int .i64 h.g.lm, .bool h.g.en, .bool h.g.dn, .int .i64 h.t.nx, .string h.t.bs, .slice aT h.t.l.length cT, .int .i64 h.t.cp, .int .i64 h.t.fi, .bool h.t.en, .slice (some ⟨g, 0, none⟩) h.ws.length cW] 31)).alloc (.cells #[.int .i64 0, .string ⟨#[]⟩, .int .i64 0, .int .i64 0, .bool false, .bool false, .int .i64 0, .string ⟨#[]⟩, .slice none 0 0, .int .i64 0, .int .i64 0, .bool false, .slice none 0 0] 31)) w.heap.size [.int .i64 h.g.ba, .string h.g.bs, .int .i64 h.g.cp, .int .i64 h.g.lm, .bool h.g.en, .bool h.g.dn, .int .i64 h.t.nx, .string h.t.bs, .slice aT h.t.l.length cT, .int .i64 h.t.cp, .int .i64 h.t.fi, .bool h.t.en, .slice (some ⟨g, 0, none⟩) h.ws.length cW] := (Var.new w [.int .i64 h.g.ba, .string h.g.bs, .int .i64 h.g.cp, .int .i64 h.g.lm, .bool h.g.en, .bool h.g.dn, .int .i64 h.t.nx, .string h.t.bs, .slice aT h.t.l.length cT, .int .i64 h.t.cp, .int .i64 h.t.fi, .bool h.t.en, .slice (some ⟨g, 0, none⟩) h.ws.length cW]).alloc _
  have v2 : Var 31 ((w.alloc (.cells #[.int .i64 h.g.ba, .string h.g.bs, .int .i64 h.g.cp, .int .i64 h.g.lm, .bool h.g.en, .bool h.g.dn, .int .i64 h.t.nx, .string h.t.bs, .slice aT h.t.l.length cT, .int .i64 h.t.cp, .int .i64 h.t.fi, .bool h.t.en, .slice (some ⟨g, 0, none⟩) h.ws.length cW] 31)).alloc (.cells #[.int .i64 0, .string ⟨#[]⟩, .int .i64 0, .int .i64 0, .bool false, .bool false, .int .i64 0, .string ⟨#[]⟩, .slice none 0 0, .int .i64 0, .int .i64 0, .bool false, .slice none 0 0] 31)) (w.heap.size + 1) [.int .i64 0, .string ⟨#[]⟩, .int .i64 0, .int .i64 0, .bool false, .bool false, .int .i64 0, .string ⟨#[]⟩, .slice none 0 0, .int .i64 0, .int .i64 0, .bool false, .slice none 0 0] := by
    have q := Var.new (T := 31) (w.alloc (.cells #[.int .i64 h.g.ba, .string h.g.bs, .int .i64 h.g.cp, .int .i64 h.g.lm, .bool h.g.en, .bool h.g.dn, .int .i64 h.t.nx, .string h.t.bs, .slice aT h.t.l.length cT, .int .i64 h.t.cp, .int .i64 h.t.fi, .bool h.t.en, .slice (some ⟨g, 0, none⟩) h.ws.length cW] 31)) [.int .i64 0, .string ⟨#[]⟩, .int .i64 0, .int .i64 0, .bool false, .bool false, .int .i64 0, .string ⟨#[]⟩, .slice none 0 0, .int .i64 0, .int .i64 0, .bool false, .slice none 0 0]
    simpa using q
  have b0 : Below w.heap.size w ((w.alloc (.cells #[.int .i64 h.g.ba, .string h.g.bs, .int .i64 h.g.cp, .int .i64 h.g.lm, .bool h.g.en, .bool h.g.dn, .int .i64 h.t.nx, .string h.t.bs, .slice aT h.t.l.length cT, .int .i64 h.t.cp, .int .i64 h.t.fi, .bool h.t.en, .slice (some ⟨g, 0, none⟩) h.ws.length cW] 31)).alloc (.cells #[.int .i64 0, .string ⟨#[]⟩, .int .i64 0, .int .i64 0, .bool false, .bool false, .int .i64 0, .string ⟨#[]⟩, .slice none 0 0, .int .i64 0, .int .i64 0, .bool false, .slice none 0 0] 31)) := ((Below.refl _ _).alloc (Nat.le_refl _) _).alloc (by simp) _
  have o0 := (ho.alloc (.cells #[.int .i64 h.g.ba, .string h.g.bs, .int .i64 h.g.cp, .int .i64 h.g.lm, .bool h.g.en, .bool h.g.dn, .int .i64 h.t.nx, .string h.t.bs, .slice aT h.t.l.length cT, .int .i64 h.t.cp, .int .i64 h.t.fi, .bool h.t.en, .slice (some ⟨g, 0, none⟩) h.ws.length cW] 31)).alloc (.cells #[.int .i64 0, .string ⟨#[]⟩, .int .i64 0, .int .i64 0, .bool false, .bool false, .int .i64 0, .string ⟨#[]⟩, .slice none 0 0, .int .i64 0, .int .i64 0, .bool false, .slice none 0 0] 31)
  have hgl := (ho.lt _ rfl).2
  have hlen : (h.ws.take k ++ h.ws.drop (k + 1)).length = h.ws.length - 1 := by simp; omega
  have K0 : Draw.Kept g w ((w.alloc (.cells #[.int .i64 h.g.ba, .string h.g.bs, .int .i64 h.g.cp, .int .i64 h.g.lm, .bool h.g.en, .bool h.g.dn, .int .i64 h.t.nx, .string h.t.bs, .slice aT h.t.l.length cT, .int .i64 h.t.cp, .int .i64 h.t.fi, .bool h.t.en, .slice (some ⟨g, 0, none⟩) h.ws.length cW] 31)).alloc (.cells #[.int .i64 0, .string ⟨#[]⟩, .int .i64 0, .int .i64 0, .bool false, .bool false, .int .i64 0, .string ⟨#[]⟩, .slice none 0 0, .int .i64 0, .int .i64 0, .bool false, .slice none 0 0] 31)) := ((Draw.Kept.refl g w).alloc _).alloc _
  have hD := fun w' o' => delete1 B g cW h.ws.length h.ws k w' rfl o' hk (by omega)
  have HD : Hid _ := hD
  dsimp only [cutH, Hp.v]
  rw [hlen]
  have HLEN : Hid _ := hlen
  clear hD hlen
  go_enter Tryz.func26, Tryz.ntmps26
  go_upto_region 1 with (fail)
  generalize (w.alloc (.cells #[.int .i64 h.g.ba, .string h.g.bs, .int .i64 h.g.cp, .int .i64 h.g.lm, .bool h.g.en, .bool h.g.dn, .int .i64 h.t.nx, .string h.t.bs, .slice aT h.t.l.length cT, .int .i64 h.t.cp, .int .i64 h.t.fi, .bool h.t.en, .slice (some ⟨g, 0, none⟩) h.ws.length cW] 31)).alloc (.cells #[.int .i64 0, .string ⟨#[]⟩, .int .i64 0, .int .i64 0, .bool false, .bool false, .int .i64 0, .string ⟨#[]⟩, .slice none 0 0, .int .i64 0, .int .i64 0, .bool false, .slice none 0 0] 31) = V at *
  have e12 := v1.cell (i := 12) rfl
  simp only at hgl
  go_wp2_with fail
  refine (HD.out _ o0).mono ?_
  rintro e w1 ⟨rfl, o1, k1⟩
  replace v1 := v1.kept k1 (by omega)
  replace v2 := v2.kept k1 (by omega)
  have K1 := K0.trans k1
  clear HD k1 K0 o0 e12
  have e12 := v1.cell (i := 12) rfl
  have y12 := v1.free 12
  have u1 := v1.set 12 (.slice (some ⟨g, 0, none⟩) (h.ws.length - 1) cW)
  have u2 := v2.other (p := ⟨w.heap.size, 12, none⟩) (by simp) (.slice (some ⟨g, 0, none⟩) (h.ws.length - 1) cW)
  have o2 := o1.setCell (p := ⟨w.heap.size, 12, none⟩) (fun x hx => by cases hx; dsimp only; omega) (.slice (some ⟨g, 0, none⟩) (h.ws.length - 1) cW)
  have K2 : Draw.Kept g w (w1.setCell ⟨w.heap.size, 12, none⟩ (.slice (some ⟨g, 0, none⟩) (h.ws.length - 1) cW)) := K1.setCell (p := ⟨w.heap.size, 12, none⟩) (.inr (Nat.le_refl _)) _
  clear v1 v2 o1 K1
  go_upto_region 2 with (fail)
  generalize w1.setCell ⟨w.heap.size, 12, none⟩ (.slice (some ⟨g, 0, none⟩) (h.ws.length - 1) cW) = w2 at *
  clear e12 y12
  have v2 := u2
  obtain ⟨e0, e1, e2, e3, e4, e5, e6, e7, e8, e9, e10, e11, e12⟩ := u1.c13
  obtain ⟨f0, f1, f2, f3, f4, f5, f6, f7, f8, f9, f10, f11, f12⟩ := v2.c13
  obtain ⟨y0, y1, y2, y3, y4, y5, y6, y7, y8, y9, y10, y11, y12⟩ := v2.f13
  go_wp2_with fail
  have r2 := var_all v2 [.int .i64 h.g.ba, .string h.g.bs, .int .i64 h.g.cp, .int .i64 h.g.lm, .bool h.g.en, .bool h.g.dn, .int .i64 h.t.nx, .string h.t.bs, .slice aT h.t.l.length cT, .int .i64 h.t.cp, .int .i64 h.t.fi, .bool h.t.en, .slice (some ⟨g, 0, none⟩) (h.ws.length - 1) cW] rfl
  have rW := own_all (k := w.heap.size + 1) (fun x hx => by cases hx; dsimp only; omega) [.int .i64 h.g.ba, .string h.g.bs, .int .i64 h.g.cp, .int .i64 h.g.lm, .bool h.g.en, .bool h.g.dn, .int .i64 h.t.nx, .string h.t.bs, .slice aT h.t.l.length cT, .int .i64 h.t.cp, .int .i64 h.t.fi, .bool h.t.en, .slice (some ⟨g, 0, none⟩) (h.ws.length - 1) cW] 0 w2 o2
  have rK := kept_cells2 (k := w.heap.size + 1) (by omega) [.int .i64 h.g.ba, .string h.g.bs, .int .i64 h.g.cp, .int .i64 h.g.lm, .bool h.g.en, .bool h.g.dn, .int .i64 h.t.nx, .string h.t.bs, .slice aT h.t.l.length cT, .int .i64 h.t.cp, .int .i64 h.t.fi, .bool h.t.en, .slice (some ⟨g, 0, none⟩) (h.ws.length - 1) cW] 0 w2 K2
  simp only [World.setCells, Nat.reduceAdd] at r2 rW rK
  generalize (((((((((((((w2.setCell ⟨(w.heap.size + 1), 0, none⟩ (.int .i64 h.g.ba)).setCell ⟨(w.heap.size + 1), 1, none⟩ (.string h.g.bs)).setCell ⟨(w.heap.size + 1), 2, none⟩ (.int .i64 h.g.cp)).setCell ⟨(w.heap.size + 1), 3, none⟩ (.int .i64 h.g.lm)).setCell ⟨(w.heap.size + 1), 4, none⟩ (.bool h.g.en)).setCell ⟨(w.heap.size + 1), 5, none⟩ (.bool h.g.dn)).setCell ⟨(w.heap.size + 1), 6, none⟩ (.int .i64 h.t.nx)).setCell ⟨(w.heap.size + 1), 7, none⟩ (.string h.t.bs)).setCell ⟨(w.heap.size + 1), 8, none⟩ (.slice aT h.t.l.length cT)).setCell ⟨(w.heap.size + 1), 9, none⟩ (.int .i64 h.t.cp)).setCell ⟨(w.heap.size + 1), 10, none⟩ (.int .i64 h.t.fi)).setCell ⟨(w.heap.size + 1), 11, none⟩ (.bool h.t.en)).setCell ⟨(w.heap.size + 1), 12, none⟩ (.slice (some ⟨g, 0, none⟩) (h.ws.length - 1) cW)) = w4 at *
  obtain ⟨s0, s1, s2, s3, s4, s5, s6, s7, s8, s9, s10, s11, s12⟩ := r2.c13
  exact bodyPost_ret (v := .agg #[.int .i64 h.g.ba, .string h.g.bs, .int .i64 h.g.cp, .int .i64 h.g.lm, .bool h.g.en, .bool h.g.dn, .int .i64 h.t.nx, .string h.t.bs, .slice aT h.t.l.length cT, .int .i64 h.t.cp, .int .i64 h.t.fi, .bool h.t.en, .slice (some ⟨g, 0, none⟩) (h.ws.length - 1) cW]) (by rw [res_one rfl]; clear r2 rW rK u1 u2 v2 o2 K2 e0 e1 e2 e3 e4 e5 e6 e7 e8 e9 e10 e11 e12 f0 f1 f2 f3 f4 f5 f6 f7 f8 f9 f10 f11 f12 y0 y1 y2 y3 y4 y5 y6 y7 y8 y9 y10 y11 y12; go_simp; done) rfl ⟨rfl, rW, rK⟩

end Go.Proofs.YtjnkjeajkmgcmaaGreat.Hop

namespace Go.Proofs.YtjnkjeajkmgcmaaGreat.Hop
open Go.RowKit RowG
set_option linter.unusedVariables false
set_option linter.unusedSimpArgs false

def zeroL : Lt := ⟨false, 0, 0, ⟨#[]⟩, false, 0, false⟩
def outH (h : Hp) (k : Int) : Hp × Lt × Bool := if 0 ≤ k then (match h.ws[k.toNat]? with
  | some x => (⟨h.g, h.t, h.ws.take k.toNat ++ h.ws.drop (k.toNat + 1)⟩, x, true)
  | none => (h, zeroL, false)) else (h, zeroL, false)
theorem outH_none {h : Hp} {k : Int} (hk : k < 0 ∨ (h.ws.length : Int) ≤ k) : outH h k = (h, zeroL, false) := by
  unfold outH
  split
  · rw [List.getElem?_eq_none (by omega)]
  · rfl
theorem outH_some {h : Hp} {k : Nat} {x : Lt} (hx : h.ws[k]? = some x) : outH h k = (⟨h.g, h.t, h.ws.take k ++ h.ws.drop (k + 1)⟩, x, true) := by
  unfold outH
  rw [if_pos (by omega), Int.toNat_natCast, hx]

set_option maxRecDepth 10000 in
set_option maxHeartbeats 8000000 in
theorem l7Out {T : TypeId} {pre post : List Value} {ow : Nat} (hT : T ≠ 39) (k B : Nat) (h : Hp) (aT : Option Addr) (cT : Nat) (aW : Option Addr) (cW : Nat) (n : Int) (w : World)
    (hv : Win T pre post ow w k (h.c aT cT aW cW)) (ho : letE.Own 39 w B aW cW h.ws) (hB : B ≤ w.heap.size) (hl : h.ws.length ≤ 524288) :
    Calls Tryz.prog 30 #[.pointer (some ⟨k, ow, none⟩), .int .i64 n] w fun e w' => ∃ aW' cW', e = .returned (.tuple #[(outH h n).2.1.v, .bool (outH h n).2.2]) ∧ Win T pre post ow w' k ((outH h n).1.c aT cT aW' cW') ∧ letE.Own 39 w' B aW' cW' (outH h n).1.ws ∧ Draw.Kept k w w' := by
  have hmix := mix
  have v4 : Var 39 (w.alloc (.cells #[.bool false, .int .i64 0, .int .i64 0, .string ⟨#[]⟩, .bool false, .int .i64 0, .bool false] 39)) w.heap.size [.bool false, .int .i64 0, .int .i64 0, .string ⟨#[]⟩, .bool false, .int .i64 0, .bool false] := Var.new w _
  have b0 : Below w.heap.size w (w.alloc (.cells #[.bool false, .int .i64 0, .int .i64 0, .string ⟨#[]⟩, .bool false, .int .i64 0, .bool false] 39)) := (Below.refl _ _).alloc (Nat.le_refl _) _
  have v0 := hv.later b0
  have o0 := ho.later b0
  have HK : Hid (k < w.heap.size) := hv.lt
  have hnone : (n < 0 ∨ (h.ws.length : Int) ≤ n) ∨ ∃ (j : Nat) (x : Lt), n = j ∧ h.ws[j]? = some x ∧ j < h.ws.length := by
    by_cases q : n < 0 ∨ (h.ws.length : Int) ≤ n
    · exact .inl q
    · refine .inr ⟨n.toNat, h.ws[n.toNat]'(by omega), by omega, List.getElem?_eq_getElem _, by omega⟩
  rcases hnone with hno | ⟨j, x, rfl, hx, hj⟩
  focus
    rw [outH_none hno]
    go_enter Tryz.func30, Tryz.ntmps30
    go_upto_region 1 with (fail)
    generalize w.alloc (.cells #[.bool false, .int .i64 0, .int .i64 0, .string ⟨#[]⟩, .bool false, .int .i64 0, .bool false] 39) = V at *
    have e12 := v0.cell (i := 12) rfl
    obtain ⟨f0, f1, f2, f3, f4, f5, f6⟩ := v4.c7
    obtain ⟨y0, y1, y2, y3, y4, y5, y6⟩ := v4.f7
    have r2 : Var 39 ((((((((V.setCell ⟨w.heap.size, 0, none⟩ (.bool false)).setCell ⟨w.heap.size, 1, none⟩ (.int .i64 0)).setCell ⟨w.heap.size, 2, none⟩ (.int .i64 0)).setCell ⟨w.heap.size, 3, none⟩ (.string ⟨#[]⟩)).setCell ⟨w.heap.size, 4, none⟩ (.bool false)).setCell ⟨w.heap.size, 5, none⟩ (.int .i64 0)).setCell ⟨w.heap.size, 6, none⟩ (.bool false))) w.heap.size [.bool false, .int .i64 0, .int .i64 0, .string ⟨#[]⟩, .bool false, .int .i64 0, .bool false] := (((((((v4.set 0 _).set 1 _).set 2 _).set 3 _).set 4 _).set 5 _).set 6 _)
    have rv : Win T pre post ow ((((((((V.setCell ⟨w.heap.size, 0, none⟩ (.bool false)).setCell ⟨w.heap.size, 1, none⟩ (.int .i64 0)).setCell ⟨w.heap.size, 2, none⟩ (.int .i64 0)).setCell ⟨w.heap.size, 3, none⟩ (.string ⟨#[]⟩)).setCell ⟨w.heap.size, 4, none⟩ (.bool false)).setCell ⟨w.heap.size, 5, none⟩ (.int .i64 0)).setCell ⟨w.heap.size, 6, none⟩ (.bool false))) k (h.c aT cT aW cW) := by
      iterate 7 (refine Win.other ?_ (by have := HK.out; dsimp only; omega) _)
      exact v0
    have ro : letE.Own 39 ((((((((V.setCell ⟨w.heap.size, 0, none⟩ (.bool false)).setCell ⟨w.heap.size, 1, none⟩ (.int .i64 0)).setCell ⟨w.heap.size, 2, none⟩ (.int .i64 0)).setCell ⟨w.heap.size, 3, none⟩ (.string ⟨#[]⟩)).setCell ⟨w.heap.size, 4, none⟩ (.bool false)).setCell ⟨w.heap.size, 5, none⟩ (.int .i64 0)).setCell ⟨w.heap.size, 6, none⟩ (.bool false))) B aW cW h.ws := by
      iterate 7 (refine El.Own.setCell ?_ (fun y hy => by have := (ho.lt y hy).2; dsimp only; omega) _)
      exact o0
    have rB : Below w.heap.size w ((((((((V.setCell ⟨w.heap.size, 0, none⟩ (.bool false)).setCell ⟨w.heap.size, 1, none⟩ (.int .i64 0)).setCell ⟨w.heap.size, 2, none⟩ (.int .i64 0)).setCell ⟨w.heap.size, 3, none⟩ (.string ⟨#[]⟩)).setCell ⟨w.heap.size, 4, none⟩ (.bool false)).setCell ⟨w.heap.size, 5, none⟩ (.int .i64 0)).setCell ⟨w.heap.size, 6, none⟩ (.bool false))) := by
      iterate 7 (refine Below.setCell ?_ (by dsimp only; omega) _)
      exact b0
    rcases hno with hno | hno
    all_goals
      first | (have hnl : ¬ n < 0 := by omega) | skip
      go_wp2_with fail
      generalize (((((((V.setCell ⟨w.heap.size, 0, none⟩ (.bool false)).setCell ⟨w.heap.size, 1, none⟩ (.int .i64 0)).setCell ⟨w.heap.size, 2, none⟩ (.int .i64 0)).setCell ⟨w.heap.size, 3, none⟩ (.string ⟨#[]⟩)).setCell ⟨w.heap.size, 4, none⟩ (.bool false)).setCell ⟨w.heap.size, 5, none⟩ (.int .i64 0)).setCell ⟨w.heap.size, 6, none⟩ (.bool false)) = W4 at *
      obtain ⟨s0, s1, s2, s3, s4, s5, s6⟩ := r2.c7
      refine bodyPost_ret (v := .tuple #[.agg #[.bool false, .int .i64 0, .int .i64 0, .string ⟨#[]⟩, .bool false, .int .i64 0, .bool false], .bool false]) (by rw [Tak.res_cell_tmp rfl]; clear r2 rv ro rB v4 v0 f0 y0 f1 y1 f2 y2 f3 y3 f4 y4 f5 y5 f6 y6; go_simp; done) rfl ?_
      first | exact ⟨aW, cW, rfl, rv, ro, Draw.Kept.ofBelow rB (Nat.le_refl _)⟩ | exact ⟨rfl, aW, cW, rv, ro, Draw.Kept.ofBelow rB (Nat.le_refl _)⟩
  focus
    rw [outH_some hx]
    dsimp only
    go_enter Tryz.func30, Tryz.ntmps30
    go_upto_region 1 with (fail)
    generalize w.alloc (.cells #[.bool false, .int .i64 0, .int .i64 0, .string ⟨#[]⟩, .bool false, .int .i64 0, .bool false] 39) = V at *
    have e12 := v0.cell (i := 12) rfl
    have j0 : ¬ (j : Int) < 0 := by omega
    have j0n : (0 : Int) ≤ (j : Int) := by omega
    have j1 : ¬ (h.ws.length : Int) ≤ (j : Int) := by omega
    have j1n : (j : Int) < (h.ws.length : Int) := by omega
    have hL := o0.lies
    rcases hL with hL1 | ⟨b, off, ha', hL1⟩
    · simp [hL1] at hj
    have c0 : V.cell? ⟨b, off + j * 7, none⟩ = some (.bool x.bk) := El.Lies.cell hL1 hx (j := 0) rfl
    have c1 : V.cell? ⟨b, off + j * 7 + 1, none⟩ = some (.int .i64 x.rd) := El.Lies.cell hL1 hx (j := 1) rfl
    have c2 : V.cell? ⟨b, off + j * 7 + 2, none⟩ = some (.int .i64 x.pl) := El.Lies.cell hL1 hx (j := 2) rfl
    have c3 : V.cell? ⟨b, off + j * 7 + 3, none⟩ = some (.string x.bs) := El.Lies.cell hL1 hx (j := 3) rfl
    have c4 : V.cell? ⟨b, off + j * 7 + 4, none⟩ = some (.bool x.en) := El.Lies.cell hL1 hx (j := 4) rfl
    have c5 : V.cell? ⟨b, off + j * 7 + 5, none⟩ = some (.int .i64 x.lm) := El.Lies.cell hL1 hx (j := 5) rfl
    have c6 : V.cell? ⟨b, off + j * 7 + 6, none⟩ = some (.bool x.dn) := El.Lies.cell hL1 hx (j := 6) rfl
    have HA : Hid (aW = some ⟨b, off, none⟩) := ha'
    subst ha'
    have v6 : Var 39 (V.alloc (.cells #[.bool x.bk, .int .i64 x.rd, .int .i64 x.pl, .string x.bs, .bool x.en, .int .i64 x.lm, .bool x.dn] 39)) V.heap.size [.bool x.bk, .int .i64 x.rd, .int .i64 x.pl, .string x.bs, .bool x.en, .int .i64 x.lm, .bool x.dn] := Var.new V _
    have bA : Below V.heap.size V (V.alloc (.cells #[.bool x.bk, .int .i64 x.rd, .int .i64 x.pl, .string x.bs, .bool x.en, .int .i64 x.lm, .bool x.dn] 39)) := (Below.refl _ _).alloc (Nat.le_refl _) _
    have hk6k : V.heap.size ≠ k := by have := v0.lt; omega
    have v7 := v0.later bA
    have o7 := o0.later bA
    have hkw : ∀ y, some (⟨b, off, none⟩ : Addr) = some y → y.block ≠ k := own_win hT o7 v7
    have v4b := v4.later bA
    have B7 := b0.trans (bA.mono b0.size)
    clear bA
    go_upto_region 4 with (fail)
    generalize V.alloc (.cells #[.bool x.bk, .int .i64 x.rd, .int .i64 x.pl, .string x.bs, .bool x.en, .int .i64 x.lm, .bool x.dn] 39) = V2 at *
    generalize V.heap.size = k6 at *
    clear c0 c1 c2 c3 c4 c5 c6 e12 hL1
    have e12 := v7.cell (i := 12) rfl
    have hcap := o7.cap
    have j2 : (j : Int) ≤ (cW : Int) := by omega
    have j3 : (j : Int) + 1 ≤ (h.ws.length : Int) := by omega
    have j4 : (0 : Int) ≤ (j : Int) + 1 := by omega
    have j5 : (h.ws.length : Int) ≤ (cW : Int) := by omega
    have ew : IntKind.i64.wrap ((j : Int) + 1) = (j : Int) + 1 := by rw [IntKind.wrap_i64]; omega
    clear v0 o0 v4 b0
    have lW := o7.lies
    have l1 : letE.Lies (V2.drew.alloc (.cells #[] 39)) (some ⟨b, off, none⟩) (h.ws.take j) := (lW.drew.alloc (.cells #[] 39)).take j
    have l2 : letE.Lies V2 (if cW = j + 1 then some ⟨b, off, none⟩ else some ⟨b, off + (j + 1) * 7, none⟩) (h.ws.drop (j + 1)) := by
      have q := lW.slice (j + 1) h.ws.length cW (by omega) (Nat.le_refl _) hcap
      rw [List.take_of_length_le (by simp)] at q
      exact q
    have hbl : b < V2.heap.size := (o7.lt _ rfl).2
    have oA := El.Own.made (E := letE) (T := 39) V2.drew
    have hzA : ([] : List Lt).length + (h.ws.take j).length ≤ 4194304 := by simp; omega
    have hzB : (h.ws.take j).length + (h.ws.drop (j + 1)).length ≤ 4194304 := by simp; omega
    have HT1 : Hid (j = (h.ws.take j).length) := by show _ = _; simp; omega
    have HT2 : Hid (h.ws.length - (j + 1) = (h.ws.drop (j + 1)).length) := by show _ = _; simp
    have HBA : Hid (V2.heap.size ≤ (V2.drew.alloc (.cells #[] 39)).heap.size) := by show _ ≤ _; simp
    have HSB : Hid (∀ y, (if cW = j + 1 then some (⟨b, off, none⟩ : Addr) else some ⟨b, off + (j + 1) * 7, none⟩) = some y → y.block = b) := by
      intro y hy
      split at hy <;> cases hy <;> rfl
    have hkl : k < V2.heap.size := v7.lt
    have vA := v7.drew.alloc (.cells #[] 39)
    have v4A := v4b.drew.alloc (.cells #[] 39)
    have v6A := v6.drew.alloc (.cells #[] 39)
    have l2A := l2.drew.alloc (.cells #[] 39)
    have K0 : Draw.Kept k w (V2.drew.alloc (.cells #[] 39)) := (Draw.Kept.ofBelow B7 (Nat.le_refl _)).drew.alloc _
    have hk6 : k6 < V2.heap.size := v6.lt
    have hk4 : w.heap.size < V2.heap.size := v4b.lt
    clear lW
    go_wp2_with fail
    refine Draw.wp_region_Y (S := (fun w' => w'.cell? ⟨k, ow + 12, none⟩ = some (.slice (some ⟨b, off, none⟩) h.ws.length cW))) 19 (by kernel_rfl) ?_ (fun hHeld => ?_)
    focus ((try dsimp only) <;> (first | with_reducible exact hHeld | with_reducible exact hS2 | exact e12 | exact alloc_cell hHeld _))
    refine Draw.wpAnyY_takeT (i := 0) (v := ?_) rfl (by kernel_rfl) (by kernel_rfl) (by kernel_rfl) (fun _ _ _ h => h) (Or.inl ⟨by rfl, ?_⟩) ?_
    rotate_left 1
    focus (intro wS hSw; (try dsimp only at hSw); go_simp; first | done | (constructor <;> with_reducible rfl) | with_reducible rfl)
    (try simp only [Act.put, List.getElem_toArray, List.getElem_cons_zero, List.getElem_cons_succ, List.setIfInBounds_toArray, List.set_cons_zero, List.set_cons_succ])
    refine Draw.wpAnyY_takeT (i := 2) (v := ?_) rfl (by kernel_rfl) (by kernel_rfl) (by kernel_rfl) (fun _ _ _ h => h) (Or.inl ⟨by rfl, ?_⟩) ?_
    rotate_left 1
    focus (intro wS hSw; (try dsimp only at hSw); go_simp; first | done | (constructor <;> with_reducible rfl) | with_reducible rfl)
    (try simp only [Act.put, List.getElem_toArray, List.getElem_cons_zero, List.getElem_cons_succ, List.setIfInBounds_toArray, List.set_cons_zero, List.set_cons_succ])
    refine Draw.wpAnyY_takeT (i := 3) (v := ?_) rfl (by kernel_rfl) (by kernel_rfl) (by kernel_rfl) (fun _ _ _ h => h) (Or.inl ⟨by rfl, ?_⟩) ?_
    rotate_left 1
    focus (intro wS hSw; (try dsimp only at hSw); go_simp; first | done | (constructor <;> with_reducible rfl) | with_reducible rfl)
    (try simp only [Act.put, List.getElem_toArray, List.getElem_cons_zero, List.getElem_cons_succ, List.setIfInBounds_toArray, List.set_cons_zero, List.set_cons_succ])
    refine Draw.wpAnyY_takeT (i := 4) (v := ?_) rfl (by kernel_rfl) (by kernel_rfl) (by kernel_rfl) (fun _ _ _ h => h) (Or.inl ⟨by rfl, ?_⟩) ?_
    rotate_left 1
    focus (intro wS hSw; (try dsimp only at hSw); go_simp; first | done | (constructor <;> with_reducible rfl) | with_reducible rfl)
    (try simp only [Act.put, List.getElem_toArray, List.getElem_cons_zero, List.getElem_cons_succ, List.setIfInBounds_toArray, List.set_cons_zero, List.set_cons_succ])
    refine Draw.wpAnyY_takeP (ps := [16, 8, 7]) (i := 5) (v := ?_) rfl (by kernel_rfl) (by kernel_rfl) (by kernel_rfl) (by kernel_rfl) (by kernel_rfl) (fun _ _ _ h => h) (Or.inl ⟨by rfl, ?_⟩) (by assumption) ?_
    rotate_left 1
    focus (intro wS hSw; (try dsimp only at hSw); go_simp; first | done | (constructor <;> with_reducible rfl) | with_reducible rfl)
    (try simp only [Act.put, List.getElem_toArray, List.getElem_cons_zero, List.getElem_cons_succ, List.setIfInBounds_toArray, List.set_cons_zero, List.set_cons_succ])
    refine Draw.wpAnyY_takeT (i := 6) (v := ?_) rfl (by kernel_rfl) (by kernel_rfl) (by kernel_rfl) (fun _ _ _ h => h) (Or.inl ⟨by rfl, ?_⟩) ?_
    rotate_left 1
    focus (intro wS hSw; (try dsimp only at hSw); go_simp; first | done | (constructor <;> with_reducible rfl) | with_reducible rfl)
    (try simp only [Act.put, List.getElem_toArray, List.getElem_cons_zero, List.getElem_cons_succ, List.setIfInBounds_toArray, List.set_cons_zero, List.set_cons_succ])
    refine Draw.wpAnyY_takeT (i := 7) (v := ?_) rfl (by kernel_rfl) (by kernel_rfl) (by kernel_rfl) (fun _ _ _ h => h) (Or.inl ⟨by rfl, ?_⟩) ?_
    rotate_left 1
    focus (intro wS hSw; (try dsimp only at hSw); go_simp; first | done | (constructor <;> with_reducible rfl) | with_reducible rfl)
    (try simp only [Act.put, List.getElem_toArray, List.getElem_cons_zero, List.getElem_cons_succ, List.setIfInBounds_toArray, List.set_cons_zero, List.set_cons_succ])
    refine Draw.wpAnyY_takeT (i := 9) (v := ?_) rfl (by kernel_rfl) (by kernel_rfl) (by kernel_rfl) (fun _ _ _ h => h) (Or.inl ⟨by rfl, ?_⟩) ?_
    rotate_left 1
    focus (intro wS hSw; (try dsimp only at hSw); go_simp; first | done | (constructor <;> with_reducible rfl) | with_reducible rfl)
    (try simp only [Act.put, List.getElem_toArray, List.getElem_cons_zero, List.getElem_cons_succ, List.setIfInBounds_toArray, List.set_cons_zero, List.set_cons_succ])
    refine Draw.wpAnyY_takeT (i := 10) (v := ?_) rfl (by kernel_rfl) (by kernel_rfl) (by kernel_rfl) (fun _ _ _ h => h) (Or.inl ⟨by rfl, ?_⟩) ?_
    rotate_left 1
    focus (intro wS hSw; (try dsimp only at hSw); go_simp; first | done | (constructor <;> with_reducible rfl) | with_reducible rfl)
    (try simp only [Act.put, List.getElem_toArray, List.getElem_cons_zero, List.getElem_cons_succ, List.setIfInBounds_toArray, List.set_cons_zero, List.set_cons_succ])
    refine Draw.wpAnyY_takeT (i := 11) (v := ?_) rfl (by kernel_rfl) (by kernel_rfl) (by kernel_rfl) (fun _ _ _ h => h) (Or.inl ⟨by rfl, ?_⟩) ?_
    rotate_left 1
    focus (intro wS hSw; (try dsimp only at hSw); go_simp; first | done | (constructor <;> with_reducible rfl) | with_reducible rfl)
    (try simp only [Act.put, List.getElem_toArray, List.getElem_cons_zero, List.getElem_cons_succ, List.setIfInBounds_toArray, List.set_cons_zero, List.set_cons_succ])
    refine Draw.wpAnyY_takeP (ps := [16, 15]) (i := 12) (v := ?_) rfl (by kernel_rfl) (by kernel_rfl) (by kernel_rfl) (by kernel_rfl) (by kernel_rfl) (fun _ _ _ h => h) (Or.inl ⟨by rfl, ?_⟩) (by assumption) ?_
    rotate_left 1
    focus (intro wS hSw; (try dsimp only at hSw); go_simp; first | done | (constructor <;> with_reducible rfl) | with_reducible rfl)
    (try simp only [Act.put, List.getElem_toArray, List.getElem_cons_zero, List.getElem_cons_succ, List.setIfInBounds_toArray, List.set_cons_zero, List.set_cons_succ])
    refine Draw.wpAnyY_takeT (i := 13) (v := ?_) rfl (by kernel_rfl) (by kernel_rfl) (by kernel_rfl) (fun _ _ _ h => h) (Or.inl ⟨by rfl, ?_⟩) ?_
    rotate_left 1
    focus (intro wS hSw; (try dsimp only at hSw); go_simp; first | done | (constructor <;> with_reducible rfl) | with_reducible rfl)
    (try simp only [Act.put, List.getElem_toArray, List.getElem_cons_zero, List.getElem_cons_succ, List.setIfInBounds_toArray, List.set_cons_zero, List.set_cons_succ])
    refine Draw.wpAnyY_takeT (i := 14) (v := ?_) rfl (by kernel_rfl) (by kernel_rfl) (by kernel_rfl) (fun _ _ _ h => h) (Or.inl ⟨by rfl, ?_⟩) ?_
    rotate_left 1
    focus (intro wS hSw; (try dsimp only at hSw); go_simp; first | done | (constructor <;> with_reducible rfl) | with_reducible rfl)
    (try simp only [Act.put, List.getElem_toArray, List.getElem_cons_zero, List.getElem_cons_succ, List.setIfInBounds_toArray, List.set_cons_zero, List.set_cons_succ])
    refine Draw.wpAnyY_takeT (i := 15) (v := ?_) rfl (by kernel_rfl) (by kernel_rfl) (by kernel_rfl) (fun _ _ _ h => h) (Or.inl ⟨by rfl, ?_⟩) ?_
    rotate_left 1
    focus (intro wS hSw; (try dsimp only at hSw); go_simp; first | done | (constructor <;> with_reducible rfl) | with_reducible rfl)
    (try simp only [Act.put, List.getElem_toArray, List.getElem_cons_zero, List.getElem_cons_succ, List.setIfInBounds_toArray, List.set_cons_zero, List.set_cons_succ])
    refine Draw.wpAnyY_ready (rs := [1]) (by kernel_rfl) (by simp) ?_
    refine Draw.AllReadyY.cons rfl (fun K hK => ?_) Draw.AllReadyY.nil
    go_simp
    refine hK.out _ _ ?_ (fun hHeld2 => ?_)
    focus (intro _ _; (try dsimp only) <;> (first | with_reducible exact hHeld | with_reducible exact hS2 | exact e12 | exact alloc_cell hHeld _))
    clear hK K
    replace hHeld := hHeld2 (by decide) hHeld
    clear hHeld2
    (try simp only [Act.put, List.getElem_toArray, List.getElem_cons_zero, List.getElem_cons_succ, List.setIfInBounds_toArray, List.set_cons_zero, List.set_cons_succ])
    refine Draw.wpAnyY_ready (rs := [8]) (by kernel_rfl) (by simp) ?_
    refine Draw.AllReadyY.cons rfl (fun K hK => ?_) Draw.AllReadyY.nil
    (refine step_app typ (by decide) (by rfl) _ _ (by rfl) V2.heap.size (some ⟨V2.heap.size, 0, none⟩) 0 0 [] (h.ws.take j) rfl (by rfl) oA HBA.out (some ⟨b, off, none⟩) _ _ HT1.out (by rfl) l1 (by simp) hzA ?_; intro a2 c2 w2 o2 g2; rw [List.nil_append] at o2; rw [Nat.zero_add]; have hS2 := grown_cell g2 hHeld (by simp [blk]; omega); have v2 := vA.grown g2 (by intro g hg; simp [blk] at hg; omega); have v42 := v4A.grown g2 (by intro g hg; simp [blk] at hg; omega); have v62 := v6A.grown g2 (by intro g hg; simp [blk] at hg; omega); have l22 := l2A.grown g2 (by intro y hy; rw [HSB.out y hy]; simp [blk]; omega); have K2 := kept_grown K0 g2 (by intro g hg; simp [blk] at hg; have := B7.size; omega); have z2 : V2.heap.size ≤ w2.heap.size := Nat.le_trans HBA.out g2.size)
    refine hK.out _ _ ?_ (fun hHeld2 => ?_)
    focus (intro _ _; (try dsimp only) <;> (first | with_reducible exact hHeld | with_reducible exact hS2 | exact e12 | exact alloc_cell hHeld _))
    clear hK K
    replace hHeld := hHeld2 (by decide) hHeld
    clear hHeld2
    (try simp only [Act.put, List.getElem_toArray, List.getElem_cons_zero, List.getElem_cons_succ, List.setIfInBounds_toArray, List.set_cons_zero, List.set_cons_succ])
    refine Draw.wpAnyY_ready (rs := [16]) (by kernel_rfl) (by simp) ?_
    refine Draw.AllReadyY.cons rfl (fun K hK => ?_) Draw.AllReadyY.nil
    (refine step_app typ (by decide) (by rfl) _ _ (by rfl) V2.heap.size a2 c2 j (h.ws.take j) (h.ws.drop (j + 1)) HT1.out (by rfl) o2 z2 _ _ _ HT2.out (by rfl) l22 (by intro q; split at q <;> cases q) hzB ?_; intro a3 c3 w3 o3 g3; have hS2 := grown_cell g3 hHeld (o2.blk_ne hkl); have v3 := v2.grown g3 (by intro g hg e; exact o2.blk_ne hkl (by rw [e, hg])); have v43 := v42.grown g3 (by intro g hg e; exact o2.blk_ne hk4 (by rw [e, hg])); have v63 := v62.grown g3 (by intro g hg e; exact o2.blk_ne hk6 (by rw [e, hg])); have K3 := kept_grown K2 g3 (by intro g hg; exact .inl (Nat.le_trans B7.size (o2.blk_le hg))); have z12 := v3.cell (i := 12) rfl; have y12 := v3.free 12)
    refine hK.out _ _ ?_ (fun hHeld2 => ?_)
    focus (intro _ _; (try dsimp only) <;> (first | with_reducible exact hHeld | with_reducible exact hS2 | exact e12 | exact alloc_cell hHeld _))
    clear hK K
    replace hHeld := hHeld2 (by decide) hHeld
    clear hHeld2
    (try simp only [Act.put, List.getElem_toArray, List.getElem_cons_zero, List.getElem_cons_succ, List.setIfInBounds_toArray, List.set_cons_zero, List.set_cons_succ])
    refine Draw.wpAnyY_takeT (i := 17) (v := ?_) rfl (by kernel_rfl) (by kernel_rfl) (by kernel_rfl) (fun _ _ _ h => h) (Or.inl ⟨by rfl, ?_⟩) ?_
    rotate_left 1
    focus (intro wS hSw; (try dsimp only at hSw); go_simp; first | done | (constructor <;> with_reducible rfl) | with_reducible rfl)
    (try simp only [Act.put, List.getElem_toArray, List.getElem_cons_zero, List.getElem_cons_succ, List.setIfInBounds_toArray, List.set_cons_zero, List.set_cons_succ])
    refine Draw.wpAnyY_takeT (i := 18) (v := ?_) rfl (by kernel_rfl) (by kernel_rfl) (by kernel_rfl) (fun _ _ _ h => h) (Or.inl ⟨by rfl, ?_⟩) ?_
    rotate_left 1
    focus (intro wS hSw; (try dsimp only at hSw); go_simp; first | done | (constructor <;> with_reducible rfl) | with_reducible rfl)
    (try simp only [Act.put, List.getElem_toArray, List.getElem_cons_zero, List.getElem_cons_succ, List.setIfInBounds_toArray, List.set_cons_zero, List.set_cons_succ])
    refine Draw.wpAnyY_ready (rs := [19]) (by kernel_rfl) (by simp) ?_
    refine Draw.AllReadyY.cons rfl (fun K hK => ?_) Draw.AllReadyY.nil
    go_simp
    refine hK.out _ _ (fun h => absurd rfl h) (fun hHeld2 => ?_)
    clear hK K hHeld hHeld2
    (try simp only [Act.put, List.getElem_toArray, List.getElem_cons_zero, List.getElem_cons_succ, List.setIfInBounds_toArray, List.set_cons_zero, List.set_cons_succ])
    refine Draw.wpAnyY_done (by kernel_rfl) ?_ _
    generalize (if cW = j + 1 then some (⟨b, off, none⟩ : Addr) else some ⟨b, off + (j + 1) * 7, none⟩) = sp
    have v8 := v3.set 12 (.slice a3 (j + (h.ws.length - (j + 1))) c3)
    have K8 := K3.setCell (p := ⟨k, ow + 12, none⟩) (.inl rfl) (.slice a3 (j + (h.ws.length - (j + 1))) c3)
    have v68 := v63.other (p := ⟨k, ow + 12, none⟩) (by dsimp only; exact hk6k) (.slice a3 (j + (h.ws.length - (j + 1))) c3)
    have v48 := v43.other (p := ⟨k, ow + 12, none⟩) (by have := HK.out; dsimp only; omega) (.slice a3 (j + (h.ws.length - (j + 1))) c3)
    have o8 := (o3.mono (B := B) (by have := B7.size; omega)).setCell (p := ⟨k, ow + 12, none⟩) (fun y e => own_win hT o3 v3 y e) (.slice a3 (j + (h.ws.length - (j + 1))) c3)
    have hkb : ∀ y, a3 = some y → V2.heap.size ≤ y.block := fun y e => (o3.lt y e).1
    clear v3 K3 v63 v43 o3 z12 y12 v2 v42 v62 l22 K2 o2
    generalize w3.setCell ⟨k, ow + 12, none⟩ (.slice a3 (j + (h.ws.length - (j + 1))) c3) = W5 at *
    obtain ⟨d0, d1, d2, d3, d4, d5, d6⟩ := v68.c7
    obtain ⟨f0, f1, f2, f3, f4, f5, f6⟩ := v48.c7
    obtain ⟨y0, y1, y2, y3, y4, y5, y6⟩ := v48.f7
    clear l1 l2 l2A vA v4A v6A K0 oA hzA hzB o7 hkw v4b e12 v7 v6 hx
    go_wp2_with fail
    have r4 : Var 39 ((((((((W5.setCell ⟨w.heap.size, 0, none⟩ (.bool x.bk)).setCell ⟨w.heap.size, 1, none⟩ (.int .i64 x.rd)).setCell ⟨w.heap.size, 2, none⟩ (.int .i64 x.pl)).setCell ⟨w.heap.size, 3, none⟩ (.string x.bs)).setCell ⟨w.heap.size, 4, none⟩ (.bool x.en)).setCell ⟨w.heap.size, 5, none⟩ (.int .i64 x.lm)).setCell ⟨w.heap.size, 6, none⟩ (.bool x.dn))) w.heap.size [.bool x.bk, .int .i64 x.rd, .int .i64 x.pl, .string x.bs, .bool x.en, .int .i64 x.lm, .bool x.dn] := (((((((v48.set 0 _).set 1 _).set 2 _).set 3 _).set 4 _).set 5 _).set 6 _)
    have rv : Win T pre post ow ((((((((W5.setCell ⟨w.heap.size, 0, none⟩ (.bool x.bk)).setCell ⟨w.heap.size, 1, none⟩ (.int .i64 x.rd)).setCell ⟨w.heap.size, 2, none⟩ (.int .i64 x.pl)).setCell ⟨w.heap.size, 3, none⟩ (.string x.bs)).setCell ⟨w.heap.size, 4, none⟩ (.bool x.en)).setCell ⟨w.heap.size, 5, none⟩ (.int .i64 x.lm)).setCell ⟨w.heap.size, 6, none⟩ (.bool x.dn))) k [.int .i64 h.g.ba, .string h.g.bs, .int .i64 h.g.cp, .int .i64 h.g.lm, .bool h.g.en, .bool h.g.dn, .int .i64 h.t.nx, .string h.t.bs, .slice aT h.t.l.length cT, .int .i64 h.t.cp, .int .i64 h.t.fi, .bool h.t.en, .slice a3 (j + (h.ws.length - (j + 1))) c3] := by
      iterate 7 (refine Win.other ?_ (by have := HK.out; dsimp only; omega) _)
      exact v8
    have ro : letE.Own 39 ((((((((W5.setCell ⟨w.heap.size, 0, none⟩ (.bool x.bk)).setCell ⟨w.heap.size, 1, none⟩ (.int .i64 x.rd)).setCell ⟨w.heap.size, 2, none⟩ (.int .i64 x.pl)).setCell ⟨w.heap.size, 3, none⟩ (.string x.bs)).setCell ⟨w.heap.size, 4, none⟩ (.bool x.en)).setCell ⟨w.heap.size, 5, none⟩ (.int .i64 x.lm)).setCell ⟨w.heap.size, 6, none⟩ (.bool x.dn))) B a3 c3 (h.ws.take j ++ h.ws.drop (j + 1)) := by
      iterate 7 (refine El.Own.setCell ?_ (fun y hy => by have := hkb y hy; dsimp only; omega) _)
      exact o8
    have rK : Draw.Kept k w ((((((((W5.setCell ⟨w.heap.size, 0, none⟩ (.bool x.bk)).setCell ⟨w.heap.size, 1, none⟩ (.int .i64 x.rd)).setCell ⟨w.heap.size, 2, none⟩ (.int .i64 x.pl)).setCell ⟨w.heap.size, 3, none⟩ (.string x.bs)).setCell ⟨w.heap.size, 4, none⟩ (.bool x.en)).setCell ⟨w.heap.size, 5, none⟩ (.int .i64 x.lm)).setCell ⟨w.heap.size, 6, none⟩ (.bool x.dn))) := by
      iterate 7 (refine Draw.Kept.setCell ?_ (.inr (Nat.le_refl _)) _)
      exact K8
    generalize (((((((W5.setCell ⟨w.heap.size, 0, none⟩ (.bool x.bk)).setCell ⟨w.heap.size, 1, none⟩ (.int .i64 x.rd)).setCell ⟨w.heap.size, 2, none⟩ (.int .i64 x.pl)).setCell ⟨w.heap.size, 3, none⟩ (.string x.bs)).setCell ⟨w.heap.size, 4, none⟩ (.bool x.en)).setCell ⟨w.heap.size, 5, none⟩ (.int .i64 x.lm)).setCell ⟨w.heap.size, 6, none⟩ (.bool x.dn)) = W6 at *
    obtain ⟨s0, s1, s2, s3, s4, s5, s6⟩ := r4.c7
    have hlen : (h.ws.take j ++ h.ws.drop (j + 1)).length = j + (h.ws.length - (j + 1)) := by simp; omega
    refine bodyPost_ret (v := .tuple #[.agg #[.bool x.bk, .int .i64 x.rd, .int .i64 x.pl, .string x.bs, .bool x.en, .int .i64 x.lm, .bool x.dn], .bool true]) (by rw [Tak.res_cell_tmp rfl]; clear r4 rv ro rK v48 v68 v8 o8 d0 f0 y0 d1 f1 y1 d2 f2 y2 d3 f3 y3 d4 f4 y4 d5 f5 y5 d6 f6 y6; go_simp; done) rfl ?_
    first | exact ⟨a3, c3, rfl, (by simp only [Hp.c, hlen]; exact rv), ro, rK⟩ | exact ⟨rfl, a3, c3, (by simp only [Hp.c, hlen]; exact rv), ro, rK⟩

end Go.Proofs.YtjnkjeajkmgcmaaGreat.Hop
