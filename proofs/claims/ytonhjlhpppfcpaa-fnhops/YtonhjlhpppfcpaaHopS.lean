/- The program's posted; the hop's letters lie in memory of the caller's own. -/
import Derived.Test.YtonhjlhpppfcpaaHopR
namespace Go.Proofs.Ytonhjlhpppfcpaa.Hop
open Go.RowKit RowG
set_option linter.unusedVariables false
set_option linter.unusedSimpArgs false

/-- Is there room, and the road in range? -/
def roomB (h : Hp) (x : Lt) : Bool := decide (0 ≤ x.rd ∧ x.rd ≤ 3) && !decide (h.ws.length = 30)
def roomH (h : Hp) (x : Lt) : Hp := if roomB h x then ⟨h.g, h.t, h.ws ++ [x]⟩ else h

set_option maxRecDepth 10000 in
set_option maxHeartbeats 8000000 in
theorem posted (B : Nat) (h : Hp) (aT : Option Addr) (cT : Nat) (aW : Option Addr) (cW : Nat) (x : Lt) (w : World) (ho : letE.Own 45 w B aW cW h.ws) (hB : B ≤ w.heap.size) (hl : h.ws.length ≤ 524288) :
    Calls Try.prog 28 #[h.v aT cT aW cW, x.v] w fun e w' => ∃ aW' cW', e = .returned (.tuple #[(roomH h x).v aT cT aW' cW', .bool (roomB h x)]) ∧ letE.Own 45 w' B aW' cW' (roomH h x).ws ∧ Keep w.heap.size (blk aW) w w' := by
  have v2 : Var 31 (((w.alloc (.cells #[.int .i64 h.g.ba, .string h.g.bs, .int .i64 h.g.cp, .int .i64 h.g.lm, .bool h.g.en, .bool h.g.dn, .int .i64 h.t.nx, .string h.t.bs, .slice aT h.t.l.length cT, .int .i64 h.t.cp, .int .i64 h.t.fi, .bool h.t.en, .slice aW h.ws.length cW] 31)).alloc (.cells #[.bool x.bk, .int .i64 x.rd, .int .i64 x.pl, .string x.bs, .bool x.en, .int .i64 x.lm, .bool x.dn] 45)).alloc (.cells #[.int .i64 0, .string ⟨#[]⟩, .int .i64 0, .int .i64 0, .bool false, .bool false, .int .i64 0, .string ⟨#[]⟩, .slice none 0 0, .int .i64 0, .int .i64 0, .bool false, .slice none 0 0] 31)) w.heap.size [.int .i64 h.g.ba, .string h.g.bs, .int .i64 h.g.cp, .int .i64 h.g.lm, .bool h.g.en, .bool h.g.dn, .int .i64 h.t.nx, .string h.t.bs, .slice aT h.t.l.length cT, .int .i64 h.t.cp, .int .i64 h.t.fi, .bool h.t.en, .slice aW h.ws.length cW] := ((Var.new w [.int .i64 h.g.ba, .string h.g.bs, .int .i64 h.g.cp, .int .i64 h.g.lm, .bool h.g.en, .bool h.g.dn, .int .i64 h.t.nx, .string h.t.bs, .slice aT h.t.l.length cT, .int .i64 h.t.cp, .int .i64 h.t.fi, .bool h.t.en, .slice aW h.ws.length cW]).alloc _).alloc _
  have v3 : Var 45 (((w.alloc (.cells #[.int .i64 h.g.ba, .string h.g.bs, .int .i64 h.g.cp, .int .i64 h.g.lm, .bool h.g.en, .bool h.g.dn, .int .i64 h.t.nx, .string h.t.bs, .slice aT h.t.l.length cT, .int .i64 h.t.cp, .int .i64 h.t.fi, .bool h.t.en, .slice aW h.ws.length cW] 31)).alloc (.cells #[.bool x.bk, .int .i64 x.rd, .int .i64 x.pl, .string x.bs, .bool x.en, .int .i64 x.lm, .bool x.dn] 45)).alloc (.cells #[.int .i64 0, .string ⟨#[]⟩, .int .i64 0, .int .i64 0, .bool false, .bool false, .int .i64 0, .string ⟨#[]⟩, .slice none 0 0, .int .i64 0, .int .i64 0, .bool false, .slice none 0 0] 31)) (w.heap.size + 1) [.bool x.bk, .int .i64 x.rd, .int .i64 x.pl, .string x.bs, .bool x.en, .int .i64 x.lm, .bool x.dn] := by
    have q := (Var.new (T := 45) (w.alloc (.cells #[.int .i64 h.g.ba, .string h.g.bs, .int .i64 h.g.cp, .int .i64 h.g.lm, .bool h.g.en, .bool h.g.dn, .int .i64 h.t.nx, .string h.t.bs, .slice aT h.t.l.length cT, .int .i64 h.t.cp, .int .i64 h.t.fi, .bool h.t.en, .slice aW h.ws.length cW] 31)) [.bool x.bk, .int .i64 x.rd, .int .i64 x.pl, .string x.bs, .bool x.en, .int .i64 x.lm, .bool x.dn]).alloc (.cells #[.int .i64 0, .string ⟨#[]⟩, .int .i64 0, .int .i64 0, .bool false, .bool false, .int .i64 0, .string ⟨#[]⟩, .slice none 0 0, .int .i64 0, .int .i64 0, .bool false, .slice none 0 0] 31)
    simpa using q
  have v4 : Var 31 (((w.alloc (.cells #[.int .i64 h.g.ba, .string h.g.bs, .int .i64 h.g.cp, .int .i64 h.g.lm, .bool h.g.en, .bool h.g.dn, .int .i64 h.t.nx, .string h.t.bs, .slice aT h.t.l.length cT, .int .i64 h.t.cp, .int .i64 h.t.fi, .bool h.t.en, .slice aW h.ws.length cW] 31)).alloc (.cells #[.bool x.bk, .int .i64 x.rd, .int .i64 x.pl, .string x.bs, .bool x.en, .int .i64 x.lm, .bool x.dn] 45)).alloc (.cells #[.int .i64 0, .string ⟨#[]⟩, .int .i64 0, .int .i64 0, .bool false, .bool false, .int .i64 0, .string ⟨#[]⟩, .slice none 0 0, .int .i64 0, .int .i64 0, .bool false, .slice none 0 0] 31)) (w.heap.size + 1 + 1) [.int .i64 0, .string ⟨#[]⟩, .int .i64 0, .int .i64 0, .bool false, .bool false, .int .i64 0, .string ⟨#[]⟩, .slice none 0 0, .int .i64 0, .int .i64 0, .bool false, .slice none 0 0] := by
    have q := Var.new (T := 31) ((w.alloc (.cells #[.int .i64 h.g.ba, .string h.g.bs, .int .i64 h.g.cp, .int .i64 h.g.lm, .bool h.g.en, .bool h.g.dn, .int .i64 h.t.nx, .string h.t.bs, .slice aT h.t.l.length cT, .int .i64 h.t.cp, .int .i64 h.t.fi, .bool h.t.en, .slice aW h.ws.length cW] 31)).alloc (.cells #[.bool x.bk, .int .i64 x.rd, .int .i64 x.pl, .string x.bs, .bool x.en, .int .i64 x.lm, .bool x.dn] 45)) [.int .i64 0, .string ⟨#[]⟩, .int .i64 0, .int .i64 0, .bool false, .bool false, .int .i64 0, .string ⟨#[]⟩, .slice none 0 0, .int .i64 0, .int .i64 0, .bool false, .slice none 0 0]
    simpa using q
  have k0 : Keep w.heap.size (blk aW) w (((w.alloc (.cells #[.int .i64 h.g.ba, .string h.g.bs, .int .i64 h.g.cp, .int .i64 h.g.lm, .bool h.g.en, .bool h.g.dn, .int .i64 h.t.nx, .string h.t.bs, .slice aT h.t.l.length cT, .int .i64 h.t.cp, .int .i64 h.t.fi, .bool h.t.en, .slice aW h.ws.length cW] 31)).alloc (.cells #[.bool x.bk, .int .i64 x.rd, .int .i64 x.pl, .string x.bs, .bool x.en, .int .i64 x.lm, .bool x.dn] 45)).alloc (.cells #[.int .i64 0, .string ⟨#[]⟩, .int .i64 0, .int .i64 0, .bool false, .bool false, .int .i64 0, .string ⟨#[]⟩, .slice none 0 0, .int .i64 0, .int .i64 0, .bool false, .slice none 0 0] 31)) := (((Keep.refl _ _ _).alloc _).alloc _).alloc _
  have o0 : letE.Own 45 (((w.alloc (.cells #[.int .i64 h.g.ba, .string h.g.bs, .int .i64 h.g.cp, .int .i64 h.g.lm, .bool h.g.en, .bool h.g.dn, .int .i64 h.t.nx, .string h.t.bs, .slice aT h.t.l.length cT, .int .i64 h.t.cp, .int .i64 h.t.fi, .bool h.t.en, .slice aW h.ws.length cW] 31)).alloc (.cells #[.bool x.bk, .int .i64 x.rd, .int .i64 x.pl, .string x.bs, .bool x.en, .int .i64 x.lm, .bool x.dn] 45)).alloc (.cells #[.int .i64 0, .string ⟨#[]⟩, .int .i64 0, .int .i64 0, .bool false, .bool false, .int .i64 0, .string ⟨#[]⟩, .slice none 0 0, .int .i64 0, .int .i64 0, .bool false, .slice none 0 0] 31)) B aW cW h.ws := ((ho.alloc _).alloc _).alloc _
  have HP : Hid (roomB h x = (decide (0 ≤ x.rd ∧ x.rd ≤ 3) && !decide (h.ws.length = 30))) := rfl
  have HQ : Hid (roomH h x = if roomB h x then ⟨h.g, h.t, h.ws ++ [x]⟩ else h) := rfl
  have hR := fun w' => isRoad x.rd w'
  generalize roomB h x = pb at *
  generalize roomH h x = ph at *
  go_enter Try.func28, Try.ntmps28
  go_upto_region 1 with (fail)
  generalize ((w.alloc (.cells #[.int .i64 h.g.ba, .string h.g.bs, .int .i64 h.g.cp, .int .i64 h.g.lm, .bool h.g.en, .bool h.g.dn, .int .i64 h.t.nx, .string h.t.bs, .slice aT h.t.l.length cT, .int .i64 h.t.cp, .int .i64 h.t.fi, .bool h.t.en, .slice aW h.ws.length cW] 31)).alloc (.cells #[.bool x.bk, .int .i64 x.rd, .int .i64 x.pl, .string x.bs, .bool x.en, .int .i64 x.lm, .bool x.dn] 45)).alloc (.cells #[.int .i64 0, .string ⟨#[]⟩, .int .i64 0, .int .i64 0, .bool false, .bool false, .int .i64 0, .string ⟨#[]⟩, .slice none 0 0, .int .i64 0, .int .i64 0, .bool false, .slice none 0 0] 31) = V at *
  have d0 := v3.cell (i := 0) rfl
  have d1 := v3.cell (i := 1) rfl
  have d2 := v3.cell (i := 2) rfl
  have d3 := v3.cell (i := 3) rfl
  have d4 := v3.cell (i := 4) rfl
  have d5 := v3.cell (i := 5) rfl
  have d6 := v3.cell (i := 6) rfl
  have e12 := v2.cell (i := 12) rfl
  have hws : w.heap.size + 1 + 1 < V.heap.size := v4.lt
  go_wp2_with fail
  refine (hR _).mono ?_
  rintro e w1 ⟨rfl, rfl⟩
  cases hr : decide (0 ≤ x.rd ∧ x.rd ≤ 3)
  focus
    have hpb : pb = false := by rw [HP.out]; rw [hr]; rfl
    subst hpb
    have hph : ph = h := HQ.out
    subst hph
    clear d0 d1 d2 d3 d4 d5 d6 e12
    have e0 := v2.cell (i := 0) rfl
    have e1 := v2.cell (i := 1) rfl
    have e2 := v2.cell (i := 2) rfl
    have e3 := v2.cell (i := 3) rfl
    have e4 := v2.cell (i := 4) rfl
    have e5 := v2.cell (i := 5) rfl
    have e6 := v2.cell (i := 6) rfl
    have e7 := v2.cell (i := 7) rfl
    have e8 := v2.cell (i := 8) rfl
    have e9 := v2.cell (i := 9) rfl
    have e10 := v2.cell (i := 10) rfl
    have e11 := v2.cell (i := 11) rfl
    have e12 := v2.cell (i := 12) rfl
    have f0 := v4.cell (i := 0) rfl
    have f1 := v4.cell (i := 1) rfl
    have f2 := v4.cell (i := 2) rfl
    have f3 := v4.cell (i := 3) rfl
    have f4 := v4.cell (i := 4) rfl
    have f5 := v4.cell (i := 5) rfl
    have f6 := v4.cell (i := 6) rfl
    have f7 := v4.cell (i := 7) rfl
    have f8 := v4.cell (i := 8) rfl
    have f9 := v4.cell (i := 9) rfl
    have f10 := v4.cell (i := 10) rfl
    have f11 := v4.cell (i := 11) rfl
    have f12 := v4.cell (i := 12) rfl
    have y0 := v4.free 0
    have y1 := v4.free 1
    have y2 := v4.free 2
    have y3 := v4.free 3
    have y4 := v4.free 4
    have y5 := v4.free 5
    have y6 := v4.free 6
    have y7 := v4.free 7
    have y8 := v4.free 8
    have y9 := v4.free 9
    have y10 := v4.free 10
    have y11 := v4.free 11
    have y12 := v4.free 12
    go_wp2_with fail
    have r2 : Var 31 ((((((((((((((V.setCell ⟨(w.heap.size + 1 + 1), 0, none⟩ (.int .i64 ph.g.ba)).setCell ⟨(w.heap.size + 1 + 1), 1, none⟩ (.string ph.g.bs)).setCell ⟨(w.heap.size + 1 + 1), 2, none⟩ (.int .i64 ph.g.cp)).setCell ⟨(w.heap.size + 1 + 1), 3, none⟩ (.int .i64 ph.g.lm)).setCell ⟨(w.heap.size + 1 + 1), 4, none⟩ (.bool ph.g.en)).setCell ⟨(w.heap.size + 1 + 1), 5, none⟩ (.bool ph.g.dn)).setCell ⟨(w.heap.size + 1 + 1), 6, none⟩ (.int .i64 ph.t.nx)).setCell ⟨(w.heap.size + 1 + 1), 7, none⟩ (.string ph.t.bs)).setCell ⟨(w.heap.size + 1 + 1), 8, none⟩ (.slice aT ph.t.l.length cT)).setCell ⟨(w.heap.size + 1 + 1), 9, none⟩ (.int .i64 ph.t.cp)).setCell ⟨(w.heap.size + 1 + 1), 10, none⟩ (.int .i64 ph.t.fi)).setCell ⟨(w.heap.size + 1 + 1), 11, none⟩ (.bool ph.t.en)).setCell ⟨(w.heap.size + 1 + 1), 12, none⟩ (.slice aW ph.ws.length cW))) (w.heap.size + 1 + 1) [.int .i64 ph.g.ba, .string ph.g.bs, .int .i64 ph.g.cp, .int .i64 ph.g.lm, .bool ph.g.en, .bool ph.g.dn, .int .i64 ph.t.nx, .string ph.t.bs, .slice aT ph.t.l.length cT, .int .i64 ph.t.cp, .int .i64 ph.t.fi, .bool ph.t.en, .slice aW ph.ws.length cW] := (((((((((((((v4.set 0 _).set 1 _).set 2 _).set 3 _).set 4 _).set 5 _).set 6 _).set 7 _).set 8 _).set 9 _).set 10 _).set 11 _).set 12 _)
    have rW : letE.Own 45 ((((((((((((((V.setCell ⟨(w.heap.size + 1 + 1), 0, none⟩ (.int .i64 ph.g.ba)).setCell ⟨(w.heap.size + 1 + 1), 1, none⟩ (.string ph.g.bs)).setCell ⟨(w.heap.size + 1 + 1), 2, none⟩ (.int .i64 ph.g.cp)).setCell ⟨(w.heap.size + 1 + 1), 3, none⟩ (.int .i64 ph.g.lm)).setCell ⟨(w.heap.size + 1 + 1), 4, none⟩ (.bool ph.g.en)).setCell ⟨(w.heap.size + 1 + 1), 5, none⟩ (.bool ph.g.dn)).setCell ⟨(w.heap.size + 1 + 1), 6, none⟩ (.int .i64 ph.t.nx)).setCell ⟨(w.heap.size + 1 + 1), 7, none⟩ (.string ph.t.bs)).setCell ⟨(w.heap.size + 1 + 1), 8, none⟩ (.slice aT ph.t.l.length cT)).setCell ⟨(w.heap.size + 1 + 1), 9, none⟩ (.int .i64 ph.t.cp)).setCell ⟨(w.heap.size + 1 + 1), 10, none⟩ (.int .i64 ph.t.fi)).setCell ⟨(w.heap.size + 1 + 1), 11, none⟩ (.bool ph.t.en)).setCell ⟨(w.heap.size + 1 + 1), 12, none⟩ (.slice aW ph.ws.length cW))) B aW cW ph.ws := by
      iterate 13 (refine El.Own.setCell ?_ (fun y hy => by have := (ho.lt y hy).2; dsimp only; omega) _)
      exact o0
    have rK : Keep w.heap.size (blk aW) w ((((((((((((((V.setCell ⟨(w.heap.size + 1 + 1), 0, none⟩ (.int .i64 ph.g.ba)).setCell ⟨(w.heap.size + 1 + 1), 1, none⟩ (.string ph.g.bs)).setCell ⟨(w.heap.size + 1 + 1), 2, none⟩ (.int .i64 ph.g.cp)).setCell ⟨(w.heap.size + 1 + 1), 3, none⟩ (.int .i64 ph.g.lm)).setCell ⟨(w.heap.size + 1 + 1), 4, none⟩ (.bool ph.g.en)).setCell ⟨(w.heap.size + 1 + 1), 5, none⟩ (.bool ph.g.dn)).setCell ⟨(w.heap.size + 1 + 1), 6, none⟩ (.int .i64 ph.t.nx)).setCell ⟨(w.heap.size + 1 + 1), 7, none⟩ (.string ph.t.bs)).setCell ⟨(w.heap.size + 1 + 1), 8, none⟩ (.slice aT ph.t.l.length cT)).setCell ⟨(w.heap.size + 1 + 1), 9, none⟩ (.int .i64 ph.t.cp)).setCell ⟨(w.heap.size + 1 + 1), 10, none⟩ (.int .i64 ph.t.fi)).setCell ⟨(w.heap.size + 1 + 1), 11, none⟩ (.bool ph.t.en)).setCell ⟨(w.heap.size + 1 + 1), 12, none⟩ (.slice aW ph.ws.length cW))) := (Keep.setCell (Keep.setCell (Keep.setCell (Keep.setCell (Keep.setCell (Keep.setCell (Keep.setCell (Keep.setCell (Keep.setCell (Keep.setCell (Keep.setCell (Keep.setCell (Keep.setCell k0 (p := ⟨(w.heap.size + 1 + 1), 0, none⟩) (.inr (by dsimp only; omega)) _) (p := ⟨(w.heap.size + 1 + 1), 1, none⟩) (.inr (by dsimp only; omega)) _) (p := ⟨(w.heap.size + 1 + 1), 2, none⟩) (.inr (by dsimp only; omega)) _) (p := ⟨(w.heap.size + 1 + 1), 3, none⟩) (.inr (by dsimp only; omega)) _) (p := ⟨(w.heap.size + 1 + 1), 4, none⟩) (.inr (by dsimp only; omega)) _) (p := ⟨(w.heap.size + 1 + 1), 5, none⟩) (.inr (by dsimp only; omega)) _) (p := ⟨(w.heap.size + 1 + 1), 6, none⟩) (.inr (by dsimp only; omega)) _) (p := ⟨(w.heap.size + 1 + 1), 7, none⟩) (.inr (by dsimp only; omega)) _) (p := ⟨(w.heap.size + 1 + 1), 8, none⟩) (.inr (by dsimp only; omega)) _) (p := ⟨(w.heap.size + 1 + 1), 9, none⟩) (.inr (by dsimp only; omega)) _) (p := ⟨(w.heap.size + 1 + 1), 10, none⟩) (.inr (by dsimp only; omega)) _) (p := ⟨(w.heap.size + 1 + 1), 11, none⟩) (.inr (by dsimp only; omega)) _) (p := ⟨(w.heap.size + 1 + 1), 12, none⟩) (.inr (by dsimp only; omega)) _)
    generalize (((((((((((((V.setCell ⟨(w.heap.size + 1 + 1), 0, none⟩ (.int .i64 ph.g.ba)).setCell ⟨(w.heap.size + 1 + 1), 1, none⟩ (.string ph.g.bs)).setCell ⟨(w.heap.size + 1 + 1), 2, none⟩ (.int .i64 ph.g.cp)).setCell ⟨(w.heap.size + 1 + 1), 3, none⟩ (.int .i64 ph.g.lm)).setCell ⟨(w.heap.size + 1 + 1), 4, none⟩ (.bool ph.g.en)).setCell ⟨(w.heap.size + 1 + 1), 5, none⟩ (.bool ph.g.dn)).setCell ⟨(w.heap.size + 1 + 1), 6, none⟩ (.int .i64 ph.t.nx)).setCell ⟨(w.heap.size + 1 + 1), 7, none⟩ (.string ph.t.bs)).setCell ⟨(w.heap.size + 1 + 1), 8, none⟩ (.slice aT ph.t.l.length cT)).setCell ⟨(w.heap.size + 1 + 1), 9, none⟩ (.int .i64 ph.t.cp)).setCell ⟨(w.heap.size + 1 + 1), 10, none⟩ (.int .i64 ph.t.fi)).setCell ⟨(w.heap.size + 1 + 1), 11, none⟩ (.bool ph.t.en)).setCell ⟨(w.heap.size + 1 + 1), 12, none⟩ (.slice aW ph.ws.length cW)) = W4 at *
    have s0 := r2.cell (i := 0) rfl
    have s1 := r2.cell (i := 1) rfl
    have s2 := r2.cell (i := 2) rfl
    have s3 := r2.cell (i := 3) rfl
    have s4 := r2.cell (i := 4) rfl
    have s5 := r2.cell (i := 5) rfl
    have s6 := r2.cell (i := 6) rfl
    have s7 := r2.cell (i := 7) rfl
    have s8 := r2.cell (i := 8) rfl
    have s9 := r2.cell (i := 9) rfl
    have s10 := r2.cell (i := 10) rfl
    have s11 := r2.cell (i := 11) rfl
    have s12 := r2.cell (i := 12) rfl
    refine bodyPost_ret (v := .tuple #[.agg #[.int .i64 ph.g.ba, .string ph.g.bs, .int .i64 ph.g.cp, .int .i64 ph.g.lm, .bool ph.g.en, .bool ph.g.dn, .int .i64 ph.t.nx, .string ph.t.bs, .slice aT ph.t.l.length cT, .int .i64 ph.t.cp, .int .i64 ph.t.fi, .bool ph.t.en, .slice aW ph.ws.length cW], .bool false]) (by rw [Tak.res_cell_tmp rfl]; clear r2 rW rK v2 v3 v4 o0 k0 e0 f0 y0 e1 f1 y1 e2 f2 y2 e3 f3 y3 e4 f4 y4 e5 f5 y5 e6 f6 y6 e7 f7 y7 e8 f8 y8 e9 f9 y9 e10 f10 y10 e11 f11 y11 e12 f12 y12; go_simp; done) rfl ?_
    first | exact ⟨aW, cW, rfl, rW, rK⟩ | exact ⟨rfl, aW, cW, rW, rK⟩
  focus
    by_cases h30 : h.ws.length = 30
    case pos =>
      have hq1 : decide ((h.ws.length : Int) = 30) = true := decide_eq_true (by omega)
      have hq2 : ((h.ws.length : Int) == 30) = true := by simp [h30]
      have H30 : Hid (h.ws.length = 30) := h30
      clear h30
      have hpb : pb = false := by rw [HP.out]; rw [decide_eq_true H30.out, Bool.not_true, Bool.and_false]
      subst hpb
      have hph : ph = h := HQ.out
      subst hph
      clear d0 d1 d2 d3 d4 d5 d6 e12
      have e0 := v2.cell (i := 0) rfl
      have e1 := v2.cell (i := 1) rfl
      have e2 := v2.cell (i := 2) rfl
      have e3 := v2.cell (i := 3) rfl
      have e4 := v2.cell (i := 4) rfl
      have e5 := v2.cell (i := 5) rfl
      have e6 := v2.cell (i := 6) rfl
      have e7 := v2.cell (i := 7) rfl
      have e8 := v2.cell (i := 8) rfl
      have e9 := v2.cell (i := 9) rfl
      have e10 := v2.cell (i := 10) rfl
      have e11 := v2.cell (i := 11) rfl
      have e12 := v2.cell (i := 12) rfl
      have f0 := v4.cell (i := 0) rfl
      have f1 := v4.cell (i := 1) rfl
      have f2 := v4.cell (i := 2) rfl
      have f3 := v4.cell (i := 3) rfl
      have f4 := v4.cell (i := 4) rfl
      have f5 := v4.cell (i := 5) rfl
      have f6 := v4.cell (i := 6) rfl
      have f7 := v4.cell (i := 7) rfl
      have f8 := v4.cell (i := 8) rfl
      have f9 := v4.cell (i := 9) rfl
      have f10 := v4.cell (i := 10) rfl
      have f11 := v4.cell (i := 11) rfl
      have f12 := v4.cell (i := 12) rfl
      have y0 := v4.free 0
      have y1 := v4.free 1
      have y2 := v4.free 2
      have y3 := v4.free 3
      have y4 := v4.free 4
      have y5 := v4.free 5
      have y6 := v4.free 6
      have y7 := v4.free 7
      have y8 := v4.free 8
      have y9 := v4.free 9
      have y10 := v4.free 10
      have y11 := v4.free 11
      have y12 := v4.free 12
      go_wp2_with fail
      have r2 : Var 31 ((((((((((((((V.setCell ⟨(w.heap.size + 1 + 1), 0, none⟩ (.int .i64 ph.g.ba)).setCell ⟨(w.heap.size + 1 + 1), 1, none⟩ (.string ph.g.bs)).setCell ⟨(w.heap.size + 1 + 1), 2, none⟩ (.int .i64 ph.g.cp)).setCell ⟨(w.heap.size + 1 + 1), 3, none⟩ (.int .i64 ph.g.lm)).setCell ⟨(w.heap.size + 1 + 1), 4, none⟩ (.bool ph.g.en)).setCell ⟨(w.heap.size + 1 + 1), 5, none⟩ (.bool ph.g.dn)).setCell ⟨(w.heap.size + 1 + 1), 6, none⟩ (.int .i64 ph.t.nx)).setCell ⟨(w.heap.size + 1 + 1), 7, none⟩ (.string ph.t.bs)).setCell ⟨(w.heap.size + 1 + 1), 8, none⟩ (.slice aT ph.t.l.length cT)).setCell ⟨(w.heap.size + 1 + 1), 9, none⟩ (.int .i64 ph.t.cp)).setCell ⟨(w.heap.size + 1 + 1), 10, none⟩ (.int .i64 ph.t.fi)).setCell ⟨(w.heap.size + 1 + 1), 11, none⟩ (.bool ph.t.en)).setCell ⟨(w.heap.size + 1 + 1), 12, none⟩ (.slice aW ph.ws.length cW))) (w.heap.size + 1 + 1) [.int .i64 ph.g.ba, .string ph.g.bs, .int .i64 ph.g.cp, .int .i64 ph.g.lm, .bool ph.g.en, .bool ph.g.dn, .int .i64 ph.t.nx, .string ph.t.bs, .slice aT ph.t.l.length cT, .int .i64 ph.t.cp, .int .i64 ph.t.fi, .bool ph.t.en, .slice aW ph.ws.length cW] := (((((((((((((v4.set 0 _).set 1 _).set 2 _).set 3 _).set 4 _).set 5 _).set 6 _).set 7 _).set 8 _).set 9 _).set 10 _).set 11 _).set 12 _)
      have rW : letE.Own 45 ((((((((((((((V.setCell ⟨(w.heap.size + 1 + 1), 0, none⟩ (.int .i64 ph.g.ba)).setCell ⟨(w.heap.size + 1 + 1), 1, none⟩ (.string ph.g.bs)).setCell ⟨(w.heap.size + 1 + 1), 2, none⟩ (.int .i64 ph.g.cp)).setCell ⟨(w.heap.size + 1 + 1), 3, none⟩ (.int .i64 ph.g.lm)).setCell ⟨(w.heap.size + 1 + 1), 4, none⟩ (.bool ph.g.en)).setCell ⟨(w.heap.size + 1 + 1), 5, none⟩ (.bool ph.g.dn)).setCell ⟨(w.heap.size + 1 + 1), 6, none⟩ (.int .i64 ph.t.nx)).setCell ⟨(w.heap.size + 1 + 1), 7, none⟩ (.string ph.t.bs)).setCell ⟨(w.heap.size + 1 + 1), 8, none⟩ (.slice aT ph.t.l.length cT)).setCell ⟨(w.heap.size + 1 + 1), 9, none⟩ (.int .i64 ph.t.cp)).setCell ⟨(w.heap.size + 1 + 1), 10, none⟩ (.int .i64 ph.t.fi)).setCell ⟨(w.heap.size + 1 + 1), 11, none⟩ (.bool ph.t.en)).setCell ⟨(w.heap.size + 1 + 1), 12, none⟩ (.slice aW ph.ws.length cW))) B aW cW ph.ws := by
        iterate 13 (refine El.Own.setCell ?_ (fun y hy => by have := (ho.lt y hy).2; dsimp only; omega) _)
        exact o0
      have rK : Keep w.heap.size (blk aW) w ((((((((((((((V.setCell ⟨(w.heap.size + 1 + 1), 0, none⟩ (.int .i64 ph.g.ba)).setCell ⟨(w.heap.size + 1 + 1), 1, none⟩ (.string ph.g.bs)).setCell ⟨(w.heap.size + 1 + 1), 2, none⟩ (.int .i64 ph.g.cp)).setCell ⟨(w.heap.size + 1 + 1), 3, none⟩ (.int .i64 ph.g.lm)).setCell ⟨(w.heap.size + 1 + 1), 4, none⟩ (.bool ph.g.en)).setCell ⟨(w.heap.size + 1 + 1), 5, none⟩ (.bool ph.g.dn)).setCell ⟨(w.heap.size + 1 + 1), 6, none⟩ (.int .i64 ph.t.nx)).setCell ⟨(w.heap.size + 1 + 1), 7, none⟩ (.string ph.t.bs)).setCell ⟨(w.heap.size + 1 + 1), 8, none⟩ (.slice aT ph.t.l.length cT)).setCell ⟨(w.heap.size + 1 + 1), 9, none⟩ (.int .i64 ph.t.cp)).setCell ⟨(w.heap.size + 1 + 1), 10, none⟩ (.int .i64 ph.t.fi)).setCell ⟨(w.heap.size + 1 + 1), 11, none⟩ (.bool ph.t.en)).setCell ⟨(w.heap.size + 1 + 1), 12, none⟩ (.slice aW ph.ws.length cW))) := (Keep.setCell (Keep.setCell (Keep.setCell (Keep.setCell (Keep.setCell (Keep.setCell (Keep.setCell (Keep.setCell (Keep.setCell (Keep.setCell (Keep.setCell (Keep.setCell (Keep.setCell k0 (p := ⟨(w.heap.size + 1 + 1), 0, none⟩) (.inr (by dsimp only; omega)) _) (p := ⟨(w.heap.size + 1 + 1), 1, none⟩) (.inr (by dsimp only; omega)) _) (p := ⟨(w.heap.size + 1 + 1), 2, none⟩) (.inr (by dsimp only; omega)) _) (p := ⟨(w.heap.size + 1 + 1), 3, none⟩) (.inr (by dsimp only; omega)) _) (p := ⟨(w.heap.size + 1 + 1), 4, none⟩) (.inr (by dsimp only; omega)) _) (p := ⟨(w.heap.size + 1 + 1), 5, none⟩) (.inr (by dsimp only; omega)) _) (p := ⟨(w.heap.size + 1 + 1), 6, none⟩) (.inr (by dsimp only; omega)) _) (p := ⟨(w.heap.size + 1 + 1), 7, none⟩) (.inr (by dsimp only; omega)) _) (p := ⟨(w.heap.size + 1 + 1), 8, none⟩) (.inr (by dsimp only; omega)) _) (p := ⟨(w.heap.size + 1 + 1), 9, none⟩) (.inr (by dsimp only; omega)) _) (p := ⟨(w.heap.size + 1 + 1), 10, none⟩) (.inr (by dsimp only; omega)) _) (p := ⟨(w.heap.size + 1 + 1), 11, none⟩) (.inr (by dsimp only; omega)) _) (p := ⟨(w.heap.size + 1 + 1), 12, none⟩) (.inr (by dsimp only; omega)) _)
      generalize (((((((((((((V.setCell ⟨(w.heap.size + 1 + 1), 0, none⟩ (.int .i64 ph.g.ba)).setCell ⟨(w.heap.size + 1 + 1), 1, none⟩ (.string ph.g.bs)).setCell ⟨(w.heap.size + 1 + 1), 2, none⟩ (.int .i64 ph.g.cp)).setCell ⟨(w.heap.size + 1 + 1), 3, none⟩ (.int .i64 ph.g.lm)).setCell ⟨(w.heap.size + 1 + 1), 4, none⟩ (.bool ph.g.en)).setCell ⟨(w.heap.size + 1 + 1), 5, none⟩ (.bool ph.g.dn)).setCell ⟨(w.heap.size + 1 + 1), 6, none⟩ (.int .i64 ph.t.nx)).setCell ⟨(w.heap.size + 1 + 1), 7, none⟩ (.string ph.t.bs)).setCell ⟨(w.heap.size + 1 + 1), 8, none⟩ (.slice aT ph.t.l.length cT)).setCell ⟨(w.heap.size + 1 + 1), 9, none⟩ (.int .i64 ph.t.cp)).setCell ⟨(w.heap.size + 1 + 1), 10, none⟩ (.int .i64 ph.t.fi)).setCell ⟨(w.heap.size + 1 + 1), 11, none⟩ (.bool ph.t.en)).setCell ⟨(w.heap.size + 1 + 1), 12, none⟩ (.slice aW ph.ws.length cW)) = W4 at *
      have s0 := r2.cell (i := 0) rfl
      have s1 := r2.cell (i := 1) rfl
      have s2 := r2.cell (i := 2) rfl
      have s3 := r2.cell (i := 3) rfl
      have s4 := r2.cell (i := 4) rfl
      have s5 := r2.cell (i := 5) rfl
      have s6 := r2.cell (i := 6) rfl
      have s7 := r2.cell (i := 7) rfl
      have s8 := r2.cell (i := 8) rfl
      have s9 := r2.cell (i := 9) rfl
      have s10 := r2.cell (i := 10) rfl
      have s11 := r2.cell (i := 11) rfl
      have s12 := r2.cell (i := 12) rfl
      refine bodyPost_ret (v := .tuple #[.agg #[.int .i64 ph.g.ba, .string ph.g.bs, .int .i64 ph.g.cp, .int .i64 ph.g.lm, .bool ph.g.en, .bool ph.g.dn, .int .i64 ph.t.nx, .string ph.t.bs, .slice aT ph.t.l.length cT, .int .i64 ph.t.cp, .int .i64 ph.t.fi, .bool ph.t.en, .slice aW ph.ws.length cW], .bool false]) (by rw [Tak.res_cell_tmp rfl]; clear r2 rW rK v2 v3 v4 o0 k0 e0 f0 y0 e1 f1 y1 e2 f2 y2 e3 f3 y3 e4 f4 y4 e5 f5 y5 e6 f6 y6 e7 f7 y7 e8 f8 y8 e9 f9 y9 e10 f10 y10 e11 f11 y11 e12 f12 y12; go_simp; done) rfl ?_
      first | exact ⟨aW, cW, rfl, rW, rK⟩ | exact ⟨rfl, aW, cW, rW, rK⟩
    case neg =>
      have h30i : ¬ (h.ws.length : Int) = 30 := by omega
      have hpb : pb = true := by rw [HP.out, hr, decide_eq_false h30]; rfl
      subst hpb
      have hph : ph = ⟨h.g, h.t, h.ws ++ [x]⟩ := HQ.out
      subst hph
      clear HP HQ
      have hk1 : some w.heap.size ≠ blk aW := by
        cases aW with
        | none => simp [blk]
        | some y => simp [blk]; have := (ho.lt y rfl).2; omega
      have hk2 : some (w.heap.size + 1 + 1) ≠ blk aW := by
        cases aW with
        | none => simp [blk]
        | some y => simp [blk]; have := (ho.lt y rfl).2; omega
      have hz : h.ws.length + [x].length ≤ 4194304 := by simp; omega
      have hBA : B ≤ (V.alloc (.cells #[.bool x.bk, .int .i64 x.rd, .int .i64 x.pl, .string x.bs, .bool x.en, .int .i64 x.lm, .bool x.dn] 45)).heap.size := by have := k0.size; simp; omega
      have lx : letE.Lies (V.alloc (.cells #[.bool x.bk, .int .i64 x.rd, .int .i64 x.pl, .string x.bs, .bool x.en, .int .i64 x.lm, .bool x.dn] 45)) (some ⟨V.heap.size, 0, none⟩) [x] := El.lies_new rfl
      go_wp2_with (at_builtin; refine wpList_app typ (by decide) (by rfl) _ _ (by rfl) B aW cW h.ws.length h.ws [x] rfl (by rfl) (o0.alloc _) hBA (some ⟨V.heap.size, 0, none⟩) 1 1 rfl (by rfl) lx (by simp) hz ?_; intro a8 c8 w8 o8 g8; refine Tak.stand ?_)
      have p2 := (v2.alloc (.cells #[.bool x.bk, .int .i64 x.rd, .int .i64 x.pl, .string x.bs, .bool x.en, .int .i64 x.lm, .bool x.dn] 45)).grown g8 (by intro g hg e; exact hk1 (by rw [e, hg]))
      have p4 := (v4.alloc (.cells #[.bool x.bk, .int .i64 x.rd, .int .i64 x.pl, .string x.bs, .bool x.en, .int .i64 x.lm, .bool x.dn] 45)).grown g8 (by intro g hg e; exact hk2 (by rw [e, hg]))
      have k8 := (k0.alloc (.cells #[.bool x.bk, .int .i64 x.rd, .int .i64 x.pl, .string x.bs, .bool x.en, .int .i64 x.lm, .bool x.dn] 45)).grown g8
      clear d0 d1 d2 d3 d4 d5 d6 e12 hz hBA lx g8 v2 v3 v4 k0 o0
      show wpList _ _ _ _ _ _
      have e12 := p2.cell (i := 12) rfl
      have f12 := p2.free 12
      go_upto_region 4 with (fail)
      have q2 := p2.set 12 (.slice a8 (h.ws.length + 1) c8)
      have q4 := p4.other (p := ⟨w.heap.size, 12, none⟩) (by dsimp only; omega) (.slice a8 (h.ws.length + 1) c8)
      have k9 := k8.setCell (p := ⟨w.heap.size, 12, none⟩) (.inl rfl) (.slice a8 (h.ws.length + 1) c8)
      have o9 := o8.setCell (p := ⟨w.heap.size, 12, none⟩) (fun y e => own_win (by decide) o8 p2.win y e) (.slice a8 (h.ws.length + 1) c8)
      generalize w8.setCell ⟨w.heap.size, 12, none⟩ (.slice a8 (h.ws.length + 1) c8) = W9 at *
      clear p2 p4 k8 o8 e12 f12
      have e0 := q2.cell (i := 0) rfl
      have e1 := q2.cell (i := 1) rfl
      have e2 := q2.cell (i := 2) rfl
      have e3 := q2.cell (i := 3) rfl
      have e4 := q2.cell (i := 4) rfl
      have e5 := q2.cell (i := 5) rfl
      have e6 := q2.cell (i := 6) rfl
      have e7 := q2.cell (i := 7) rfl
      have e8 := q2.cell (i := 8) rfl
      have e9 := q2.cell (i := 9) rfl
      have e10 := q2.cell (i := 10) rfl
      have e11 := q2.cell (i := 11) rfl
      have e12 := q2.cell (i := 12) rfl
      have f0 := q4.cell (i := 0) rfl
      have f1 := q4.cell (i := 1) rfl
      have f2 := q4.cell (i := 2) rfl
      have f3 := q4.cell (i := 3) rfl
      have f4 := q4.cell (i := 4) rfl
      have f5 := q4.cell (i := 5) rfl
      have f6 := q4.cell (i := 6) rfl
      have f7 := q4.cell (i := 7) rfl
      have f8 := q4.cell (i := 8) rfl
      have f9 := q4.cell (i := 9) rfl
      have f10 := q4.cell (i := 10) rfl
      have f11 := q4.cell (i := 11) rfl
      have f12 := q4.cell (i := 12) rfl
      have y0 := q4.free 0
      have y1 := q4.free 1
      have y2 := q4.free 2
      have y3 := q4.free 3
      have y4 := q4.free 4
      have y5 := q4.free 5
      have y6 := q4.free 6
      have y7 := q4.free 7
      have y8 := q4.free 8
      have y9 := q4.free 9
      have y10 := q4.free 10
      have y11 := q4.free 11
      have y12 := q4.free 12
      go_wp2_with fail
      have r2 : Var 31 ((((((((((((((W9.setCell ⟨(w.heap.size + 1 + 1), 0, none⟩ (.int .i64 h.g.ba)).setCell ⟨(w.heap.size + 1 + 1), 1, none⟩ (.string h.g.bs)).setCell ⟨(w.heap.size + 1 + 1), 2, none⟩ (.int .i64 h.g.cp)).setCell ⟨(w.heap.size + 1 + 1), 3, none⟩ (.int .i64 h.g.lm)).setCell ⟨(w.heap.size + 1 + 1), 4, none⟩ (.bool h.g.en)).setCell ⟨(w.heap.size + 1 + 1), 5, none⟩ (.bool h.g.dn)).setCell ⟨(w.heap.size + 1 + 1), 6, none⟩ (.int .i64 h.t.nx)).setCell ⟨(w.heap.size + 1 + 1), 7, none⟩ (.string h.t.bs)).setCell ⟨(w.heap.size + 1 + 1), 8, none⟩ (.slice aT h.t.l.length cT)).setCell ⟨(w.heap.size + 1 + 1), 9, none⟩ (.int .i64 h.t.cp)).setCell ⟨(w.heap.size + 1 + 1), 10, none⟩ (.int .i64 h.t.fi)).setCell ⟨(w.heap.size + 1 + 1), 11, none⟩ (.bool h.t.en)).setCell ⟨(w.heap.size + 1 + 1), 12, none⟩ (.slice a8 (h.ws.length + 1) c8))) (w.heap.size + 1 + 1) [.int .i64 h.g.ba, .string h.g.bs, .int .i64 h.g.cp, .int .i64 h.g.lm, .bool h.g.en, .bool h.g.dn, .int .i64 h.t.nx, .string h.t.bs, .slice aT h.t.l.length cT, .int .i64 h.t.cp, .int .i64 h.t.fi, .bool h.t.en, .slice a8 (h.ws.length + 1) c8] := (((((((((((((q4.set 0 _).set 1 _).set 2 _).set 3 _).set 4 _).set 5 _).set 6 _).set 7 _).set 8 _).set 9 _).set 10 _).set 11 _).set 12 _)
      have rW : letE.Own 45 ((((((((((((((W9.setCell ⟨(w.heap.size + 1 + 1), 0, none⟩ (.int .i64 h.g.ba)).setCell ⟨(w.heap.size + 1 + 1), 1, none⟩ (.string h.g.bs)).setCell ⟨(w.heap.size + 1 + 1), 2, none⟩ (.int .i64 h.g.cp)).setCell ⟨(w.heap.size + 1 + 1), 3, none⟩ (.int .i64 h.g.lm)).setCell ⟨(w.heap.size + 1 + 1), 4, none⟩ (.bool h.g.en)).setCell ⟨(w.heap.size + 1 + 1), 5, none⟩ (.bool h.g.dn)).setCell ⟨(w.heap.size + 1 + 1), 6, none⟩ (.int .i64 h.t.nx)).setCell ⟨(w.heap.size + 1 + 1), 7, none⟩ (.string h.t.bs)).setCell ⟨(w.heap.size + 1 + 1), 8, none⟩ (.slice aT h.t.l.length cT)).setCell ⟨(w.heap.size + 1 + 1), 9, none⟩ (.int .i64 h.t.cp)).setCell ⟨(w.heap.size + 1 + 1), 10, none⟩ (.int .i64 h.t.fi)).setCell ⟨(w.heap.size + 1 + 1), 11, none⟩ (.bool h.t.en)).setCell ⟨(w.heap.size + 1 + 1), 12, none⟩ (.slice a8 (h.ws.length + 1) c8))) B a8 c8 (h.ws ++ [x]) := by
        iterate 13 (refine El.Own.setCell ?_ (fun y hy => by have := (own_win (by decide) o9 q4.win y hy); exact this) _)
        exact o9
      have rK : Keep w.heap.size (blk aW) w ((((((((((((((W9.setCell ⟨(w.heap.size + 1 + 1), 0, none⟩ (.int .i64 h.g.ba)).setCell ⟨(w.heap.size + 1 + 1), 1, none⟩ (.string h.g.bs)).setCell ⟨(w.heap.size + 1 + 1), 2, none⟩ (.int .i64 h.g.cp)).setCell ⟨(w.heap.size + 1 + 1), 3, none⟩ (.int .i64 h.g.lm)).setCell ⟨(w.heap.size + 1 + 1), 4, none⟩ (.bool h.g.en)).setCell ⟨(w.heap.size + 1 + 1), 5, none⟩ (.bool h.g.dn)).setCell ⟨(w.heap.size + 1 + 1), 6, none⟩ (.int .i64 h.t.nx)).setCell ⟨(w.heap.size + 1 + 1), 7, none⟩ (.string h.t.bs)).setCell ⟨(w.heap.size + 1 + 1), 8, none⟩ (.slice aT h.t.l.length cT)).setCell ⟨(w.heap.size + 1 + 1), 9, none⟩ (.int .i64 h.t.cp)).setCell ⟨(w.heap.size + 1 + 1), 10, none⟩ (.int .i64 h.t.fi)).setCell ⟨(w.heap.size + 1 + 1), 11, none⟩ (.bool h.t.en)).setCell ⟨(w.heap.size + 1 + 1), 12, none⟩ (.slice a8 (h.ws.length + 1) c8))) := (Keep.setCell (Keep.setCell (Keep.setCell (Keep.setCell (Keep.setCell (Keep.setCell (Keep.setCell (Keep.setCell (Keep.setCell (Keep.setCell (Keep.setCell (Keep.setCell (Keep.setCell k9 (p := ⟨(w.heap.size + 1 + 1), 0, none⟩) (.inr (by dsimp only; omega)) _) (p := ⟨(w.heap.size + 1 + 1), 1, none⟩) (.inr (by dsimp only; omega)) _) (p := ⟨(w.heap.size + 1 + 1), 2, none⟩) (.inr (by dsimp only; omega)) _) (p := ⟨(w.heap.size + 1 + 1), 3, none⟩) (.inr (by dsimp only; omega)) _) (p := ⟨(w.heap.size + 1 + 1), 4, none⟩) (.inr (by dsimp only; omega)) _) (p := ⟨(w.heap.size + 1 + 1), 5, none⟩) (.inr (by dsimp only; omega)) _) (p := ⟨(w.heap.size + 1 + 1), 6, none⟩) (.inr (by dsimp only; omega)) _) (p := ⟨(w.heap.size + 1 + 1), 7, none⟩) (.inr (by dsimp only; omega)) _) (p := ⟨(w.heap.size + 1 + 1), 8, none⟩) (.inr (by dsimp only; omega)) _) (p := ⟨(w.heap.size + 1 + 1), 9, none⟩) (.inr (by dsimp only; omega)) _) (p := ⟨(w.heap.size + 1 + 1), 10, none⟩) (.inr (by dsimp only; omega)) _) (p := ⟨(w.heap.size + 1 + 1), 11, none⟩) (.inr (by dsimp only; omega)) _) (p := ⟨(w.heap.size + 1 + 1), 12, none⟩) (.inr (by dsimp only; omega)) _)
      generalize (((((((((((((W9.setCell ⟨(w.heap.size + 1 + 1), 0, none⟩ (.int .i64 h.g.ba)).setCell ⟨(w.heap.size + 1 + 1), 1, none⟩ (.string h.g.bs)).setCell ⟨(w.heap.size + 1 + 1), 2, none⟩ (.int .i64 h.g.cp)).setCell ⟨(w.heap.size + 1 + 1), 3, none⟩ (.int .i64 h.g.lm)).setCell ⟨(w.heap.size + 1 + 1), 4, none⟩ (.bool h.g.en)).setCell ⟨(w.heap.size + 1 + 1), 5, none⟩ (.bool h.g.dn)).setCell ⟨(w.heap.size + 1 + 1), 6, none⟩ (.int .i64 h.t.nx)).setCell ⟨(w.heap.size + 1 + 1), 7, none⟩ (.string h.t.bs)).setCell ⟨(w.heap.size + 1 + 1), 8, none⟩ (.slice aT h.t.l.length cT)).setCell ⟨(w.heap.size + 1 + 1), 9, none⟩ (.int .i64 h.t.cp)).setCell ⟨(w.heap.size + 1 + 1), 10, none⟩ (.int .i64 h.t.fi)).setCell ⟨(w.heap.size + 1 + 1), 11, none⟩ (.bool h.t.en)).setCell ⟨(w.heap.size + 1 + 1), 12, none⟩ (.slice a8 (h.ws.length + 1) c8)) = W4 at *
      have s0 := r2.cell (i := 0) rfl
      have s1 := r2.cell (i := 1) rfl
      have s2 := r2.cell (i := 2) rfl
      have s3 := r2.cell (i := 3) rfl
      have s4 := r2.cell (i := 4) rfl
      have s5 := r2.cell (i := 5) rfl
      have s6 := r2.cell (i := 6) rfl
      have s7 := r2.cell (i := 7) rfl
      have s8 := r2.cell (i := 8) rfl
      have s9 := r2.cell (i := 9) rfl
      have s10 := r2.cell (i := 10) rfl
      have s11 := r2.cell (i := 11) rfl
      have s12 := r2.cell (i := 12) rfl
      have hlen : (h.ws ++ [x]).length = h.ws.length + 1 := by simp
      refine bodyPost_ret (v := .tuple #[.agg #[.int .i64 h.g.ba, .string h.g.bs, .int .i64 h.g.cp, .int .i64 h.g.lm, .bool h.g.en, .bool h.g.dn, .int .i64 h.t.nx, .string h.t.bs, .slice aT h.t.l.length cT, .int .i64 h.t.cp, .int .i64 h.t.fi, .bool h.t.en, .slice a8 (h.ws.length + 1) c8], .bool true]) (by rw [Tak.res_cell_tmp rfl]; clear r2 rW rK q2 q4 o9 k9 e0 f0 y0 e1 f1 y1 e2 f2 y2 e3 f3 y3 e4 f4 y4 e5 f5 y5 e6 f6 y6 e7 f7 y7 e8 f8 y8 e9 f9 y9 e10 f10 y10 e11 f11 y11 e12 f12 y12; go_simp; done) rfl ?_
      first | exact ⟨a8, c8, (by simp only [Hp.v, hlen]), rW, rK⟩ | exact ⟨(by simp only [Hp.v, hlen]), a8, c8, rW, rK⟩

end Go.Proofs.Ytonhjlhpppfcpaa.Hop
