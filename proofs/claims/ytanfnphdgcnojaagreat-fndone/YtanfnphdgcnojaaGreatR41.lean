/- Contracts of this seat's functions, and their mathematics (DonC LinD). -/
import Derived.Test.YtanfnphdgcnojaaGreatR39
import Derived.Test.YtanfnphdgcnojaaGreatR40
set_option linter.unusedVariables false
set_option linter.unusedSimpArgs false
set_option maxRecDepth 10000
set_option maxHeartbeats 16000000
namespace Go.Proofs.YtanfnphdgcnojaaGreat.Wor
open Go.RowKit RowG Hop Roa Pum Lin
theorem ntW : NT 94 := ⟨by decide, by decide, by decide, by decide⟩
structure CL (w : World) (B g : Nat) (W : Wd) (wr : World) : Prop where
 lay : WLay 94 [] [] 0 wr B w.heap.size g W
 ok : okW W = true
 v4 : Var 94 wr (w.heap.size + 1) [.slice none 0 0, .slice none 0 0, .string ⟨#[]⟩, .int .i64 0, .bool false, .bool false, .bool false]
 b : Below w.heap.size w wr
 hB : B ≤ wr.heap.size
 h1 : w.heap.size + 2 ≤ B
theorem CL.did {w : World} {B g : Nat} {W W' : Wd} {wr wa : World} (s : CL w B g W wr) (lay : WLay 94 [] [] 0 wa B w.heap.size g W') (ok : okW W' = true) (kb : KW B w.heap.size g wr wa) : CL w B g W' wa := by
 have := s.h1
 exact ⟨lay, ok, s.v4.same (kb.block _ (by omega) (by omega)), s.b.trans ⟨kb.os, kb.tape, kb.output, kb.size, fun i hi => kb.block i (by omega) (by omega)⟩, Nat.le_trans s.hB kb.size, s.h1⟩
theorem CL.later {w : World} {B g : Nat} {W : Wd} {wr wa : World} (s : CL w B g W wr) (b : Below wr.heap.size wr wa) : CL w B g W wa := by
 obtain ⟨cH, xs, aR, cR, A⟩ := s.lay
 exact ⟨⟨cH, xs, aR, cR, A.later b⟩, s.ok, s.v4.later b, s.b.trans (b.mono s.b.size), Nat.le_trans s.hB b.size, s.h1⟩
structure CW (w : World) (g k7 gw cw nw rw : Nat) (aw : Option Addr) (t0 : ByteArray) (t1 : Int) (t2 t3 t4 : Bool) (ys : List Ha) (Bw : Nat) (wr : World) : Prop where
 vw : Var 94 wr k7 [.slice (some ⟨gw, 0, none⟩) 3 cw, .slice aw nw rw, .string t0, .int .i64 t1, .bool t2, .bool t3, .bool t4]
 ow : hopE.Own 49 wr Bw (some ⟨gw, 0, none⟩) cw ys
 len : ys.length = 3
 n1 : gw ≠ g
 n2 : gw ≠ w.heap.size
 n3 : k7 ≠ w.heap.size
theorem CW.did {w : World} {B g k7 gw cw nw rw : Nat} {aw : Option Addr} {t0 : ByteArray} {t1 : Int} {t2 t3 t4 : Bool} {ys : List Ha} {Bw : Nat} {wr wa : World} (u : CW w g k7 gw cw nw rw aw t0 t1 t2 t3 t4 ys Bw wr) (kb : KW B w.heap.size g wr wa) : CW w g k7 gw cw nw rw aw t0 t1 t2 t3 t4 ys Bw wa := by
 refine ⟨?_, ?_, u.len, u.n1, u.n2, u.n3⟩
 ·have q : wr.heap[k7]? = _ := u.vw
  exact kb.act k7 _ _ _ (by have := u.n3; simpa using this) (fun e => absurd e (by decide)) (by decide) (by decide) (by decide) q
 ·exact u.ow.same fun x hx => by
   cases hx
   obtain ⟨cs, h⟩ := own_row u.ow ⟨gw, 0, none⟩ rfl
   exact (kb.act gw cs _ _ (by have := u.n2; simpa using this) (fun _ => u.n1) (by decide) (by decide) (by decide) h).trans h.symm
theorem clear_ok {h : Hp} (hb : hopB h = true) : hopB ⟨h.g, h.t, []⟩ = true := by
 obtain ⟨_, h1, h2, _⟩ := hop_ok hb
 simp [hopB, h1, h2]
theorem WAt.empty {w : World} {B k g cH : Nat} {xs : List Ha} {aR : Option Addr} {cR : Nat} {W : Wd} (A : WAt 94 [] [] 0 w B k g cH xs aR cR W) (ok : okW W = true) (hB : B ≤ w.heap.size) {i : Nat} (hi : i < 3) {x : Ha} (hx : xs[i]? = some x) (hxh : x.h = W.at i) :
  (w.alloc (.cells #[] 66)).cell? ⟨g, i * 13 + 12, none⟩ = some (.slice x.aW x.h.ws.length x.cW) ∧ (w.alloc (.cells #[] 66)).frozen? ⟨g, i * 13 + 12, none⟩ = false ∧
  ∃ W', okW W' = true ∧ WLay 94 [] [] 0 ((w.alloc (.cells #[] 66)).setCell ⟨g, i * 13 + 12, none⟩ (.slice (some ⟨w.heap.size, 0, none⟩) 0 0)) B k g W' ∧ KW B k g w ((w.alloc (.cells #[] 66)).setCell ⟨g, i * 13 + 12, none⟩ (.slice (some ⟨w.heap.size, 0, none⟩) 0 0)) := by
 obtain ⟨pr, po, vx, rx, back⟩ := A.L.step hx
 have hg := (A.L.row.lt ⟨g, 0, none⟩ rfl)
 simp only at hg
 have va := vx.alloc (.cells #[] 66)
 have ka : Draw.Kept g w ((w.alloc (.cells #[] 66)).setCell ⟨g, i * 13 + 12, none⟩ (.slice (some ⟨w.heap.size, 0, none⟩) 0 0)) := ((Draw.Kept.refl _ _).alloc _).setCell (p := ⟨g, i * 13 + 12, none⟩) (.inl rfl) _
 have vb : Win 49 pr po (i * 13) ((w.alloc (.cells #[] 66)).setCell ⟨g, i * 13 + 12, none⟩ (.slice (some ⟨w.heap.size, 0, none⟩) 0 0)) g (Ha.c ⟨⟨x.h.g, x.h.t, []⟩, x.aT, x.cT, some ⟨w.heap.size, 0, none⟩, 0⟩) := va.set 12 (.slice (some ⟨w.heap.size, 0, none⟩) 0 0)
 have rp : Lin.Rows ((w.alloc (.cells #[] 66)).setCell ⟨g, i * 13 + 12, none⟩ (.slice (some ⟨w.heap.size, 0, none⟩) 0 0)) B ⟨⟨x.h.g, x.h.t, []⟩, x.aT, x.cT, some ⟨w.heap.size, 0, none⟩, 0⟩ :=
  ⟨rx.p.kept ka (own_win (by decide) rx.p vx), ((El.Own.made (E := letE) (T := 66) w).mono hB).setCell (fun y hy => by cases hy; simp only; omega) _⟩
 have L' := back _ ⟨⟨x.h.g, x.h.t, []⟩, x.aT, x.cT, some ⟨w.heap.size, 0, none⟩, 0⟩ vb rp (Keep.ofKept ka) (Locd.new fun y hy => by cases hy; exact Nat.le_refl _)
 obtain ⟨A2, b2⟩ := A.turn ntW hx L' (Keep.ofKept ka) hB
 obtain ⟨okh, _⟩ := ok_parts.1 ok
 obtain ⟨h1, _⟩ := at_ok okh hi
 rw [← hxh] at h1
 exact ⟨va.cell (i := 12) rfl, va.free 12, W.put i ⟨x.h.g, x.h.t, []⟩, ok_put ok hi (clear_ok h1) (fun y hy => by cases hy), ⟨cH, _, aR, cR, A2⟩, KW.ofFr b2⟩
theorem WAt.opened {w : World} {B k g cH : Nat} {xs : List Ha} {aR : Option Addr} {cR : Nat} {W : Wd} (A : WAt 94 [] [] 0 w B k g cH xs aR cR W) (ok : okW W = true) (hB : B ≤ w.heap.size) :
  ∃ gR, aR = some ⟨gR, 0, none⟩ ∧ 0 < W.rs.length ∧ w.cell? ⟨gR, 0, none⟩ = some (.bool (at' W.rs 0).op) ∧ w.frozen? ⟨gR, 0, none⟩ = false ∧
  ∃ W', okW W' = true ∧ WLay 94 [] [] 0 (w.setCell ⟨gR, 0, none⟩ (.bool true)) B k g W' ∧ KW B k g w (w.setCell ⟨gR, 0, none⟩ (.bool true)) := by
 obtain ⟨okh, oks⟩ := ok_parts.1 ok
 obtain ⟨o1, o2, o3⟩ := hops_iff.1 okh
 have hp : 0 < W.rs.length := (roads_len o2).1
 obtain ⟨gR, rfl⟩ : ∃ gR, aR = some ⟨gR, 0, none⟩ := by
  rcases A.R.form with ⟨_, _, h0⟩ | ⟨gR, rfl, _⟩
  ·rw [h0] at hp; simp at hp
  ·exact ⟨gR, rfl⟩
 have hx := at_some (l := W.rs) (k := 0) hp
 have hR' := A.R.put (y := { at' W.rs 0 with op := true }) (j := 0) (u := .bool true) hx (by decide) rfl
 rw [Nat.zero_mul, Nat.zero_add] at hR'
 obtain ⟨pr, po, vx, _⟩ := A.R.win hx
 rw [Nat.zero_mul] at vx
 have hgB := (A.R.lt ⟨gR, 0, none⟩ rfl).1
 simp only at hgB
 have ka : Draw.Kept gR w (w.setCell ⟨gR, 0, none⟩ (.bool true)) := (Draw.Kept.refl _ _).setCell (p := ⟨gR, 0, none⟩) (.inl rfl) _
 obtain ⟨cs, hty⟩ := own_row A.R ⟨gR, 0, none⟩ rfl
 have hgk : k ≠ gR := Ne.symm (own_win ntW.r A.R A.v ⟨gR, 0, none⟩ rfl)
 refine ⟨gR, rfl, hp, vx.cell0 rfl, vx.free0, { W with rs := W.rs.set 0 { at' W.rs 0 with op := true } }, ?_, ?_, ?_⟩
 ·refine ok_parts.2 ⟨hops_iff.2 ⟨o1, ?_, fun i hi => ⟨(o3 i hi).1, fun x hx => ?_⟩⟩, oks⟩
  ·simp only [roadsB, Bool.and_eq_true, List.all_eq_true, decide_eq_true_eq, List.length_set] at o2 ⊢
   refine ⟨fun x hx => ?_, o2.2⟩
   rcases List.mem_or_eq_of_mem_set hx with q | q
   ·exact o2.1 x q
   ·rw [q]
    have q2 := o2.1 (at' W.rs 0) (List.mem_of_getElem? (at_some hp))
    exact q2
  ·have := (o3 i hi).2 x hx
   unfold roadB at this ⊢
   simp only [List.length_set]
   exact this
 ·exact ⟨cH, xs, some ⟨gR, 0, none⟩, cR, ⟨by have := A.v.kept ka hgk; simp only [List.length_set]; exact this, ⟨A.L.row.kept ka (fun y hy e => own_two (by decide) A.L.row A.R y hy (by rw [e]; rfl)), fun x hx => ⟨(A.L.rows x hx).p.kept ka (fun y hy e => own_two (by decide) (A.L.rows x hx).p A.R y hy (by rw [e]; rfl)), (A.L.rows x hx).l.kept ka (fun y hy e => own_two (by decide) (A.L.rows x hx).l A.R y hy (by rw [e]; rfl))⟩, A.L.off⟩, A.hs, hR'⟩⟩
 ·refine ⟨⟨rfl, rfl, rfl, ka.size, fun i hi _ => ka.block i (by omega) (by omega)⟩, fun i cs' T m _ _ _ _ h4 hi => (ka.block i (Array.getElem?_eq_some_iff.1 hi).1 (fun e => ?_)).trans hi⟩
  rw [e, hty] at hi
  injection hi with hi
  injection hi with _ h2 _
  exact h4 h2.symm
theorem l19Calm (W : Wd) (g0 cH cR : Nat) (aR : Option Addr) (xs : List Ha) (read : Bool) (w : World) (L : LL w (some ⟨g0, 0, none⟩) xs) (hs : xs.map (·.h) = W.hs) (R : Roa.E.Lies w aR W.rs) (hR : aR = none → cR = 0) (ok : okW W = true) :
  Calls Tryz.prog 67 #[.agg #[.slice (some ⟨g0, 0, none⟩) 3 cH, .slice aR W.rs.length cR, .string W.tx, .int .i64 W.rd, .bool W.en, .bool W.dn, .bool W.sn], .bool read] w fun e w' => ∃ v W', e = .returned v ∧ WHold w' w.heap.size v W' ∧ Below w.heap.size w w' := by
 have hmix := Roa.mix
 have v1 : Var 94 ((w.alloc (.cells #[.slice (some ⟨g0, 0, none⟩) 3 cH, .slice aR W.rs.length cR, .string W.tx, .int .i64 W.rd, .bool W.en, .bool W.dn, .bool W.sn] 94)).alloc (.cells #[.slice none 0 0, .slice none 0 0, .string ⟨#[]⟩, .int .i64 0, .bool false, .bool false, .bool false] 94)) w.heap.size [.slice (some ⟨g0, 0, none⟩) 3 cH, .slice aR W.rs.length cR, .string W.tx, .int .i64 W.rd, .bool W.en, .bool W.dn, .bool W.sn] := (Var.new w _).alloc _
 have v4 : Var 94 ((w.alloc (.cells #[.slice (some ⟨g0, 0, none⟩) 3 cH, .slice aR W.rs.length cR, .string W.tx, .int .i64 W.rd, .bool W.en, .bool W.dn, .bool W.sn] 94)).alloc (.cells #[.slice none 0 0, .slice none 0 0, .string ⟨#[]⟩, .int .i64 0, .bool false, .bool false, .bool false] 94)) (w.heap.size + 1) [.slice none 0 0, .slice none 0 0, .string ⟨#[]⟩, .int .i64 0, .bool false, .bool false, .bool false] := by
  have q := Var.new (T := 94) (w.alloc (.cells #[.slice (some ⟨g0, 0, none⟩) 3 cH, .slice aR W.rs.length cR, .string W.tx, .int .i64 W.rd, .bool W.en, .bool W.dn, .bool W.sn] 94)) [.slice none 0 0, .slice none 0 0, .string ⟨#[]⟩, .int .i64 0, .bool false, .bool false, .bool false]
  simpa using q
 have BV : Below w.heap.size w ((w.alloc (.cells #[.slice (some ⟨g0, 0, none⟩) 3 cH, .slice aR W.rs.length cR, .string W.tx, .int .i64 W.rd, .bool W.en, .bool W.dn, .bool W.sn] 94)).alloc (.cells #[.slice none 0 0, .slice none 0 0, .string ⟨#[]⟩, .int .i64 0, .bool false, .bool false, .bool false] 94)) := ((Below.refl _ _).alloc (Nat.le_refl _) _).alloc (by simp) _
 have L0 := L.later BV
 have R0 := R.later BV
 go_enter Tryz.func67, Tryz.ntmps67
 go_upto_region 1 with (fail)
 generalize (w.alloc (.cells #[.slice (some ⟨g0, 0, none⟩) 3 cH, .slice aR W.rs.length cR, .string W.tx, .int .i64 W.rd, .bool W.en, .bool W.dn, .bool W.sn] 94)).alloc (.cells #[.slice none 0 0, .slice none 0 0, .string ⟨#[]⟩, .int .i64 0, .bool false, .bool false, .bool false] 94) = V at *
 have hVz := v4.lt
 obtain ⟨e0, e1, e2, e3, e4, e5, e6⟩ := v1.c7
 go_wp2_with fail
 refine (l16Copy W _ aR cH cR xs _ L0 hs R0 hR ok).mono ?_
 rintro e w1 ⟨v, rfl, ⟨g, cH1, xs1, aR1, cR1, rfl, A1⟩, b1⟩
 replace v1 := v1.later b1
 replace v4 := v4.later b1
 have B1 := BV.trans (b1.mono BV.size)
 have zV := b1.size
 clear e0 e1 e2 e3 e4 e5 e6 L0 R0 L R b1 BV
 obtain ⟨e0, e1, e2, e3, e4, e5, e6⟩ := v1.c7
 obtain ⟨f0, f1, f2, f3, f4, f5, f6⟩ := v1.f7
 go_upto_region 2 with (fail)
 have S : CL w V.heap.size g W (((((((w1.setCell ⟨w.heap.size, 0, none⟩ (.slice (some ⟨g, 0, none⟩) 3 cH1)).setCell ⟨w.heap.size, 1, none⟩ (.slice aR1 W.rs.length cR1)).setCell ⟨w.heap.size, 2, none⟩ (.string W.tx)).setCell ⟨w.heap.size, 3, none⟩ (.int .i64 W.rd)).setCell ⟨w.heap.size, 4, none⟩ (.bool W.en)).setCell ⟨w.heap.size, 5, none⟩ (.bool W.dn)).setCell ⟨w.heap.size, 6, none⟩ (.bool W.sn)) := by
  have ka := kept7 w1 w.heap.size (.slice (some ⟨g, 0, none⟩) 3 cH1) (.slice aR1 W.rs.length cR1) (.string W.tx) (.int .i64 W.rd) (.bool W.en) (.bool W.dn) (.bool W.sn)
  have vv := var7 v1 (.slice (some ⟨g, 0, none⟩) 3 cH1) (.slice aR1 W.rs.length cR1) (.string W.tx) (.int .i64 W.rd) (.bool W.en) (.bool W.dn) (.bool W.sn)
  have A2 := A1.keptV v1 (by decide) (by decide) (by decide) (by decide) ka
  exact ⟨⟨cH1, xs1, aR1, cR1, vv.win, A2.L, A2.hs, A2.R⟩, A1.ok, v4.kept ka (by omega), B1.trans (ka.below (Nat.le_refl _) B1.size), Nat.le_trans zV ka.size, by omega⟩
 clear e0 e1 e2 e3 e4 e5 e6 f0 f1 f2 f3 f4 f5 f6 A1 v1 v4 B1 zV ok hs
 generalize (((((((w1.setCell ⟨w.heap.size, 0, none⟩ (.slice (some ⟨g, 0, none⟩) 3 cH1)).setCell ⟨w.heap.size, 1, none⟩ (.slice aR1 W.rs.length cR1)).setCell ⟨w.heap.size, 2, none⟩ (.string W.tx)).setCell ⟨w.heap.size, 3, none⟩ (.int .i64 W.rd)).setCell ⟨w.heap.size, 4, none⟩ (.bool W.en)).setCell ⟨w.heap.size, 5, none⟩ (.bool W.dn)).setCell ⟨w.heap.size, 6, none⟩ (.bool W.sn)) = WZ at *
 generalize V.heap.size = B at *
 go_wp2_with fail
 go_loopw [5] (fun iv wr => ∃ (i : Nat) (W' : Wd), i ≤ 3 ∧ iv = .int .i64 i ∧ CL w B g W' wr) (fun iv _ => 3 - (intOf iv).toNat)
 case atStart => exact ⟨0, W, by omega, rfl, S⟩
 case round =>
  clear S
  obtain ⟨i, W1, hi, rfl, S⟩ := hrel
  by_cases hi3 : i < 3
  case pos =>
   have i0 : (i : Int) < 3 := by omega
   have i1 : (0 : Int) ≤ (i : Int) := by omega
   obtain ⟨cH2, xs2, aR2, cR2, A⟩ := S.lay
   obtain ⟨x, hx, hxh⟩ := A.hop (ok_parts.1 S.ok).1 hi3
   obtain ⟨c12, f12, W2, ok2, lay2, kw2⟩ := A.empty S.ok S.hB hi3 hx hxh
   have e0 := A.v.whole.cell (i := 0) rfl
   have S2 := S.did lay2 ok2 kw2
   clear lay2 kw2 hx hxh
   go_wp2_with fail
   go_roundw
   case rel => exact ⟨i + 1, W2, by omega, by go_num, S2⟩
   case measure => simp [intOf]; omega
  case neg =>
   have i0 : ¬ (i : Int) < 3 := by omega
   obtain ⟨cH2, xs2, aR2, cR2, A⟩ := S.lay
   obtain ⟨gR, rfl, hp, cR0, fR0, W2, ok2, lay2, kw2⟩ := A.opened S.ok S.hB
   have hp1 : (0 : Int) < (W1.rs.length : Int) := by omega
   have e1 := A.v.whole.cell (i := 1) rfl
   replace S := S.did lay2 ok2 kw2
   clear lay2 kw2 ok2
   go_wp2_with fail
   clear cR0 fR0 e1 A
   generalize wr.setCell ⟨gR, 0, none⟩ (.bool true) = V2 at *
   go_loopw [6, 7, 8, 9] (fun nv _ _ _ wr => ∃ (n : Nat) (W' : Wd), n ≤ 5000 ∧ nv = .int .i64 n ∧ CL w B g W' wr) (fun nv _ _ _ _ => 5000 - (intOf nv).toNat)
   case atStart => exact ⟨0, W2, by omega, rfl, S⟩
   case round =>
    clear S hp hp1
    obtain ⟨n, W3, hn, rfl, S⟩ := hrel
    have done : ∀ {wz : World} {W' : Wd}, CL w B g W' wz → True := fun _ => trivial
    by_cases hn5 : n < 5000
    case neg =>
     have n0 : ¬ (n : Int) < 5000 := by omega
     obtain ⟨cHf, xsf, aRf, cRf, A⟩ := S.lay
     have vA := A.v.whole
     have v4 := S.v4
     obtain ⟨c0, c1, c2, c3, c4, c5, c6⟩ := vA.c7
     obtain ⟨d0, d1, d2, d3, d4, d5, d6⟩ := v4.c7
     obtain ⟨y0, y1, y2, y3, y4, y5, y6⟩ := v4.f7
     go_wp2_with fail
     clear c0 c1 c2 c3 c4 c5 c6 d0 d1 d2 d3 d4 d5 d6 y0 y1 y2 y3 y4 y5 y6
     have ka := kept7 wr (w.heap.size + 1) (.slice (some ⟨g, 0, none⟩) 3 cHf) (.slice aRf W3.rs.length cRf) (.string W3.tx) (.int .i64 W3.rd) (.bool W3.en) (.bool W3.dn) (.bool W3.sn)
     have vv := var7 v4 (.slice (some ⟨g, 0, none⟩) 3 cHf) (.slice aRf W3.rs.length cRf) (.string W3.tx) (.int .i64 W3.rd) (.bool W3.en) (.bool W3.dn) (.bool W3.sn)
     have A6 := WAs.keptV (⟨A.L, A.hs, A.R, S.ok⟩ : WAs wr B g cHf xsf aRf cRf W3) v4 (by decide) (by decide) (by decide) (by decide) ka
     have zB : w.heap.size ≤ B := by have := S.h1; omega
     have BZ := S.b.trans (ka.below (B := w.heap.size) (by omega) S.b.size)
     clear ka A vA v4 S
     dsimp only [put7] at vv A6 BZ
     generalize (((((((wr.setCell ⟨w.heap.size + 1, 0, none⟩ (.slice (some ⟨g, 0, none⟩) 3 cHf)).setCell ⟨w.heap.size + 1, 1, none⟩ (.slice aRf W3.rs.length cRf)).setCell ⟨w.heap.size + 1, 2, none⟩ (.string W3.tx)).setCell ⟨w.heap.size + 1, 3, none⟩ (.int .i64 W3.rd)).setCell ⟨w.heap.size + 1, 4, none⟩ (.bool W3.en)).setCell ⟨w.heap.size + 1, 5, none⟩ (.bool W3.dn)).setCell ⟨w.heap.size + 1, 6, none⟩ (.bool W3.sn)) = WY at *
     obtain ⟨z0, z1, z2, z3, z4, z5, z6⟩ := vv.c7
     refine bodyPost_ret (v := .agg #[.slice (some ⟨g, 0, none⟩) 3 cHf, .slice aRf W3.rs.length cRf, .string W3.tx, .int .i64 W3.rd, .bool W3.en, .bool W3.dn, .bool W3.sn]) (by rw [Hop.res_one rfl]; go_simp) rfl (by first | exact ⟨_, rfl, ⟨W3, g, cHf, xsf, aRf, cRf, rfl, ⟨A6.L.mono zB, A6.hs, A6.R.mono zB, A6.ok⟩⟩, BZ⟩ | exact ⟨_, W3, rfl, ⟨g, cHf, xsf, aRf, cRf, rfl, ⟨A6.L.mono zB, A6.hs, A6.R.mono zB, A6.ok⟩⟩, BZ⟩)
    case pos =>
     have n0 : (n : Int) < 5000 := by omega
     obtain ⟨cH3, xs3, aR3, cR3, A⟩ := S.lay
     have vA := A.v.whole
     obtain ⟨c0, c1, c2, c3, c4, c5, c6⟩ := vA.c7
     go_wp2_with fail
     refine (l16Copy W3 _ aR3 cH3 cR3 xs3 _ A.L.ll A.hs A.R.lies A.R.none_cap S.ok).mono ?_
     rintro e w4 ⟨v, rfl, ⟨gw, cw, ys, aw, rw', rfl, Aw⟩, b4⟩
     have hgw : gw ≠ g := by
      have q1 := (Aw.L.row.lt ⟨gw, 0, none⟩ rfl).1
      have q2 := (A.L.row.lt ⟨g, 0, none⟩ rfl).2
      simp only at q1 q2
      omega
     replace S := S.later b4
     have zk : w.heap.size < w4.heap.size := by
      have := S.v4.lt
      omega
     have bA := (Below.refl w4.heap.size w4).alloc (Nat.le_refl _) (.cells #[.slice (some ⟨gw, 0, none⟩) 3 cw, .slice aw W3.rs.length rw', .string W3.tx, .int .i64 W3.rd, .bool W3.en, .bool W3.dn, .bool W3.sn] 94)
     have U : CW w g w4.heap.size gw cw W3.rs.length rw' aw W3.tx W3.rd W3.en W3.dn W3.sn ys (Nat.succ wr.heap.size - 1) (w4.alloc (.cells #[.slice (some ⟨gw, 0, none⟩) 3 cw, .slice aw W3.rs.length rw', .string W3.tx, .int .i64 W3.rd, .bool W3.en, .bool W3.dn, .bool W3.sn] 94)) := ⟨Var.new w4 _, Aw.L.row.alloc _, Aw.len, hgw, by
      have q1 := (Aw.L.row.lt ⟨gw, 0, none⟩ rfl).1
      have q2 := vA.lt
      simp only at q1
      omega, by omega⟩
     replace S := S.later bA
     clear c0 c1 c2 c3 c4 c5 c6 A vA Aw b4 bA hgw zk
     go_upto_region 11 with (fail)
     generalize w4.alloc (.cells #[.slice (some ⟨gw, 0, none⟩) 3 cw, .slice aw W3.rs.length rw', .string W3.tx, .int .i64 W3.rd, .bool W3.en, .bool W3.dn, .bool W3.sn] 94) = V4 at *
     generalize w4.heap.size = k7 at *
     obtain ⟨nz, hnz⟩ : ∃ nz, Nat.succ wr.heap.size - 1 = nz := ⟨_, rfl⟩
     rw [hnz] at U
     clear hnz
     go_wp2_with fail
     go_loopw [8] (fun hv wr => ∃ (m : Nat) (W' : Wd), m ≤ 3 ∧ hv = .int .i64 ((m : Int) - 1) ∧ CL w B g W' wr ∧ CW w g k7 gw cw W3.rs.length rw' aw W3.tx W3.rd W3.en W3.dn W3.sn ys nz wr) (fun hv _ => (intOf hv + 1).toNat)
     case atStart => exact ⟨3, W3, by omega, rfl, S, U⟩
     case round =>
      clear S U
      obtain ⟨m, W4, hm, hh, S, U⟩ := hrel
      obtain ⟨h, hhm⟩ : ∃ h : Int, h = (m : Int) - 1 := ⟨_, rfl⟩
      rw [← hhm] at hh
      have HHM : Hid (h = (m : Int) - 1) := hhm
      subst hh
      by_cases hm0 : m = 0
      case neg =>
       have h0 : 0 ≤ h := by omega
       have h1 : -9223372036854775808 ≤ h - 1 ∧ h - 1 ≤ 9223372036854775807 := by omega
       clear hhm
       go_wp2_with fail
       refine (l16Do (T := 94) (pre := []) (post := []) (ow := 0) (by decide) w.heap.size B W4 ⟨4, h, 0, 0, 0, ⟨#[]⟩⟩ (Nat.zero_le _) _ S.lay S.hB ntW S.ok).mono ?_
       rintro e w5 ⟨rfl, lay', kw⟩
       replace U := U.did kw
       replace S := S.did lay' (ok_do S.ok _) kw
       clear lay' kw
       generalize (doW W4 ⟨4, h, 0, 0, 0, ⟨#[]⟩⟩).1 = W5 at S
       go_wp2_with fail
       go_roundw
       case rel => exact ⟨m - 1, W5, by omega, by have := HHM.out; congr 1; omega, S, U⟩
       case measure => have := HHM.out; simp [intOf]; omega
      case pos =>
       have h0 : ¬ 0 ≤ h := by omega
       clear hhm
       go_wp2_with fail
       refine (l19Come w.heap.size B g W4 _ S.lay S.hB S.ok).mono ?_
       rintro e w5 ⟨rfl, W5, ok', lay', kw⟩
       replace U := U.did kw
       replace S := S.did lay' ok' kw
       clear lay' kw ok'
       go_wp2_with fail
       go_loopw [9] (fun hv wr => ∃ (i : Nat) (W' : Wd), i ≤ 3 ∧ hv = .int .i64 i ∧ CL w B g W' wr ∧ CW w g k7 gw cw W3.rs.length rw' aw W3.tx W3.rd W3.en W3.dn W3.sn ys nz wr) (fun hv _ => 3 - (intOf hv).toNat)
       case atStart => exact ⟨0, W5, by omega, rfl, S, U⟩
       case round =>
        clear S U
        obtain ⟨i, W6, hi, rfl, S, U⟩ := hrel
        by_cases hi3 : i < 3
        case pos =>
         have i0 : (i : Int) < 3 := by omega
         have i1 : (0 : Int) ≤ (i : Int) := by omega
         obtain ⟨cH5, xs5, aR5, cR5, A⟩ := S.lay
         obtain ⟨x, hx, hxh⟩ := A.hop (ok_parts.1 S.ok).1 hi3
         have e0 := A.v.whole.cell (i := 0) rfl
         have cb : wr.cell? ⟨g, i * 13, none⟩ = some (.int .i64 x.h.g.ba) := own_cell A.L.row hx (j := 0) rfl
         clear A hx hxh
         go_wp2_with fail
         refine (l16Do (T := 94) (pre := []) (post := []) (ow := 0) (by decide) w.heap.size B W6 ⟨3, (i : Int), 0, x.h.g.ba, 40, ⟨#[]⟩⟩ (Nat.zero_le _) _ S.lay S.hB ntW S.ok).mono ?_
         rintro e w7 ⟨rfl, lay', kw⟩
         replace U := U.did kw
         replace S := S.did lay' (ok_do S.ok _) kw
         clear lay' kw
         generalize (doW W6 ⟨3, (i : Int), 0, x.h.g.ba, 40, ⟨#[]⟩⟩).1 = W7 at S
         clear e0 cb
         go_wp2_with fail
         go_roundw
         case rel => exact ⟨i + 1, W7, by omega, by go_num, S, U⟩
         case measure => simp [intOf]; omega
        case neg =>
         have i0 : ¬ (i : Int) < 3 := by omega
         go_wp2_with fail
         refine (l19Come w.heap.size B g W6 _ S.lay S.hB S.ok).mono ?_
         rintro e w7 ⟨rfl, W7, ok', lay', kw⟩
         replace U := U.did kw
         replace S := S.did lay' ok' kw
         clear lay' kw ok'
         go_wp2_with fail
         refine (l16Do (T := 94) (pre := []) (post := []) (ow := 0) (by decide) w.heap.size B W7 ⟨8, 1, 0, 0, 400, ⟨#[]⟩⟩ (Nat.zero_le _) _ S.lay S.hB ntW S.ok).mono ?_
         rintro e w8 ⟨rfl, lay', kw⟩
         replace U := U.did kw
         replace S := S.did lay' (ok_do S.ok _) kw
         clear lay' kw
         generalize (doW W7 ⟨8, 1, 0, 0, 400, ⟨#[]⟩⟩).1 = W8 at S
         go_wp2_with fail
         refine (l16Do (T := 94) (pre := []) (post := []) (ow := 0) (by decide) w.heap.size B W8 ⟨8, 0, 0, 0, 400, ⟨#[]⟩⟩ (Nat.zero_le _) _ S.lay S.hB ntW S.ok).mono ?_
         rintro e w9 ⟨rfl, lay', kw⟩
         replace U := U.did kw
         replace S := S.did lay' (ok_do S.ok _) kw
         clear lay' kw
         generalize (doW W8 ⟨8, 0, 0, 0, 400, ⟨#[]⟩⟩).1 = W9 at S
         go_upto_if 62 with (fail)
         go_cut [] from 63 to 64 (fun wr => ∃ W', CL w B g W' wr ∧ CW w g k7 gw cw W3.rs.length rw' aw W3.tx W3.rd W3.en W3.dn W3.sn ys nz wr)
         case first =>
          cases read
          focus
           go_wp2_with fail
           go_meet
           exact ⟨_, S, U⟩
          focus
           go_wp2_with fail
           refine (l16Do (T := 94) (pre := []) (post := []) (ow := 0) (by decide) w.heap.size B W9 ⟨9, 0, 0, 0, 400, ⟨#[]⟩⟩ (Nat.zero_le _) _ S.lay S.hB ntW S.ok).mono ?_
           rintro e w10 ⟨rfl, lay', kw⟩
           replace U := U.did kw
           replace S := S.did lay' (ok_do S.ok _) kw
           clear lay' kw
           generalize (doW W9 ⟨9, 0, 0, 0, 400, ⟨#[]⟩⟩).1 = W10 at S
           go_wp2_with fail
           go_meet
           exact ⟨_, S, U⟩
         case rest =>
          clear S U
          obtain ⟨W10, S, U⟩ := hcut
          go_wp2_with fail
          refine (l16Do (T := 94) (pre := []) (post := []) (ow := 0) (by decide) w.heap.size B W10 ⟨11, 0, 0, 0, 0, ⟨#[]⟩⟩ (Nat.zero_le _) _ S.lay S.hB ntW S.ok).mono ?_
          rintro e w11 ⟨rfl, lay', kw⟩
          replace U := U.did kw
          replace S := S.did lay' (ok_do S.ok _) kw
          clear lay' kw
          generalize (doW W10 ⟨11, 0, 0, 0, 0, ⟨#[]⟩⟩).1 = W11 at S
          obtain ⟨cH6, xs6, aR6, cR6, A⟩ := S.lay
          have vA := A.v.whole
          obtain ⟨c0, c1, c2, c3, c4, c5, c6⟩ := vA.c7
          have d0 := U.vw.cell (i := 0) rfl
          have d1 := U.vw.cell (i := 1) rfl
          have d2 := U.vw.cell (i := 2) rfl
          have d3 := U.vw.cell (i := 3) rfl
          have d4 := U.vw.cell (i := 4) rfl
          have d5 := U.vw.cell (i := 5) rfl
          have d6 := U.vw.cell (i := 6) rfl
          have hl6 : xs6.length = 3 := by
           have q := congrArg List.length A.hs
           rw [List.length_map, (hops_iff.1 (ok_parts.1 S.ok).1).1] at q
           exact q
          go_wp2_with fail
          refine (l19Same gw cw W3.rs.length rw' g cH6 W11.rs.length cR6 aw aR6 W3.tx W11.tx W3.rd W11.rd W3.en W3.dn W3.sn W11.en W11.dn W11.sn ys xs6 _ U.ow.lies A.L.row.lies U.len hl6).mono ?_
          rintro e w12 ⟨b, rfl, b12⟩
          replace S := S.later b12
          clear c0 c1 c2 c3 c4 c5 c6 d0 d1 d2 d3 d4 d5 d6 A vA hl6 U b12
          cases b
          case false =>
           go_wp2_with fail
           go_roundw
           case rel => exact ⟨n + 1, W11, by omega, by go_num, S⟩
           case measure => simp [intOf]; omega
          case true =>
           obtain ⟨cHf, xsf, aRf, cRf, A⟩ := S.lay
           have vA := A.v.whole
           have v4 := S.v4
           obtain ⟨c0, c1, c2, c3, c4, c5, c6⟩ := vA.c7
           obtain ⟨d0, d1, d2, d3, d4, d5, d6⟩ := v4.c7
           obtain ⟨y0, y1, y2, y3, y4, y5, y6⟩ := v4.f7
           go_wp2_with fail
           clear c0 c1 c2 c3 c4 c5 c6 d0 d1 d2 d3 d4 d5 d6 y0 y1 y2 y3 y4 y5 y6
           have ka := kept7 w12 (w.heap.size + 1) (.slice (some ⟨g, 0, none⟩) 3 cHf) (.slice aRf W11.rs.length cRf) (.string W11.tx) (.int .i64 W11.rd) (.bool W11.en) (.bool W11.dn) (.bool W11.sn)
           have vv := var7 v4 (.slice (some ⟨g, 0, none⟩) 3 cHf) (.slice aRf W11.rs.length cRf) (.string W11.tx) (.int .i64 W11.rd) (.bool W11.en) (.bool W11.dn) (.bool W11.sn)
           have A6 := WAs.keptV (⟨A.L, A.hs, A.R, S.ok⟩ : WAs w12 B g cHf xsf aRf cRf W11) v4 (by decide) (by decide) (by decide) (by decide) ka
           have zB : w.heap.size ≤ B := by have := S.h1; omega
           have BZ := S.b.trans (ka.below (B := w.heap.size) (by omega) S.b.size)
           clear ka A vA v4 S
           dsimp only [put7] at vv A6 BZ
           generalize (((((((w12.setCell ⟨w.heap.size + 1, 0, none⟩ (.slice (some ⟨g, 0, none⟩) 3 cHf)).setCell ⟨w.heap.size + 1, 1, none⟩ (.slice aRf W11.rs.length cRf)).setCell ⟨w.heap.size + 1, 2, none⟩ (.string W11.tx)).setCell ⟨w.heap.size + 1, 3, none⟩ (.int .i64 W11.rd)).setCell ⟨w.heap.size + 1, 4, none⟩ (.bool W11.en)).setCell ⟨w.heap.size + 1, 5, none⟩ (.bool W11.dn)).setCell ⟨w.heap.size + 1, 6, none⟩ (.bool W11.sn)) = WY at *
           obtain ⟨z0, z1, z2, z3, z4, z5, z6⟩ := vv.c7
           refine bodyPost_ret (v := .agg #[.slice (some ⟨g, 0, none⟩) 3 cHf, .slice aRf W11.rs.length cRf, .string W11.tx, .int .i64 W11.rd, .bool W11.en, .bool W11.dn, .bool W11.sn]) (by rw [Hop.res_one rfl]; go_simp) rfl (by first | exact ⟨_, rfl, ⟨W11, g, cHf, xsf, aRf, cRf, rfl, ⟨A6.L.mono zB, A6.hs, A6.R.mono zB, A6.ok⟩⟩, BZ⟩ | exact ⟨_, W11, rfl, ⟨g, cHf, xsf, aRf, cRf, rfl, ⟨A6.L.mono zB, A6.hs, A6.R.mono zB, A6.ok⟩⟩, BZ⟩)
end Go.Proofs.YtanfnphdgcnojaaGreat.Wor
namespace Go.Proofs.YtanfnphdgcnojaaGreat.Wor
open Go.RowKit RowG Hop Roa Pum Lin
theorem fldLine (a b e f g h i : Value) (w : World) : (Instr.field 94 (.agg #[a, b, e, f, g, h, i]) 0).run Tryz.prog w = .ok (.agg #[a, b]) w := by kernel_rfl
theorem l13Draw (c : Nat) (w : World) (hc : Draw.Cur w c) :
  Calls Tryz.prog 62 #[.pointer (some ⟨c, 0, none⟩)] w fun e w' => ∃ (W : Wd) (g cH : Nat) (xs : List Ha) (gR cR : Nat), e = .returned (.agg #[.slice (some ⟨g, 0, none⟩) 3 cH, .slice (some ⟨gR, 0, none⟩) W.rs.length cR]) ∧ WAs w' w.heap.size g cH xs (some ⟨gR, 0, none⟩) cR W ∧ Draw.Cur w' c ∧ Draw.Kept c w w' := by
 have hmix := Roa.mix
 have hcl := hc.lt
 have vR : Var 30 (w.alloc (.cells #[.slice none 0 0, .slice none 0 0] 30)) w.heap.size [.slice none 0 0, .slice none 0 0] := Var.new w _
 have cu0 := hc.alloc (.cells #[.slice none 0 0, .slice none 0 0] 30)
 have K0 := (Draw.Kept.refl c w).alloc (.cells #[.slice none 0 0, .slice none 0 0] 30)
 go_enter Tryz.func62, Tryz.ntmps62
 go_wp2_with fail
 generalize w.alloc (.cells #[.slice none 0 0, .slice none 0 0] 30) = V at *
 have hzV := K0.size
 refine (l16Draw c _ cu0).mono ?_
 rintro e w1 ⟨v, W, rfl, ⟨g2, h2, xs2, a2, r2, rfl, A2⟩, cu1, k1⟩
 replace vR := vR.kept k1 (by omega)
 replace K0 := K0.trans k1
 clear k1 cu0
 have hfl := fldLine (.slice (some ⟨g2, 0, none⟩) 3 h2) (.slice a2 W.rs.length r2) (.string W.tx) (.int .i64 W.rd) (.bool W.en) (.bool W.dn) (.bool W.sn) w1
 go_wp2_with fail
 refine (Lin.l13Copy _ a2 3 W.rs.length h2 r2 xs2 W.rs _ A2.len.symm rfl A2.L.ll A2.R.lies A2.R.none_cap (by rw [A2.len]; decide) (by have := (roads_len (hops_iff.1 (ok_parts.1 A2.ok).1).2.1).2; omega) (few_of A2.ok A2.hs)).mono ?_
 rintro e w2 ⟨a', c', ys, g', c'', rfl, La, hma, Ra, ba⟩
 obtain ⟨g, rfl⟩ : ∃ g, a' = some ⟨g, 0, none⟩ := by
  rcases La.row.form with ⟨_, _, h0⟩ | ⟨g, rfl, _⟩
  ·rw [h0] at hma
   have := congrArg List.length hma
   simp [A2.len] at this
  ·exact ⟨g, rfl⟩
 have A3 : WAs w2 w1.heap.size g c' ys (some ⟨g', 0, none⟩) c'' W := ⟨La, hma.trans A2.hs, Ra, A2.ok⟩
 replace vR := vR.later ba
 have cu2 := cu1.below ba (Nat.le_refl _)
 have K2 := K0.trans (Draw.Kept.ofBelow ba (Nat.le_refl _))
 have hz1 : w.heap.size ≤ w1.heap.size := K0.size
 clear hfl La Ra ba cu1 K0 A2 hma
 have e0 := vR.cell (i := 0) rfl
 have e1 := vR.cell (i := 1) rfl
 have f0 := vR.free 0
 have f1 := vR.free 1
 go_wp2_with fail
 clear e0 e1 f0 f1
 obtain ⟨WZ, hWZ⟩ : ∃ z, Hid (z = (w2.setCell ⟨w.heap.size, 0, none⟩ (.slice (some ⟨g, 0, none⟩) 3 c')).setCell ⟨w.heap.size, 1, none⟩ (.slice (some ⟨g', 0, none⟩) W.rs.length c'')) := ⟨_, rfl⟩
 have ka : Draw.Kept w.heap.size w2 WZ := by rw [hWZ.out]; exact ((Draw.Kept.refl _ _).setCell (p := ⟨w.heap.size, 0, none⟩) (.inl rfl) _).setCell (p := ⟨w.heap.size, 1, none⟩) (.inl rfl) _
 have vv : Var 30 WZ w.heap.size [.slice (some ⟨g, 0, none⟩) 3 c', .slice (some ⟨g', 0, none⟩) W.rs.length c''] := by rw [hWZ.out]; exact (vR.set 0 _).set 1 _
 have A6 := A3.keptV vR (by decide) (by decide) (by decide) (by decide) ka
 have cu6 := cu2.upto (fun i hi => ka.block i (by have := cu2.lt; omega) (by omega))
 have K6 : Draw.Kept c w WZ := ⟨ka.os.trans K2.os, ka.tape.trans K2.tape, ka.output.trans K2.output, Nat.le_trans K2.size ka.size, fun i hi hc => (ka.block i (Nat.lt_of_lt_of_le hi K2.size) (by omega)).trans (K2.block i hi hc)⟩
 clear ka A3 vR cu2 K2
 have hWZo := hWZ.out
 clear hWZ
 subst hWZo
 generalize (w2.setCell ⟨w.heap.size, 0, none⟩ (.slice (some ⟨g, 0, none⟩) 3 c')).setCell ⟨w.heap.size, 1, none⟩ (.slice (some ⟨g', 0, none⟩) W.rs.length c'') = WZ at *
 have e0 := vv.cell (i := 0) rfl
 have e1 := vv.cell (i := 1) rfl
 refine bodyPost_ret (v := .agg #[.slice (some ⟨g, 0, none⟩) 3 c', .slice (some ⟨g', 0, none⟩) W.rs.length c'']) (by rw [Hop.res_one rfl]; go_simp) rfl ⟨W, g, c', ys, g', c'', rfl, ⟨A6.L.mono hz1, A6.hs, A6.R.mono hz1, A6.ok⟩, cu6, K6⟩
end Go.Proofs.YtanfnphdgcnojaaGreat.Wor
