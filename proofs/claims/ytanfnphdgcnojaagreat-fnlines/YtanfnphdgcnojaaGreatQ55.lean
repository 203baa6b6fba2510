/- Contracts of this seat's functions, and their mathematics (LawH LawLr LawLl LawIn). -/
import Derived.Test.YtanfnphdgcnojaaGreatQ9
import Derived.Test.YtanfnphdgcnojaaGreatQ54
import Derived.Test.YtanfnphdgcnojaaGreatQ27
import Derived.Test.YtanfnphdgcnojaaGreatQ24
import Derived.Test.YtanfnphdgcnojaaGreatQ41
import Derived.Test.YtanfnphdgcnojaaGreatQ40
set_option linter.unusedVariables false
set_option linter.unusedSimpArgs false
set_option maxRecDepth 10000
set_option maxHeartbeats 8000000
namespace Go.Proofs.YtanfnphdgcnojaaGreat.Hop
open Go.RowKit RowG
theorem likeWay (a a' : Option Addr) (n n' c c' : Nat) (l : List Lt) (w : World) (hn : n = l.length) (hn' : n' = l.length) (h : letE.Lies w a l) (h' : letE.Lies w a' l) (hl : l.length ≤ 2097152) :
  Calls Tryz.prog 54 #[.slice a n c, .slice a' n' c'] w fun x w' => x = .returned (.bool true) ∧ Below w.heap.size w w' := by
 subst hn
 subst hn'
 have hmix := mix
 go_enter Tryz.func54, Tryz.ntmps54
 go_wp2_with fail
 go_loopw [5] (fun iv wr => ∃ k : Nat, k ≤ l.length ∧ iv = .int .i64 k ∧ Below w.heap.size w wr) (fun iv _ => l.length - (intOf iv).toNat)
 case atStart => exact ⟨0, Nat.zero_le _, rfl, Below.refl _ _⟩
 case round =>
  obtain ⟨k, hk, rfl, hB⟩ := hrel
  by_cases hlt : k < l.length
  ·obtain ⟨x, hx⟩ : ∃ x, l[k]? = some x := ⟨l[k], List.getElem?_eq_getElem hlt⟩
   rcases h.later hB with hL | ⟨b, off, ha, hL⟩
   ·simp [hL] at hlt
   rcases h'.later hB with hL' | ⟨b', off', ha', hL'⟩
   ·simp [hL'] at hlt
   subst ha ha'
   obtain ⟨bk, rd, pl, bs, en, lm, dn⟩ := x
   have f0 := Draw.Later.cell (show wr.cell? ⟨b, off + k * 7, none⟩ = some (.bool bk) from El.Lies.cell hL hx (j := 0) rfl)
   have f1 := Draw.Later.cell (show wr.cell? ⟨b, off + k * 7 + 1, none⟩ = some (.int .i64 rd) from El.Lies.cell hL hx (j := 1) rfl)
   have f2 := Draw.Later.cell (show wr.cell? ⟨b, off + k * 7 + 2, none⟩ = some (.int .i64 pl) from El.Lies.cell hL hx (j := 2) rfl)
   have f3 := Draw.Later.cell (show wr.cell? ⟨b, off + k * 7 + 3, none⟩ = some (.string bs) from El.Lies.cell hL hx (j := 3) rfl)
   have f4 := Draw.Later.cell (show wr.cell? ⟨b, off + k * 7 + 4, none⟩ = some (.bool en) from El.Lies.cell hL hx (j := 4) rfl)
   have f5 := Draw.Later.cell (show wr.cell? ⟨b, off + k * 7 + 5, none⟩ = some (.int .i64 lm) from El.Lies.cell hL hx (j := 5) rfl)
   have f6 := Draw.Later.cell (show wr.cell? ⟨b, off + k * 7 + 6, none⟩ = some (.bool dn) from El.Lies.cell hL hx (j := 6) rfl)
   have g0 := Draw.Later.cell (show wr.cell? ⟨b', off' + k * 7, none⟩ = some (.bool bk) from El.Lies.cell hL' hx (j := 0) rfl)
   have g1 := Draw.Later.cell (show wr.cell? ⟨b', off' + k * 7 + 1, none⟩ = some (.int .i64 rd) from El.Lies.cell hL' hx (j := 1) rfl)
   have g2 := Draw.Later.cell (show wr.cell? ⟨b', off' + k * 7 + 2, none⟩ = some (.int .i64 pl) from El.Lies.cell hL' hx (j := 2) rfl)
   have g3 := Draw.Later.cell (show wr.cell? ⟨b', off' + k * 7 + 3, none⟩ = some (.string bs) from El.Lies.cell hL' hx (j := 3) rfl)
   have g4 := Draw.Later.cell (show wr.cell? ⟨b', off' + k * 7 + 4, none⟩ = some (.bool en) from El.Lies.cell hL' hx (j := 4) rfl)
   have g5 := Draw.Later.cell (show wr.cell? ⟨b', off' + k * 7 + 5, none⟩ = some (.int .i64 lm) from El.Lies.cell hL' hx (j := 5) rfl)
   have g6 := Draw.Later.cell (show wr.cell? ⟨b', off' + k * 7 + 6, none⟩ = some (.bool dn) from El.Lies.cell hL' hx (j := 6) rfl)
   have i0 : (0 : Int) ≤ (k : Int) := by omega
   have i1 : (k : Int) < (l.length : Int) := by omega
   clear hL hL' hx
   go_wp2_with fail
   refine Draw.wp_region_later hmix (by kernel_rfl) ?_
   repeat (go_big_quiet_step (fail))
   refine wpQuiet_nil ?_
   intro wq hw'
   obtain ⟨q, hq⟩ := hw'
   have hBq := q.h
   rw [← hq] at hBq
   clear hq q f0 f1 f2 f3 f4 f5 f6 g0 g1 g2 g3 g4 g5 g6
   go_wp2_with fail
   go_roundw
   case rel => exact ⟨k + 1, by omega, by go_num, hB.trans (hBq.mono hB.size)⟩
   case measure => simp [intOf]; omega
  ·have i1 : ¬ (k : Int) < (l.length : Int) := by omega
   go_wp2_with fail
   go_ret
   exact ⟨rfl, hB⟩
theorem likeHop (h : Hp) (aT bT : Option Addr) (cT dT : Nat) (aW bW : Option Addr) (cW dW : Nat) (w : World) (hT : Tak.partE.Lies w aT h.t.l) (hT' : Tak.partE.Lies w bT h.t.l) (hW : letE.Lies w aW h.ws) (hW' : letE.Lies w bW h.ws) (hlt : h.t.l.length ≤ 2097152) (hlw : h.ws.length ≤ 2097152) :
  Calls Tryz.prog 37 #[h.v aT cT aW cW, h.v bT dT bW dW] w fun x w' => x = .returned (.bool true) ∧ Below w.heap.size w w' := by
 have BV : Below w.heap.size w ((w.alloc (.cells #[.int .i64 h.g.ba, .string h.g.bs, .int .i64 h.g.cp, .int .i64 h.g.lm, .bool h.g.en, .bool h.g.dn, .int .i64 h.t.nx, .string h.t.bs, .slice aT h.t.l.length cT, .int .i64 h.t.cp, .int .i64 h.t.fi, .bool h.t.en, .slice aW h.ws.length cW] 49)).alloc (.cells #[.int .i64 h.g.ba, .string h.g.bs, .int .i64 h.g.cp, .int .i64 h.g.lm, .bool h.g.en, .bool h.g.dn, .int .i64 h.t.nx, .string h.t.bs, .slice bT h.t.l.length dT, .int .i64 h.t.cp, .int .i64 h.t.fi, .bool h.t.en, .slice bW h.ws.length dW] 49)) := ((Below.refl _ _).alloc (Nat.le_refl _) _).alloc (by simp) _
 have v1 : Var 49 ((w.alloc (.cells #[.int .i64 h.g.ba, .string h.g.bs, .int .i64 h.g.cp, .int .i64 h.g.lm, .bool h.g.en, .bool h.g.dn, .int .i64 h.t.nx, .string h.t.bs, .slice aT h.t.l.length cT, .int .i64 h.t.cp, .int .i64 h.t.fi, .bool h.t.en, .slice aW h.ws.length cW] 49)).alloc (.cells #[.int .i64 h.g.ba, .string h.g.bs, .int .i64 h.g.cp, .int .i64 h.g.lm, .bool h.g.en, .bool h.g.dn, .int .i64 h.t.nx, .string h.t.bs, .slice bT h.t.l.length dT, .int .i64 h.t.cp, .int .i64 h.t.fi, .bool h.t.en, .slice bW h.ws.length dW] 49)) w.heap.size [.int .i64 h.g.ba, .string h.g.bs, .int .i64 h.g.cp, .int .i64 h.g.lm, .bool h.g.en, .bool h.g.dn, .int .i64 h.t.nx, .string h.t.bs, .slice aT h.t.l.length cT, .int .i64 h.t.cp, .int .i64 h.t.fi, .bool h.t.en, .slice aW h.ws.length cW] := (Var.new w [.int .i64 h.g.ba, .string h.g.bs, .int .i64 h.g.cp, .int .i64 h.g.lm, .bool h.g.en, .bool h.g.dn, .int .i64 h.t.nx, .string h.t.bs, .slice aT h.t.l.length cT, .int .i64 h.t.cp, .int .i64 h.t.fi, .bool h.t.en, .slice aW h.ws.length cW]).alloc _
 have v2 : Var 49 ((w.alloc (.cells #[.int .i64 h.g.ba, .string h.g.bs, .int .i64 h.g.cp, .int .i64 h.g.lm, .bool h.g.en, .bool h.g.dn, .int .i64 h.t.nx, .string h.t.bs, .slice aT h.t.l.length cT, .int .i64 h.t.cp, .int .i64 h.t.fi, .bool h.t.en, .slice aW h.ws.length cW] 49)).alloc (.cells #[.int .i64 h.g.ba, .string h.g.bs, .int .i64 h.g.cp, .int .i64 h.g.lm, .bool h.g.en, .bool h.g.dn, .int .i64 h.t.nx, .string h.t.bs, .slice bT h.t.l.length dT, .int .i64 h.t.cp, .int .i64 h.t.fi, .bool h.t.en, .slice bW h.ws.length dW] 49)) (w.heap.size + 1) [.int .i64 h.g.ba, .string h.g.bs, .int .i64 h.g.cp, .int .i64 h.g.lm, .bool h.g.en, .bool h.g.dn, .int .i64 h.t.nx, .string h.t.bs, .slice bT h.t.l.length dT, .int .i64 h.t.cp, .int .i64 h.t.fi, .bool h.t.en, .slice bW h.ws.length dW] := by
  have q := Var.new (T := 49) (w.alloc (.cells #[.int .i64 h.g.ba, .string h.g.bs, .int .i64 h.g.cp, .int .i64 h.g.lm, .bool h.g.en, .bool h.g.dn, .int .i64 h.t.nx, .string h.t.bs, .slice aT h.t.l.length cT, .int .i64 h.t.cp, .int .i64 h.t.fi, .bool h.t.en, .slice aW h.ws.length cW] 49)) [.int .i64 h.g.ba, .string h.g.bs, .int .i64 h.g.cp, .int .i64 h.g.lm, .bool h.g.en, .bool h.g.dn, .int .i64 h.t.nx, .string h.t.bs, .slice bT h.t.l.length dT, .int .i64 h.t.cp, .int .i64 h.t.fi, .bool h.t.en, .slice bW h.ws.length dW]
  simpa using q
 have hTV := hT.later BV
 have hTV' := hT'.later BV
 have HT : Hid _ := Tak.likeTaker h.t.nx h.t.bs aT bT h.t.l.length h.t.l.length cT dT h.t.cp h.t.fi h.t.en h.t.l ((w.alloc (.cells #[.int .i64 h.g.ba, .string h.g.bs, .int .i64 h.g.cp, .int .i64 h.g.lm, .bool h.g.en, .bool h.g.dn, .int .i64 h.t.nx, .string h.t.bs, .slice aT h.t.l.length cT, .int .i64 h.t.cp, .int .i64 h.t.fi, .bool h.t.en, .slice aW h.ws.length cW] 49)).alloc (.cells #[.int .i64 h.g.ba, .string h.g.bs, .int .i64 h.g.cp, .int .i64 h.g.lm, .bool h.g.en, .bool h.g.dn, .int .i64 h.t.nx, .string h.t.bs, .slice bT h.t.l.length dT, .int .i64 h.t.cp, .int .i64 h.t.fi, .bool h.t.en, .slice bW h.ws.length dW] 49)) rfl rfl hTV hTV' hlt
 have HW : Hid _ := fun w' a b => likeWay aW bW h.ws.length h.ws.length cW dW h.ws w' rfl rfl a b hlw
 go_enter Tryz.func37, Tryz.ntmps37
 go_upto_region 1 with (fail)
 generalize ((w.alloc (.cells #[.int .i64 h.g.ba, .string h.g.bs, .int .i64 h.g.cp, .int .i64 h.g.lm, .bool h.g.en, .bool h.g.dn, .int .i64 h.t.nx, .string h.t.bs, .slice aT h.t.l.length cT, .int .i64 h.t.cp, .int .i64 h.t.fi, .bool h.t.en, .slice aW h.ws.length cW] 49)).alloc (.cells #[.int .i64 h.g.ba, .string h.g.bs, .int .i64 h.g.cp, .int .i64 h.g.lm, .bool h.g.en, .bool h.g.dn, .int .i64 h.t.nx, .string h.t.bs, .slice bT h.t.l.length dT, .int .i64 h.t.cp, .int .i64 h.t.fi, .bool h.t.en, .slice bW h.ws.length dW] 49)) = V at *
 obtain ⟨c0, c1, c2, c3, c4, c5, c6, c7, c8, c9, c10, c11, c12⟩ := v1.c13
 obtain ⟨d0, d1, d2, d3, d4, d5, d6, d7, d8, d9, d10, d11, d12⟩ := v2.c13
 clear hTV hTV'
 go_wp2_with fail
 refine Calls.mono HT.out ?_
 rintro x w1 ⟨rfl, b1⟩
 replace v1 := v1.later b1
 replace v2 := v2.later b1
 have B1 := BV.trans (b1.mono BV.size)
 clear c0 c1 c2 c3 c4 c5 c6 c7 c8 c9 c10 c11 c12 d0 d1 d2 d3 d4 d5 d6 d7 d8 d9 d10 d11 d12 b1 BV
 have c12 := v1.cell (i := 12) rfl
 have d12 := v2.cell (i := 12) rfl
 go_wp2_with fail
 refine (HW.out _ (hW.later B1) (hW'.later B1)).mono ?_
 rintro x w2 ⟨rfl, b2⟩
 go_wp2_with fail
 go_ret
 exact ⟨rfl, B1.trans (b2.mono B1.size)⟩
end Go.Proofs.YtanfnphdgcnojaaGreat.Hop
namespace Go.Proofs.YtanfnphdgcnojaaGreat.Roa
open Go.RowKit RowG
theorem likeRoads (a a' : Option Addr) (n n' c c' : Nat) (l : List Rd) (w : World) (hn : n = l.length) (hn' : n' = l.length) (h : E.Lies w a l) (h' : E.Lies w a' l) (hl : l.length ≤ 4194304) :
  Calls Tryz.prog 36 #[.slice a n c, .slice a' n' c'] w fun x w' => x = .returned (.bool true) ∧ Below w.heap.size w w' := by
 subst hn
 subst hn'
 have hmix := mix
 go_enter Tryz.func36, Tryz.ntmps36
 go_wp2_with fail
 go_loopw [5] (fun iv wr => ∃ k : Nat, k ≤ l.length ∧ iv = .int .i64 k ∧ Below w.heap.size w wr) (fun iv _ => l.length - (intOf iv).toNat)
 case atStart => exact ⟨0, Nat.zero_le _, rfl, Below.refl _ _⟩
 case round =>
  obtain ⟨k, hk, rfl, hB⟩ := hrel
  by_cases hlt : k < l.length
  ·rcases h.later hB with h1 | ⟨b, off, rfl, h1⟩
   ·simp [h1] at hlt
   rcases h'.later hB with h1' | ⟨b', off', rfl, h1'⟩
   ·simp [h1'] at hlt
   obtain ⟨c0, c1, c2, c3⟩ := cells4 h1 hlt
   obtain ⟨e0, e1, e2, e3⟩ := cells4 h1' hlt
   have i0 : (0 : Int) ≤ (k : Int) := by omega
   have i1 : (k : Int) < (l.length : Int) := by omega
   generalize at' l k = s at *
   obtain ⟨o, co, se, lo⟩ := s
   simp only at c0 c1 c2 c3 e0 e1 e2 e3
   replace c0 := Draw.Later.cell c0
   replace c1 := Draw.Later.cell c1
   replace c2 := Draw.Later.cell c2
   replace c3 := Draw.Later.cell c3
   replace e0 := Draw.Later.cell e0
   replace e1 := Draw.Later.cell e1
   replace e2 := Draw.Later.cell e2
   replace e3 := Draw.Later.cell e3
   have hq := eqRoadV (o := o) (c := co) (s := se) (l := lo) (o' := o) (c' := co) (s' := se) (l' := lo) (v := true) (decide_eq_true rfl)
   clear h1 h1'
   go_wp2_with fail
   refine Draw.wp_region_later hmix (by kernel_rfl) ?_
   repeat (go_big_quiet_step (fail))
   refine wpQuiet_nil ?_
   intro _ hw'
   obtain ⟨⟨wq, hBq⟩, hw''⟩ := hw'
   subst hw''
   go_wp2_with fail
   go_roundw
   case rel => exact ⟨k + 1, by omega, by go_num, hB.trans (hBq.mono hB.size)⟩
   case measure => simp [intOf]; omega
  ·have i1 : ¬ (k : Int) < (l.length : Int) := by omega
   go_wp2_with fail
   go_ret
   exact ⟨rfl, hB⟩
end Go.Proofs.YtanfnphdgcnojaaGreat.Roa
namespace Go.Proofs.YtanfnphdgcnojaaGreat.Lin
open Go.RowKit RowG Hop Roa
theorem likeLine (a a' r r' : Option Addr) (c c' d d' n m n' m' : Nat) (xs ys : List Ha) (rs : List Rd) (w : World) (hn : n = xs.length) (hn' : n' = xs.length) (hm : m = rs.length) (hm' : m' = rs.length) (he : ys.map (·.h) = xs.map (·.h)) (L : LL w a xs) (L' : LL w a' ys) (R : Roa.E.Lies w r rs) (R' : Roa.E.Lies w r' rs) (hl : xs.length ≤ 1000) (hr : rs.length ≤ 1000) (hs : ∀ z ∈ xs, z.h.Sm) :
  Calls Tryz.prog 12 #[.agg #[.slice a n c, .slice r m d], .agg #[.slice a' n' c', .slice r' m' d']] w fun e w' => e = .returned (.bool true) ∧ Below w.heap.size w w' := by
 subst hn hn' hm hm'
 have hmix := Roa.mix
 have v1 : Var 30 ((w.alloc (.cells #[.slice a xs.length c, .slice r rs.length d] 30)).alloc (.cells #[.slice a' xs.length c', .slice r' rs.length d'] 30)) w.heap.size [.slice a xs.length c, .slice r rs.length d] := (Var.new w _).alloc _
 have v2 : Var 30 ((w.alloc (.cells #[.slice a xs.length c, .slice r rs.length d] 30)).alloc (.cells #[.slice a' xs.length c', .slice r' rs.length d'] 30)) (w.heap.size + 1) [.slice a' xs.length c', .slice r' rs.length d'] := by
  have q := Var.new (T := 30) (w.alloc (.cells #[.slice a xs.length c, .slice r rs.length d] 30)) [.slice a' xs.length c', .slice r' rs.length d']
  simpa using q
 have BV : Below w.heap.size w ((w.alloc (.cells #[.slice a xs.length c, .slice r rs.length d] 30)).alloc (.cells #[.slice a' xs.length c', .slice r' rs.length d'] 30)) := ((Below.refl _ _).alloc (Nat.le_refl _) _).alloc (by simp) _
 have hRo := fun w' l' l'' => likeRoads r r' rs.length rs.length d d' rs w' rfl rfl l' l'' (by omega)
 have L0 := L.later BV
 have L0' := L'.later BV
 have R0 := R.later BV
 have R0' := R'.later BV
 go_enter Tryz.func12, Tryz.ntmps12
 go_upto_region 1 with (fail)
 generalize (w.alloc (.cells #[.slice a xs.length c, .slice r rs.length d] 30)).alloc (.cells #[.slice a' xs.length c', .slice r' rs.length d'] 30) = V at *
 have e0 := v1.cell (i := 0) rfl
 have e1 := v1.cell (i := 1) rfl
 have d0 := v2.cell (i := 0) rfl
 have d1 := v2.cell (i := 1) rfl
 go_wp2_with fail
 refine (hRo _ R0 R0').mono ?_
 rintro e w1 ⟨rfl, b1⟩
 have HV1 : Hid (Var 30 w1 w.heap.size [.slice a xs.length c, .slice r rs.length d]) := v1.later b1
 have HV2 : Hid (Var 30 w1 (w.heap.size + 1) [.slice a' xs.length c', .slice r' rs.length d']) := v2.later b1
 have HL : Hid (LL w1 a xs) := L0.later b1
 have HL' : Hid (LL w1 a' ys) := L0'.later b1
 have B1 : Below w.heap.size w w1 := BV.trans (b1.mono BV.size)
 clear e0 e1 d0 d1 v1 v2 L0 L0' R0 R0' L L' R R' BV b1 hRo
 go_wp2_with fail
 go_loopw [5] (fun iv wr => ∃ k : Nat, k ≤ xs.length ∧ iv = .int .i64 k ∧ Below w1.heap.size w1 wr) (fun iv _ => xs.length - (intOf iv).toNat)
 case atStart => exact ⟨0, by omega, rfl, Below.refl _ _⟩
 case round =>
  obtain ⟨k, hk, rfl, hB⟩ := hrel
  have q1 := HV1.out.later hB
  have e0 := q1.cell (i := 0) rfl
  by_cases hkx : k < xs.length
  ·have i0 : (k : Int) < (xs.length : Int) := by omega
   have i1 : (0 : Int) ≤ (k : Int) := by omega
   obtain ⟨x0, hx⟩ : ∃ x, xs[k]? = some x := ⟨xs[k], List.getElem?_eq_getElem hkx⟩
   have hxm := List.mem_of_getElem? hx
   have hle : ys.length = xs.length := by have := congrArg List.length he; simpa using this
   obtain ⟨y0, hy⟩ : ∃ y, ys[k]? = some y := ⟨ys[k]'(by omega), List.getElem?_eq_getElem _⟩
   have hym := List.mem_of_getElem? hy
   have HXY : Hid (y0.h = x0.h) := by
    show _ = _
    have q := congrArg (·[k]?) he
    simpa [hx, hy] using q
   have Lr := HL.out.later hB
   have Lr' := HL'.out.later hB
   have q2 := HV2.out.later hB
   obtain ⟨b, off, rfl⟩ : ∃ b off, a = some ⟨b, off, none⟩ := by
    rcases Lr.row with h0 | ⟨b, off, h0, _⟩
    ·simp [h0] at hx
    ·exact ⟨b, off, h0⟩
   obtain ⟨b', off', rfl⟩ : ∃ b off, a' = some ⟨b, off, none⟩ := by
    rcases Lr'.row with h0 | ⟨b, off, h0, _⟩
    ·simp [h0] at hy
    ·exact ⟨b, off, h0⟩
   have keepW : ∀ (q : Nat) (dd : Nat → Bool) (w' : World), (fun _ w' => Var 30 w' w.heap.size [.slice (some ⟨b, off, none⟩) xs.length c, .slice r rs.length d] ∧ Var 30 w' (w.heap.size + 1) [.slice (some ⟨b', off', none⟩) xs.length c', .slice r' rs.length d'] ∧ LL w' (some ⟨b, off, none⟩) xs ∧ LL w' (some ⟨b', off', none⟩) ys ∧ Below w1.heap.size w1 w') dd w' → True → (fun _ w' => Var 30 w' w.heap.size [.slice (some ⟨b, off, none⟩) xs.length c, .slice r rs.length d] ∧ Var 30 w' (w.heap.size + 1) [.slice (some ⟨b', off', none⟩) xs.length c', .slice r' rs.length d'] ∧ LL w' (some ⟨b, off, none⟩) xs ∧ LL w' (some ⟨b', off', none⟩) ys ∧ Below w1.heap.size w1 w') (fun j => j == q || dd j) w' := fun q dd w' h _ => h
   go_wp2_with fail
   refine RegJ.wp_region_J (W := (fun _ w' => Var 30 w' w.heap.size [.slice (some ⟨b, off, none⟩) xs.length c, .slice r rs.length d] ∧ Var 30 w' (w.heap.size + 1) [.slice (some ⟨b', off', none⟩) xs.length c', .slice r' rs.length d'] ∧ LL w' (some ⟨b, off, none⟩) xs ∧ LL w' (some ⟨b', off', none⟩) ys ∧ Below w1.heap.size w1 w')) (RegJ.ValE [some (.pointer (some ⟨w.heap.size, 0, none⟩)), some (.slice (some ⟨b, off, none⟩) xs.length c), some (.int .i64 (k : Int)), some (.pointer (some ⟨b, off + k * 13, none⟩)), some (x0.h.v x0.aT x0.cT x0.aW x0.cW), some (.pointer (some ⟨w.heap.size + 1, 0, none⟩)), some (.slice (some ⟨b', off', none⟩) xs.length c'), some (.int .i64 (k : Int)), some (.pointer (some ⟨b', off' + k * 13, none⟩)), some (x0.h.v y0.aT y0.cT y0.aW y0.cW), some (.bool true), some (.bool false)] (([] : List RegJ.Tie))) [some 28, some 29, some 30, some 31, some 32, some 33, some 34, some 35, some 36, some 37, some 38, some 39] (F := ?_) (is := [0, 1, 2, 3, 4, 5, 6, 7, 8, 9, 10, 11]) hmix (by kernel_rfl) (by kernel_rfl) (by kernel_rfl) (by kernel_rfl) (fun x => ?_) (⟨q1.drew, q2.drew, Lr.drew, Lr'.drew, hB.drew⟩) ?_ (fun dR xR wR hWR hdR hJR => ?_)
   rotate_left 1
   focus (simp only [RegJ.lay, Act.put, Nat.reduceAdd, Nat.zero_add, Draw.lays]; rfl)
   focus
    iterate 12 (refine RegJ.Steps.cons (RegJ.StepAt.mk rfl (fun d x w1 hW1 hJ1 hx1 K hK => ?_)) ?_; simp only [Draw.lays] at hK; rotate_left 1)
    exact RegJ.Steps.nil
    ·go_simp; exact hK.out _ _ (keepW 0 d _ hW1 (by decide)) RegJ.ValE.same (RegJ.ValE.free (Or.inl rfl) rfl)
    ·have j0 : x 0 = _ := (hJ1.out 0 (by kernel_rfl)).val rfl; rw [j0] at hK; have e0 := hW1.1.cell (i := 0) rfl; go_simp; exact hK.out _ _ (keepW 1 d _ hW1 (by decide)) RegJ.ValE.same (RegJ.ValE.free (Or.inl rfl) rfl)
    ·go_simp; exact hK.out _ _ (keepW 2 d _ hW1 (by decide)) RegJ.ValE.same (RegJ.ValE.free (Or.inl rfl) rfl)
    ·have j1 : x 1 = _ := (hJ1.out 1 (by kernel_rfl)).val rfl; rw [j1] at hK; have j2 : x 2 = _ := (hJ1.out 2 (by kernel_rfl)).val rfl; rw [j2] at hK; go_simp; exact hK.out _ _ (keepW 3 d _ hW1 (by decide)) RegJ.ValE.same (RegJ.ValE.free (Or.inl rfl) rfl)
    ·have j3 : x 3 = _ := (hJ1.out 3 (by kernel_rfl)).val rfl; exact step_load_cells (by rfl) _ (by rfl) (by exact j3) (vs := x0.c) infoHop2 structHop2 (El.Lies.cells hW1.2.2.1.row hx) (hK.out _ _ (keepW 4 d _ hW1 (by decide)) RegJ.ValE.same (RegJ.ValE.free (Or.inl rfl) rfl))
    ·go_simp; exact hK.out _ _ (keepW 5 d _ hW1 (by decide)) RegJ.ValE.same (RegJ.ValE.free (Or.inl rfl) rfl)
    ·have j5 : x 5 = _ := (hJ1.out 5 (by kernel_rfl)).val rfl; rw [j5] at hK; have e0 := hW1.2.1.cell (i := 0) rfl; go_simp; exact hK.out _ _ (keepW 6 d _ hW1 (by decide)) RegJ.ValE.same (RegJ.ValE.free (Or.inl rfl) rfl)
    ·go_simp; exact hK.out _ _ (keepW 7 d _ hW1 (by decide)) RegJ.ValE.same (RegJ.ValE.free (Or.inl rfl) rfl)
    ·have j6 : x 6 = _ := (hJ1.out 6 (by kernel_rfl)).val rfl; rw [j6] at hK; have j7 : x 7 = _ := (hJ1.out 7 (by kernel_rfl)).val rfl; rw [j7] at hK; go_simp; exact hK.out _ _ (keepW 8 d _ hW1 (by decide)) RegJ.ValE.same (RegJ.ValE.free (Or.inl rfl) rfl)
    ·have j8 : x 8 = _ := (hJ1.out 8 (by kernel_rfl)).val rfl; exact step_load_cells (by rfl) _ (by rfl) (by exact j8) (vs := x0.h.c y0.aT y0.cT y0.aW y0.cW) infoHop2 structHop2 (by have q := El.Lies.cells hW1.2.2.2.1.row hy; rw [show hopE.enc y0 = x0.h.c y0.aT y0.cT y0.aW y0.cW by rw [← HXY.out]; rfl] at q; exact q) (hK.out _ _ (keepW 9 d _ hW1 (by decide)) RegJ.ValE.same (RegJ.ValE.free (Or.inl rfl) rfl))
    ·have j4 : x 4 = _ := (hJ1.out 4 (by kernel_rfl)).val rfl; rw [j4] at hK; have j9 : x 9 = _ := (hJ1.out 9 (by kernel_rfl)).val rfl; rw [j9] at hK; obtain ⟨q1, q2, q3, q4, q5⟩ := id hW1; go_simp; have ry := q4.rows y0 hym; refine (likeHop x0.h x0.aT y0.aT x0.cT y0.cT x0.aW y0.aW x0.cW y0.cW _ (q3.rows x0 hxm).p (by have := ry.p; rw [HXY.out] at this; exact this) (q3.rows x0 hxm).l (by have := ry.l; rw [HXY.out] at this; exact this) (by have := (hs x0 hxm).tl; omega) (by have := (hs x0 hxm).wl; omega)).mono ?_; rintro e wa ⟨rfl, ba⟩; go_simp; exact hK.out _ _ ⟨q1.later ba, q2.later ba, q3.later ba, q4.later ba, q5.trans (ba.mono q5.size)⟩ (RegJ.ValE.keep (by intro t ht; cases ht)) (RegJ.ValE.free (Or.inl rfl) rfl)
    ·have j10 : x 10 = _ := (hJ1.out 10 (by kernel_rfl)).val rfl; rw [j10] at hK; go_simp; exact hK.out _ _ (keepW 11 d _ hW1 (by decide)) RegJ.ValE.same (RegJ.ValE.free (Or.inl rfl) rfl)
   have hB2 := hWR.2.2.2.2
   have j11 : xR 11 = _ := (hJR 11 (by simp)).val rfl
   rw [j11]
   clear hWR hdR hJR keepW q1 q2 Lr Lr' hx hy e0 hB
   go_wp2_with fail
   go_roundw
   case rel => exact ⟨k + 1, by omega, by go_num, hB2⟩
   case measure => simp [intOf]; omega
  ·have i0 : ¬ (k : Int) < (xs.length : Int) := by omega
   go_wp2_with fail
   go_ret
   exact ⟨rfl, B1.trans (hB.mono B1.size)⟩
end Go.Proofs.YtanfnphdgcnojaaGreat.Lin
namespace Go.Proofs.YtanfnphdgcnojaaGreat.Lin
open Go.RowKit RowG
theorem intAt {w : World} {B g c : Nat} {l : List Int} (h : Roa.EI.Own 2 w B (some ⟨g, 0, none⟩) c l) {k : Nat} (hk : k < l.length) : w.cell? ⟨g, k, none⟩ = some (.int .i64 (capAt l k)) ∧ w.frozen? ⟨g, k, none⟩ = false := by
 refine ⟨?_, World.ownsRow.frozenAt h k⟩
 have := capCell h.lies hk
 rwa [Nat.zero_add] at this
end Go.Proofs.YtanfnphdgcnojaaGreat.Lin
