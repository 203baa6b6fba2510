/- Contract of the laws' likeTaker over two equal takers; lists of at most 2^21 parts. · Contracts of the laws' likeWay and likeHop over equal ways and hops; lists of at most 2^21 letters and parts. · slices.SortFunc of no parts at all: nothing turns; no condition. -/
import Derived.Test.YtjnkjeajkmgcmaaGreatMg4
import Derived.Test.YtjnkjeajkmgcmaaGreatMg6
import Derived.Test.YtjnkjeajkmgcmaaGreatMg19
import Derived.Test.YtjnkjeajkmgcmaaGreatMg2
import Derived.Shelf.SlSortCmp.NoneTotal
namespace Go.Proofs.YtjnkjeajkmgcmaaGreat.Tak
open Go.RowKit RowG
set_option linter.unusedVariables false
set_option linter.unusedSimpArgs false

set_option maxHeartbeats 2000000 in
theorem likeTaker (nx : Int) (bs : ByteArray) (a a' : Option Addr) (n n' c c' : Nat) (cp fi : Int) (en : Bool) (l : List Pt) (w : World) (hn : n = l.length) (hn' : n' = l.length) (h : partE.Lies w a l) (h' : partE.Lies w a' l) (hl : l.length ≤ 2097152) :
    Calls Tryz.prog 17 #[.agg #[.int .i64 nx, .string bs, .slice a n c, .int .i64 cp, .int .i64 fi, .bool en], .agg #[.int .i64 nx, .string bs, .slice a' n' c', .int .i64 cp, .int .i64 fi, .bool en]] w fun x w' => x = .returned (.bool true) ∧ Below w.heap.size w w' := by
  subst hn
  subst hn'
  have hmix := mix
  have BV : Below w.heap.size w ((w.alloc (.cells #[.int .i64 nx, .string bs, .slice a l.length c, .int .i64 cp, .int .i64 fi, .bool en] 28)).alloc (.cells #[.int .i64 nx, .string bs, .slice a' l.length c', .int .i64 cp, .int .i64 fi, .bool en] 28)) := ((Below.refl _ _).alloc (Nat.le_refl _) _).alloc (by simp) _
  have v1 : Var 28 ((w.alloc (.cells #[.int .i64 nx, .string bs, .slice a l.length c, .int .i64 cp, .int .i64 fi, .bool en] 28)).alloc (.cells #[.int .i64 nx, .string bs, .slice a' l.length c', .int .i64 cp, .int .i64 fi, .bool en] 28)) w.heap.size [.int .i64 nx, .string bs, .slice a l.length c, .int .i64 cp, .int .i64 fi, .bool en] := (Var.new w [.int .i64 nx, .string bs, .slice a l.length c, .int .i64 cp, .int .i64 fi, .bool en]).alloc _
  have v2 : Var 28 ((w.alloc (.cells #[.int .i64 nx, .string bs, .slice a l.length c, .int .i64 cp, .int .i64 fi, .bool en] 28)).alloc (.cells #[.int .i64 nx, .string bs, .slice a' l.length c', .int .i64 cp, .int .i64 fi, .bool en] 28)) (w.heap.size + 1) [.int .i64 nx, .string bs, .slice a' l.length c', .int .i64 cp, .int .i64 fi, .bool en] := by
    have := Var.new (T := 28) (w.alloc (.cells #[.int .i64 nx, .string bs, .slice a l.length c, .int .i64 cp, .int .i64 fi, .bool en] 28)) [.int .i64 nx, .string bs, .slice a' l.length c', .int .i64 cp, .int .i64 fi, .bool en]
    simpa using this
  have hen : (en != en) = false := by cases en <;> rfl
  go_enter Tryz.func17, Tryz.ntmps17
  go_upto_region 1 with (fail)
  generalize hV : ((w.alloc (.cells #[.int .i64 nx, .string bs, .slice a l.length c, .int .i64 cp, .int .i64 fi, .bool en] 28)).alloc (.cells #[.int .i64 nx, .string bs, .slice a' l.length c', .int .i64 cp, .int .i64 fi, .bool en] 28)) = V at *
  clear hV
  obtain ⟨c0, c1, c2, c3, c4, c5⟩ := v1.c6
  obtain ⟨d0, d1, d2, d3, d4, d5⟩ := v2.c6
  have hV1 := v1.lt
  have hV2 := v2.lt
  have HV1 : Hid _ := v1
  have HV2 : Hid _ := v2
  clear v1 v2
  go_wp2_with fail
  clear c0 c1 c2 c3 c4 c5 d0 d1 d2 d3 d4 d5
  go_loopw [5] (fun iv wr => ∃ k : Nat, k ≤ l.length ∧ iv = .int .i64 k ∧ Below V.heap.size V wr) (fun iv _ => l.length - (intOf iv).toNat)
  case atStart => exact ⟨0, Nat.zero_le _, rfl, Below.refl _ _⟩
  case round =>
    obtain ⟨k, hk, rfl, hB⟩ := hrel
    have BW : Below w.heap.size w wr := BV.trans (hB.mono BV.size)
    have x1 := Var.later (T := 28) HV1.out hB
    have x2 := Var.later (T := 28) HV2.out hB
    have c2 := x1.cell (i := 2) rfl
    have e1 := Draw.Later.cell c2
    have e2 := Draw.Later.cell (x2.cell (i := 2) rfl)
    clear x1 x2
    by_cases hlt : k < l.length
    · obtain ⟨⟨pa, pb⟩, hx⟩ : ∃ x, l[k]? = some x := ⟨l[k], List.getElem?_eq_getElem hlt⟩
      rcases h.later BW with hL | ⟨b, off, ha, hL⟩
      · simp [hL] at hlt
      rcases h'.later BW with hL' | ⟨b', off', ha', hL'⟩
      · simp [hL'] at hlt
      have f0 := Draw.Later.cell (show wr.cell? ⟨b, off + k * 2, none⟩ = some (.int .i64 pa) from El.Lies.cell hL hx (j := 0) rfl)
      have f1 := Draw.Later.cell (show wr.cell? ⟨b, off + k * 2 + 1, none⟩ = some (.string pb) from El.Lies.cell hL hx (j := 1) rfl)
      have g0 := Draw.Later.cell (show wr.cell? ⟨b', off' + k * 2, none⟩ = some (.int .i64 pa) from El.Lies.cell hL' hx (j := 0) rfl)
      have g1 := Draw.Later.cell (show wr.cell? ⟨b', off' + k * 2 + 1, none⟩ = some (.string pb) from El.Lies.cell hL' hx (j := 1) rfl)
      rw [ha] at c2 e1
      rw [ha'] at e2
      have i0 : (0 : Int) ≤ (k : Int) := by omega
      have i1 : (k : Int) < (l.length : Int) := by omega
      clear hL hL' hx ha ha'
      go_wp2_with fail
      refine Draw.wp_region_later hmix (by kernel_rfl) ?_
      repeat (go_big_quiet_step (fail))
      refine wpQuiet_nil ?_
      intro wq hw'
      obtain ⟨q, hq⟩ := hw'
      have hBq := q.h
      rw [← hq] at hBq
      clear hq q e1 e2 f0 f1 g0 g1 c2
      go_wp2_with fail
      go_roundw
      case rel => exact ⟨k + 1, by omega, by go_num, hB.trans (hBq.mono hB.size)⟩
      case measure => simp [intOf]; omega
    · have i1 : ¬ (k : Int) < (l.length : Int) := by omega
      go_wp2_with fail
      go_ret
      exact ⟨rfl, BW⟩

end Go.Proofs.YtjnkjeajkmgcmaaGreat.Tak

namespace Go.Proofs.YtjnkjeajkmgcmaaGreat.Hop
open Go.RowKit RowG
set_option linter.unusedVariables false
set_option linter.unusedSimpArgs false

set_option maxHeartbeats 4000000 in
theorem likeWay (a a' : Option Addr) (n n' c c' : Nat) (l : List Lt) (w : World) (hn : n = l.length) (hn' : n' = l.length) (h : letE.Lies w a l) (h' : letE.Lies w a' l) (hl : l.length ≤ 2097152) :
    Calls Tryz.prog 14 #[.slice a n c, .slice a' n' c'] w fun x w' => x = .returned (.bool true) ∧ Below w.heap.size w w' := by
  subst hn
  subst hn'
  have hmix := mix
  go_enter Tryz.func14, Tryz.ntmps14
  go_wp2_with fail
  go_loopw [5] (fun iv wr => ∃ k : Nat, k ≤ l.length ∧ iv = .int .i64 k ∧ Below w.heap.size w wr) (fun iv _ => l.length - (intOf iv).toNat)
  case atStart => exact ⟨0, Nat.zero_le _, rfl, Below.refl _ _⟩
  case round =>
    obtain ⟨k, hk, rfl, hB⟩ := hrel
    by_cases hlt : k < l.length
    · obtain ⟨x, hx⟩ : ∃ x, l[k]? = some x := ⟨l[k], List.getElem?_eq_getElem hlt⟩
      rcases h.later hB with hL | ⟨b, off, ha, hL⟩
      · simp [hL] at hlt
      rcases h'.later hB with hL' | ⟨b', off', ha', hL'⟩
      · simp [hL'] at hlt
      subst ha ha'
      obtain ⟨bk, rd, pl, bs, en, lm, dn⟩ := x
      have f0 := Draw.Later.cell (show wr.cell? ⟨b, off + k * 7, none⟩ = some (.bool bk) from El.Lies.cell hL hx (j := 0) rfl)
      have f1 := Draw.Later.cell (show wr.cell? ⟨b, off + k * 7 + 1, none⟩ = some (.int .i64 rd) from El.Lies.cell hL hx (j := 1) rfl)
      have f2 := Draw.Later.cell (show wr.cell? ⟨b, off + k * 7 + 2, none⟩ = some (.int .i64 pl) from El.Lies.cell hL hx (j := 2) rfl)
      have f3 := Draw.Later.cell (show wr.cell? ⟨b, off + k * 7 + 3, none⟩ = some (.string bs) from El.Lies.cell hL hx (j := 3) rfl)
      have f4 := Draw.Later.cell (show wr.cell? ⟨b, off + k * 7 + 4, none⟩ = some (.bool en) from El.Lies.cell hL hx (j := 4) rfl)
      have f5 := Draw.Later.cell (show wr.cell? ⟨b, off + k * 7 + 5, none⟩ = some (.int .i64 lm) from El.Lies.cell hL hx (j := 5) rfl)
      have f6 := Draw.Later.cell (show wr.cell? ⟨b, off + k * 7 + 6, none⟩ = some (.bool dn) from El.Lies.cell hL hx (j := 6) rfl)
      have g0 := Draw.Later.cell (show wr.cell? ⟨b', off' + k * 7, none⟩ = some (.bool bk) from El.Lies.cell hL' hx (j := 0) rfl)
      have g1 := Draw.Later.cell (show wr.cell? ⟨b', off' + k * 7 + 1, none⟩ = some (.int .i64 rd) from El.Lies.cell hL' hx (j := 1) rfl)
      have g2 := Draw.Later.cell (show wr.cell? ⟨b', off' + k * 7 + 2, none⟩ = some (.int .i64 pl) from El.Lies.cell hL' hx (j := 2) rfl)
      have g3 := Draw.Later.cell (show wr.cell? ⟨b', off' + k * 7 + 3, none⟩ = some (.string bs) from El.Lies.cell hL' hx (j := 3) rfl)
      have g4 := Draw.Later.cell (show wr.cell? ⟨b', off' + k * 7 + 4, none⟩ = some (.bool en) from El.Lies.cell hL' hx (j := 4) rfl)
      have g5 := Draw.Later.cell (show wr.cell? ⟨b', off' + k * 7 + 5, none⟩ = some (.int .i64 lm) from El.Lies.cell hL' hx (j := 5) rfl)
      have g6 := Draw.Later.cell (show wr.cell? ⟨b', off' + k * 7 + 6, none⟩ = some (.bool dn) from El.Lies.cell hL' hx (j := 6) rfl)
      have i0 : (0 : Int) ≤ (k : Int) := by omega
      have i1 : (k : Int) < (l.length : Int) := by omega
      clear hL hL' hx
      go_wp2_with fail
      refine Draw.wp_region_later hmix (by kernel_rfl) ?_
      repeat (go_big_quiet_step (fail))
      refine wpQuiet_nil ?_
      intro wq hw'
      obtain ⟨q, hq⟩ := hw'
      have hBq := q.h
      rw [← hq] at hBq
      clear hq q f0 f1 f2 f3 f4 f5 f6 g0 g1 g2 g3 g4 g5 g6
      go_wp2_with fail
      go_roundw
      case rel => exact ⟨k + 1, by omega, by go_num, hB.trans (hBq.mono hB.size)⟩
      case measure => simp [intOf]; omega
    · have i1 : ¬ (k : Int) < (l.length : Int) := by omega
      go_wp2_with fail
      go_ret
      exact ⟨rfl, hB⟩

set_option maxRecDepth 10000 in
set_option maxHeartbeats 8000000 in
theorem likeHop (h : Hp) (aT bT : Option Addr) (cT dT : Nat) (aW bW : Option Addr) (cW dW : Nat) (w : World) (hT : Tak.partE.Lies w aT h.t.l) (hT' : Tak.partE.Lies w bT h.t.l) (hW : letE.Lies w aW h.ws) (hW' : letE.Lies w bW h.ws) (hlt : h.t.l.length ≤ 2097152) (hlw : h.ws.length ≤ 2097152) :
    Calls Tryz.prog 10 #[h.v aT cT aW cW, h.v bT dT bW dW] w fun x w' => x = .returned (.bool true) ∧ Below w.heap.size w w' := by
  have BV : Below w.heap.size w ((w.alloc (.cells #[.int .i64 h.g.ba, .string h.g.bs, .int .i64 h.g.cp, .int .i64 h.g.lm, .bool h.g.en, .bool h.g.dn, .int .i64 h.t.nx, .string h.t.bs, .slice aT h.t.l.length cT, .int .i64 h.t.cp, .int .i64 h.t.fi, .bool h.t.en, .slice aW h.ws.length cW] 31)).alloc (.cells #[.int .i64 h.g.ba, .string h.g.bs, .int .i64 h.g.cp, .int .i64 h.g.lm, .bool h.g.en, .bool h.g.dn, .int .i64 h.t.nx, .string h.t.bs, .slice bT h.t.l.length dT, .int .i64 h.t.cp, .int .i64 h.t.fi, .bool h.t.en, .slice bW h.ws.length dW] 31)) := ((Below.refl _ _).alloc (Nat.le_refl _) _).alloc (by simp) _
  have v1 : Var 31 ((w.alloc (.cells #[.int .i64 h.g.ba, .string h.g.bs, .int .i64 h.g.cp, .int .i64 h.g.lm, .bool h.g.en, .bool h.g.dn, .int .i64 h.t.nx, .string h.t.bs, .slice aT h.t.l.length cT, .int .i64 h.t.cp, .int .i64 h.t.fi, .bool h.t.en, .slice aW h.ws.length cW] 31)).alloc (.cells #[.int .i64 h.g.ba, .string h.g.bs, .int .i64 h.g.cp, .int .i64 h.g.lm, .bool h.g.en, .bool h.g.dn, .int .i64 h.t.nx, .string h.t.bs, .slice bT h.t.l.length dT, .int .i64 h.t.cp, .int .i64 h.t.fi, .bool h.t.en, .slice bW h.ws.length dW] 31)) w.heap.size [.int .i64 h.g.ba, .string h.g.bs, .int .i64 h.g.cp, .int .i64 h.g.lm, .bool h.g.en, .bool h.g.dn, .int .i64 h.t.nx, .string h.t.bs, .slice aT h.t.l.length cT, .int .i64 h.t.cp, .int .i64 h.t.fi, .bool h.t.en, .slice aW h.ws.length cW] := (Var.new w [.int .i64 h.g.ba, .string h.g.bs, .int .i64 h.g.cp, .int .i64 h.g.lm, .bool h.g.en, .bool h.g.dn, .int .i64 h.t.nx, .string h.t.bs, .slice aT h.t.l.length cT, .int .i64 h.t.cp, .int .i64 h.t.fi, .bool h.t.en, .slice aW h.ws.length cW]).alloc _
  have v2 : Var 31 ((w.alloc (.cells #[.int .i64 h.g.ba, .string h.g.bs, .int .i64 h.g.cp, .int .i64 h.g.lm, .bool h.g.en, .bool h.g.dn, .int .i64 h.t.nx, .string h.t.bs, .slice aT h.t.l.length cT, .int .i64 h.t.cp, .int .i64 h.t.fi, .bool h.t.en, .slice aW h.ws.length cW] 31)).alloc (.cells #[.int .i64 h.g.ba, .string h.g.bs, .int .i64 h.g.cp, .int .i64 h.g.lm, .bool h.g.en, .bool h.g.dn, .int .i64 h.t.nx, .string h.t.bs, .slice bT h.t.l.length dT, .int .i64 h.t.cp, .int .i64 h.t.fi, .bool h.t.en, .slice bW h.ws.length dW] 31)) (w.heap.size + 1) [.int .i64 h.g.ba, .string h.g.bs, .int .i64 h.g.cp, .int .i64 h.g.lm, .bool h.g.en, .bool h.g.dn, .int .i64 h.t.nx, .string h.t.bs, .slice bT h.t.l.length dT, .int .i64 h.t.cp, .int .i64 h.t.fi, .bool h.t.en, .slice bW h.ws.length dW] := by
    have q := Var.new (T := 31) (w.alloc (.cells #[.int .i64 h.g.ba, .string h.g.bs, .int .i64 h.g.cp, .int .i64 h.g.lm, .bool h.g.en, .bool h.g.dn, .int .i64 h.t.nx, .string h.t.bs, .slice aT h.t.l.length cT, .int .i64 h.t.cp, .int .i64 h.t.fi, .bool h.t.en, .slice aW h.ws.length cW] 31)) [.int .i64 h.g.ba, .string h.g.bs, .int .i64 h.g.cp, .int .i64 h.g.lm, .bool h.g.en, .bool h.g.dn, .int .i64 h.t.nx, .string h.t.bs, .slice bT h.t.l.length dT, .int .i64 h.t.cp, .int .i64 h.t.fi, .bool h.t.en, .slice bW h.ws.length dW]
    simpa using q
  have hTV := hT.later BV
  have hTV' := hT'.later BV
  have HT : Hid _ := Tak.likeTaker h.t.nx h.t.bs aT bT h.t.l.length h.t.l.length cT dT h.t.cp h.t.fi h.t.en h.t.l ((w.alloc (.cells #[.int .i64 h.g.ba, .string h.g.bs, .int .i64 h.g.cp, .int .i64 h.g.lm, .bool h.g.en, .bool h.g.dn, .int .i64 h.t.nx, .string h.t.bs, .slice aT h.t.l.length cT, .int .i64 h.t.cp, .int .i64 h.t.fi, .bool h.t.en, .slice aW h.ws.length cW] 31)).alloc (.cells #[.int .i64 h.g.ba, .string h.g.bs, .int .i64 h.g.cp, .int .i64 h.g.lm, .bool h.g.en, .bool h.g.dn, .int .i64 h.t.nx, .string h.t.bs, .slice bT h.t.l.length dT, .int .i64 h.t.cp, .int .i64 h.t.fi, .bool h.t.en, .slice bW h.ws.length dW] 31)) rfl rfl hTV hTV' hlt
  have HW : Hid _ := fun w' a b => likeWay aW bW h.ws.length h.ws.length cW dW h.ws w' rfl rfl a b hlw
  go_enter Tryz.func10, Tryz.ntmps10
  go_upto_region 1 with (fail)
  generalize ((w.alloc (.cells #[.int .i64 h.g.ba, .string h.g.bs, .int .i64 h.g.cp, .int .i64 h.g.lm, .bool h.g.en, .bool h.g.dn, .int .i64 h.t.nx, .string h.t.bs, .slice aT h.t.l.length cT, .int .i64 h.t.cp, .int .i64 h.t.fi, .bool h.t.en, .slice aW h.ws.length cW] 31)).alloc (.cells #[.int .i64 h.g.ba, .string h.g.bs, .int .i64 h.g.cp, .int .i64 h.g.lm, .bool h.g.en, .bool h.g.dn, .int .i64 h.t.nx, .string h.t.bs, .slice bT h.t.l.length dT, .int .i64 h.t.cp, .int .i64 h.t.fi, .bool h.t.en, .slice bW h.ws.length dW] 31)) = V at *
  obtain ⟨c0, c1, c2, c3, c4, c5, c6, c7, c8, c9, c10, c11, c12⟩ := v1.c13
  obtain ⟨d0, d1, d2, d3, d4, d5, d6, d7, d8, d9, d10, d11, d12⟩ := v2.c13
  clear hTV hTV'
  go_wp2_with fail
  refine Calls.mono HT.out ?_
  rintro x w1 ⟨rfl, b1⟩
  replace v1 := v1.later b1
  replace v2 := v2.later b1
  have B1 := BV.trans (b1.mono BV.size)
  clear c0 c1 c2 c3 c4 c5 c6 c7 c8 c9 c10 c11 c12 d0 d1 d2 d3 d4 d5 d6 d7 d8 d9 d10 d11 d12 b1 BV
  have c12 := v1.cell (i := 12) rfl
  have d12 := v2.cell (i := 12) rfl
  go_wp2_with fail
  refine (HW.out _ (hW.later B1) (hW'.later B1)).mono ?_
  rintro x w2 ⟨rfl, b2⟩
  go_wp2_with fail
  go_ret
  exact ⟨rfl, B1.trans (b2.mono B1.size)⟩

end Go.Proofs.YtjnkjeajkmgcmaaGreat.Hop

namespace Go.Proofs.YtjnkjeajkmgcmaaGreat.Tak
open Go.RowKit RowG Go.Shelf Go.Lib Go.Sort
set_option linter.unusedVariables false

theorem sortNil (cap : Nat) (fv : Value) (w : World) : Calls Tryz.prog 99 #[.slice none 0 cap, fv] w fun e w' => e = .returned (.tuple #[]) ∧ w' = w :=
  AnyF.slices_SortFunc_none { Shl.sortP with } none cap fv w

end Go.Proofs.YtjnkjeajkmgcmaaGreat.Tak
