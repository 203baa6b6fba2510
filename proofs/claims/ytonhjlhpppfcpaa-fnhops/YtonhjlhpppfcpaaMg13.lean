/- Contracts of the laws' likeWay and likeHop over equal ways and hops; lists of at most 2^21 letters and parts. · The laws' own helpers over takers with no parts: eqTaker, markTaker, heldTaker; no condition. -/
import Derived.Test.YtonhjlhpppfcpaaHopC
import Derived.Test.YtonhjlhpppfcpaaLawU
import Derived.Test.YtonhjlhpppfcpaaMg9
namespace Go.Proofs.Ytonhjlhpppfcpaa.Hop
open Go.RowKit RowG
set_option linter.unusedVariables false
set_option linter.unusedSimpArgs false

set_option maxHeartbeats 4000000 in
theorem likeWay (a a' : Option Addr) (n n' c c' : Nat) (l : List Lt) (w : World) (hn : n = l.length) (hn' : n' = l.length) (h : letE.Lies w a l) (h' : letE.Lies w a' l) (hl : l.length ≤ 2097152) :
    Calls Try.prog 37 #[.slice a n c, .slice a' n' c'] w fun x w' => x = .returned (.bool true) ∧ Below w.heap.size w w' := by
  subst hn
  subst hn'
  have hmix := mix
  go_enter Try.func37, Try.ntmps37
  go_wp2_with fail
  go_loopw [5] (fun iv wr => ∃ k : Nat, k ≤ l.length ∧ iv = .int .i64 k ∧ Below w.heap.size w wr) (fun iv _ => l.length - (intOf iv).toNat)
  case atStart => exact ⟨0, Nat.zero_le _, rfl, Below.refl _ _⟩
  case round =>
    obtain ⟨k, hk, rfl, hB⟩ := hrel
    by_cases hlt : k < l.length
    · obtain ⟨x, hx⟩ : ∃ x, l[k]? = some x := ⟨l[k], List.getElem?_eq_getElem hlt⟩
      rcases h.later hB with hL | ⟨b, off, ha, hL⟩
      · simp [hL] at hlt
      rcases h'.later hB with hL' | ⟨b', off', ha', hL'⟩
      · simp [hL'] at hlt
      subst ha ha'
      obtain ⟨bk, rd, pl, bs, en, lm, dn⟩ := x
      have f0 := Draw.Later.cell (show wr.cell? ⟨b, off + k * 7, none⟩ = some (.bool bk) from El.Lies.cell hL hx (j := 0) rfl)
      have f1 := Draw.Later.cell (show wr.cell? ⟨b, off + k * 7 + 1, none⟩ = some (.int .i64 rd) from El.Lies.cell hL hx (j := 1) rfl)
      have f2 := Draw.Later.cell (show wr.cell? ⟨b, off + k * 7 + 2, none⟩ = some (.int .i64 pl) from El.Lies.cell hL hx (j := 2) rfl)
      have f3 := Draw.Later.cell (show wr.cell? ⟨b, off + k * 7 + 3, none⟩ = some (.string bs) from El.Lies.cell hL hx (j := 3) rfl)
      have f4 := Draw.Later.cell (show wr.cell? ⟨b, off + k * 7 + 4, none⟩ = some (.bool en) from El.Lies.cell hL hx (j := 4) rfl)
      have f5 := Draw.Later.cell (show wr.cell? ⟨b, off + k * 7 + 5, none⟩ = some (.int .i64 lm) from El.Lies.cell hL hx (j := 5) rfl)
      have f6 := Draw.Later.cell (show wr.cell? ⟨b, off + k * 7 + 6, none⟩ = some (.bool dn) from El.Lies.cell hL hx (j := 6) rfl)
      have g0 := Draw.Later.cell (show wr.cell? ⟨b', off' + k * 7, none⟩ = some (.bool bk) from El.Lies.cell hL' hx (j := 0) rfl)
      have g1 := Draw.Later.cell (show wr.cell? ⟨b', off' + k * 7 + 1, none⟩ = some (.int .i64 rd) from El.Lies.cell hL' hx (j := 1) rfl)
      have g2 := Draw.Later.cell (show wr.cell? ⟨b', off' + k * 7 + 2, none⟩ = some (.int .i64 pl) from El.Lies.cell hL' hx (j := 2) rfl)
      have g3 := Draw.Later.cell (show wr.cell? ⟨b', off' + k * 7 + 3, none⟩ = some (.string bs) from El.Lies.cell hL' hx (j := 3) rfl)
      have g4 := Draw.Later.cell (show wr.cell? ⟨b', off' + k * 7 + 4, none⟩ = some (.bool en) from El.Lies.cell hL' hx (j := 4) rfl)
      have g5 := Draw.Later.cell (show wr.cell? ⟨b', off' + k * 7 + 5, none⟩ = some (.int .i64 lm) from El.Lies.cell hL' hx (j := 5) rfl)
      have g6 := Draw.Later.cell (show wr.cell? ⟨b', off' + k * 7 + 6, none⟩ = some (.bool dn) from El.Lies.cell hL' hx (j := 6) rfl)
      have i0 : (0 : Int) ≤ (k : Int) := by omega
      have i1 : (k : Int) < (l.length : Int) := by omega
      clear hL hL' hx
      go_wp2_with fail
      refine Draw.wp_region_later hmix (by kernel_rfl) ?_
      repeat (go_big_quiet_step (fail))
      refine wpQuiet_nil ?_
      intro wq hw'
      obtain ⟨q, hq⟩ := hw'
      have hBq := q.h
      rw [← hq] at hBq
      clear hq q f0 f1 f2 f3 f4 f5 f6 g0 g1 g2 g3 g4 g5 g6
      go_wp2_with fail
      go_roundw
      case rel => exact ⟨k + 1, by omega, by go_num, hB.trans (hBq.mono hB.size)⟩
      case measure => simp [intOf]; omega
    · have i1 : ¬ (k : Int) < (l.length : Int) := by omega
      go_wp2_with fail
      go_ret
      exact ⟨rfl, hB⟩

set_option maxRecDepth 10000 in
set_option maxHeartbeats 8000000 in
theorem likeHop (h : Hp) (aT bT : Option Addr) (cT dT : Nat) (aW bW : Option Addr) (cW dW : Nat) (w : World) (hT : Tak.partE.Lies w aT h.t.l) (hT' : Tak.partE.Lies w bT h.t.l) (hW : letE.Lies w aW h.ws) (hW' : letE.Lies w bW h.ws) (hlt : h.t.l.length ≤ 2097152) (hlw : h.ws.length ≤ 2097152) :
    Calls Try.prog 13 #[h.v aT cT aW cW, h.v bT dT bW dW] w fun x w' => x = .returned (.bool true) ∧ Below w.heap.size w w' := by
  have BV : Below w.heap.size w ((w.alloc (.cells #[.int .i64 h.g.ba, .string h.g.bs, .int .i64 h.g.cp, .int .i64 h.g.lm, .bool h.g.en, .bool h.g.dn, .int .i64 h.t.nx, .string h.t.bs, .slice aT h.t.l.length cT, .int .i64 h.t.cp, .int .i64 h.t.fi, .bool h.t.en, .slice aW h.ws.length cW] 31)).alloc (.cells #[.int .i64 h.g.ba, .string h.g.bs, .int .i64 h.g.cp, .int .i64 h.g.lm, .bool h.g.en, .bool h.g.dn, .int .i64 h.t.nx, .string h.t.bs, .slice bT h.t.l.length dT, .int .i64 h.t.cp, .int .i64 h.t.fi, .bool h.t.en, .slice bW h.ws.length dW] 31)) := ((Below.refl _ _).alloc (Nat.le_refl _) _).alloc (by simp) _
  have v1 : Var 31 ((w.alloc (.cells #[.int .i64 h.g.ba, .string h.g.bs, .int .i64 h.g.cp, .int .i64 h.g.lm, .bool h.g.en, .bool h.g.dn, .int .i64 h.t.nx, .string h.t.bs, .slice aT h.t.l.length cT, .int .i64 h.t.cp, .int .i64 h.t.fi, .bool h.t.en, .slice aW h.ws.length cW] 31)).alloc (.cells #[.int .i64 h.g.ba, .string h.g.bs, .int .i64 h.g.cp, .int .i64 h.g.lm, .bool h.g.en, .bool h.g.dn, .int .i64 h.t.nx, .string h.t.bs, .slice bT h.t.l.length dT, .int .i64 h.t.cp, .int .i64 h.t.fi, .bool h.t.en, .slice bW h.ws.length dW] 31)) w.heap.size [.int .i64 h.g.ba, .string h.g.bs, .int .i64 h.g.cp, .int .i64 h.g.lm, .bool h.g.en, .bool h.g.dn, .int .i64 h.t.nx, .string h.t.bs, .slice aT h.t.l.length cT, .int .i64 h.t.cp, .int .i64 h.t.fi, .bool h.t.en, .slice aW h.ws.length cW] := (Var.new w [.int .i64 h.g.ba, .string h.g.bs, .int .i64 h.g.cp, .int .i64 h.g.lm, .bool h.g.en, .bool h.g.dn, .int .i64 h.t.nx, .string h.t.bs, .slice aT h.t.l.length cT, .int .i64 h.t.cp, .int .i64 h.t.fi, .bool h.t.en, .slice aW h.ws.length cW]).alloc _
  have v2 : Var 31 ((w.alloc (.cells #[.int .i64 h.g.ba, .string h.g.bs, .int .i64 h.g.cp, .int .i64 h.g.lm, .bool h.g.en, .bool h.g.dn, .int .i64 h.t.nx, .string h.t.bs, .slice aT h.t.l.length cT, .int .i64 h.t.cp, .int .i64 h.t.fi, .bool h.t.en, .slice aW h.ws.length cW] 31)).alloc (.cells #[.int .i64 h.g.ba, .string h.g.bs, .int .i64 h.g.cp, .int .i64 h.g.lm, .bool h.g.en, .bool h.g.dn, .int .i64 h.t.nx, .string h.t.bs, .slice bT h.t.l.length dT, .int .i64 h.t.cp, .int .i64 h.t.fi, .bool h.t.en, .slice bW h.ws.length dW] 31)) (w.heap.size + 1) [.int .i64 h.g.ba, .string h.g.bs, .int .i64 h.g.cp, .int .i64 h.g.lm, .bool h.g.en, .bool h.g.dn, .int .i64 h.t.nx, .string h.t.bs, .slice bT h.t.l.length dT, .int .i64 h.t.cp, .int .i64 h.t.fi, .bool h.t.en, .slice bW h.ws.length dW] := by
    have q := Var.new (T := 31) (w.alloc (.cells #[.int .i64 h.g.ba, .string h.g.bs, .int .i64 h.g.cp, .int .i64 h.g.lm, .bool h.g.en, .bool h.g.dn, .int .i64 h.t.nx, .string h.t.bs, .slice aT h.t.l.length cT, .int .i64 h.t.cp, .int .i64 h.t.fi, .bool h.t.en, .slice aW h.ws.length cW] 31)) [.int .i64 h.g.ba, .string h.g.bs, .int .i64 h.g.cp, .int .i64 h.g.lm, .bool h.g.en, .bool h.g.dn, .int .i64 h.t.nx, .string h.t.bs, .slice bT h.t.l.length dT, .int .i64 h.t.cp, .int .i64 h.t.fi, .bool h.t.en, .slice bW h.ws.length dW]
    simpa using q
  have hTV := hT.later BV
  have hTV' := hT'.later BV
  have HT : Hid _ := Tak.likeTaker h.t.nx h.t.bs aT bT h.t.l.length h.t.l.length cT dT h.t.cp h.t.fi h.t.en h.t.l ((w.alloc (.cells #[.int .i64 h.g.ba, .string h.g.bs, .int .i64 h.g.cp, .int .i64 h.g.lm, .bool h.g.en, .bool h.g.dn, .int .i64 h.t.nx, .string h.t.bs, .slice aT h.t.l.length cT, .int .i64 h.t.cp, .int .i64 h.t.fi, .bool h.t.en, .slice aW h.ws.length cW] 31)).alloc (.cells #[.int .i64 h.g.ba, .string h.g.bs, .int .i64 h.g.cp, .int .i64 h.g.lm, .bool h.g.en, .bool h.g.dn, .int .i64 h.t.nx, .string h.t.bs, .slice bT h.t.l.length dT, .int .i64 h.t.cp, .int .i64 h.t.fi, .bool h.t.en, .slice bW h.ws.length dW] 31)) rfl rfl hTV hTV' hlt
  have HW : Hid _ := fun w' a b => likeWay aW bW h.ws.length h.ws.length cW dW h.ws w' rfl rfl a b hlw
  go_enter Try.func13, Try.ntmps13
  go_upto_region 1 with (fail)
  generalize ((w.alloc (.cells #[.int .i64 h.g.ba, .string h.g.bs, .int .i64 h.g.cp, .int .i64 h.g.lm, .bool h.g.en, .bool h.g.dn, .int .i64 h.t.nx, .string h.t.bs, .slice aT h.t.l.length cT, .int .i64 h.t.cp, .int .i64 h.t.fi, .bool h.t.en, .slice aW h.ws.length cW] 31)).alloc (.cells #[.int .i64 h.g.ba, .string h.g.bs, .int .i64 h.g.cp, .int .i64 h.g.lm, .bool h.g.en, .bool h.g.dn, .int .i64 h.t.nx, .string h.t.bs, .slice bT h.t.l.length dT, .int .i64 h.t.cp, .int .i64 h.t.fi, .bool h.t.en, .slice bW h.ws.length dW] 31)) = V at *
  have c0 := v1.cell (i := 0) rfl
  have c1 := v1.cell (i := 1) rfl
  have c2 := v1.cell (i := 2) rfl
  have c3 := v1.cell (i := 3) rfl
  have c4 := v1.cell (i := 4) rfl
  have c5 := v1.cell (i := 5) rfl
  have c6 := v1.cell (i := 6) rfl
  have c7 := v1.cell (i := 7) rfl
  have c8 := v1.cell (i := 8) rfl
  have c9 := v1.cell (i := 9) rfl
  have c10 := v1.cell (i := 10) rfl
  have c11 := v1.cell (i := 11) rfl
  have c12 := v1.cell (i := 12) rfl
  have d0 := v2.cell (i := 0) rfl
  have d1 := v2.cell (i := 1) rfl
  have d2 := v2.cell (i := 2) rfl
  have d3 := v2.cell (i := 3) rfl
  have d4 := v2.cell (i := 4) rfl
  have d5 := v2.cell (i := 5) rfl
  have d6 := v2.cell (i := 6) rfl
  have d7 := v2.cell (i := 7) rfl
  have d8 := v2.cell (i := 8) rfl
  have d9 := v2.cell (i := 9) rfl
  have d10 := v2.cell (i := 10) rfl
  have d11 := v2.cell (i := 11) rfl
  have d12 := v2.cell (i := 12) rfl
  clear hTV hTV'
  go_wp2_with fail
  refine Calls.mono HT.out ?_
  rintro x w1 ⟨rfl, b1⟩
  replace v1 := v1.later b1
  replace v2 := v2.later b1
  have B1 := BV.trans (b1.mono BV.size)
  clear c0 c1 c2 c3 c4 c5 c6 c7 c8 c9 c10 c11 c12 d0 d1 d2 d3 d4 d5 d6 d7 d8 d9 d10 d11 d12 b1 BV
  have c12 := v1.cell (i := 12) rfl
  have d12 := v2.cell (i := 12) rfl
  go_wp2_with fail
  refine (HW.out _ (hW.later B1) (hW'.later B1)).mono ?_
  rintro x w2 ⟨rfl, b2⟩
  go_wp2_with fail
  go_ret
  exact ⟨rfl, B1.trans (b2.mono B1.size)⟩

end Go.Proofs.Ytonhjlhpppfcpaa.Hop

namespace Go.Proofs.Ytonhjlhpppfcpaa.Tak
open Go.RowKit RowG
set_option linter.unusedVariables false
set_option linter.unusedSimpArgs false

set_option maxHeartbeats 1000000 in
theorem eqPartS0 (w : World) : Calls Try.prog 81 #[.slice none 0 0, .slice none 0 0] w fun x w' => x = .returned (.bool true) ∧ w' = w := by
  go_enter Try.func81, Try.ntmps81
  go_wp2_with fail
  go_loopw [5] (fun i wr => i = .int .i64 0 ∧ wr = w) (fun _ _ => 0)
  case atStart => exact ⟨rfl, rfl⟩
  case round =>
    obtain ⟨rfl, rfl⟩ := hrel
    go_wp2_with fail
    go_ret
    exact ⟨rfl, rfl⟩

set_option maxHeartbeats 1000000 in
theorem markPartS0 (k : Int) (w : World) : Calls Try.prog 83 #[.slice none 0 0, .int .i64 k] w fun x w' => x = .returned (.int .i64 k) ∧ w' = w := by
  go_enter Try.func83, Try.ntmps83
  go_wp2_with fail
  go_loopw [1, 5] (fun q i wr => q = .int .i64 k ∧ i = .int .i64 0 ∧ wr = w) (fun _ _ _ => 0)
  case atStart => exact ⟨rfl, rfl, rfl⟩
  case round =>
    obtain ⟨rfl, rfl, rfl⟩ := hrel
    go_wp2_with fail
    go_ret
    exact ⟨rfl, rfl⟩

set_option maxHeartbeats 1000000 in
theorem heldPartS0 (k : Int) (w : World) : Calls Try.prog 85 #[.slice none 0 0, .int .i64 k] w fun x w' => x = .returned (.int .i64 k) ∧ w' = w := by
  go_enter Try.func85, Try.ntmps85
  go_wp2_with fail
  go_loopw [1, 5] (fun q i wr => q = .int .i64 k ∧ i = .int .i64 0 ∧ wr = w) (fun _ _ _ => 0)
  case atStart => exact ⟨rfl, rfl, rfl⟩
  case round =>
    obtain ⟨rfl, rfl, rfl⟩ := hrel
    go_wp2_with fail
    go_ret
    exact ⟨rfl, rfl⟩

set_option maxHeartbeats 1000000 in
theorem eqTaker0 (nx : Int) (bs : ByteArray) (cp fi : Int) (en : Bool) (w : World) :
    Calls Try.prog 48 #[.agg #[.int .i64 nx, .string bs, .slice none 0 0, .int .i64 cp, .int .i64 fi, .bool en], .agg #[.int .i64 nx, .string bs, .slice none 0 0, .int .i64 cp, .int .i64 fi, .bool en]] w fun x w' => x = .returned (.bool true) ∧ Below w.heap.size w w' := by
  go_enter Try.func48, Try.ntmps48
  go_wp2_with (go_at_call 81; refine (eqPartS0 _).mono ?_; rintro x w' ⟨rfl, rfl⟩)
  go_ret
  exact ⟨rfl, ((Below.refl _ _).alloc (Nat.le_refl _) _).alloc (by simp) _⟩

set_option maxHeartbeats 1000000 in
theorem markTaker0 (nx : Int) (bs : ByteArray) (cp fi : Int) (en : Bool) (k : Int) (w : World) :
    Calls Try.prog 50 #[.agg #[.int .i64 nx, .string bs, .slice none 0 0, .int .i64 cp, .int .i64 fi, .bool en], .int .i64 k] w fun x w' => x = .returned (.int .i64 k) ∧ Below w.heap.size w w' := by
  go_enter Try.func50, Try.ntmps50
  go_wp2_with (go_at_call 83; refine (markPartS0 _ _).mono ?_; rintro x w' ⟨rfl, rfl⟩)
  go_ret
  exact ⟨rfl, (Below.refl _ _).alloc (Nat.le_refl _) _⟩

set_option maxHeartbeats 1000000 in
theorem heldTaker0 (nx : Int) (bs : ByteArray) (cp fi : Int) (en : Bool) (k : Int) (hk : 0 ≤ k) (w : World) :
    Calls Try.prog 52 #[.agg #[.int .i64 nx, .string bs, .slice none 0 0, .int .i64 cp, .int .i64 fi, .bool en], .int .i64 k] w fun x w' => x = .returned (.int .i64 k) ∧ Below w.heap.size w w' := by
  go_enter Try.func52, Try.ntmps52
  go_wp2_with (go_at_call 85; refine (heldPartS0 _ _).mono ?_; rintro x w' ⟨rfl, rfl⟩)
  go_ret
  exact ⟨rfl, (Below.refl _ _).alloc (Nat.le_refl _) _⟩

end Go.Proofs.Ytonhjlhpppfcpaa.Tak
