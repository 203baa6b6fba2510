/- Mathematics of FnArrives (chapter 7); no condition. · Contract of the program's TakenAway; lists of at most 2^21 parts, none beyond 2^62. · Contracts of the program's fits, within and runsOf; lists of at most 2^21 parts, none beyond 2^62. · Contracts of slices.Grow of nil and slices.Concat of two slices of parts; at most 2^21 parts each. -/
import Derived.Test.YtjnkjeajkmgcmaaGreatHopO
import Derived.Test.YtjnkjeajkmgcmaaGreatHopX
import Derived.Test.YtjnkjeajkmgcmaaGreatMg17
import Derived.Test.YtjnkjeajkmgcmaaGreatMg16
import Derived.Deep.Cut
import Derived.Lib.AppendZerosOnto
import Derived.Lib.Walk
import Derived.Lib.SliceRun
namespace Go.Proofs.YtjnkjeajkmgcmaaGreat.Hop
open Go.RowKit RowG
set_option linter.unusedVariables false
set_option linter.unusedSimpArgs false

theorem arr_no {h : Hp} (q : hopB h = false) (n : Int) : arrivesH h n = (zeroH, false) ∧ losesH h n = (zeroH, false) ∧ doublesH h n = (zeroH, false) := by
  unfold arrivesH losesH doublesH
  rw [q]
  exact ⟨rfl, rfl, rfl⟩
theorem arr_out {h : Hp} (q : hopB h = true) {n : Int} (hn : n < 0 ∨ (h.ws.length : Int) ≤ n) : arrivesH h n = (h, false) ∧ losesH h n = (h, false) ∧ doublesH h n = (h, false) := by
  unfold arrivesH losesH doublesH
  rw [q]
  exact ⟨come_none hn, lose_none hn, dbl_none hn⟩
theorem arr_in {h : Hp} (q : hopB h = true) {k : Nat} {m : Lt} (hx : h.ws[k]? = some m) : arrivesH h k = (comeK h m k, true) ∧ losesH h k = (cutH h k, true) ∧ doublesH h k = (postH h m, postB h m) ∧ postB h m = !decide (h.ws.length = 30) ∧ hopB (comeK h m k) = true := by
  have hl : letB m = true := (hop_ok q).2.2.2 m (List.mem_of_getElem? hx)
  refine ⟨?_, ?_, ?_, ?_, ?_⟩
  · unfold arrivesH; rw [q]; exact come_some q hx
  · unfold losesH; rw [q]; exact lose_some hx
  · unfold doublesH; rw [q]; show dbl2 h k = _; unfold dbl2; simp [hx]
  · unfold postB; rw [hl, Bool.and_true]
  · have := come_ok q (k : Int)
    rw [come_some q hx] at this
    exact this
theorem post_len2 {h : Hp} (hs : h.Sm) (x : Lt) : (postH h x).t.l.length ≤ 2097152 ∧ (postH h x).ws.length ≤ 2097152 := by
  have h1 := hs.tl
  have h2 := hs.wl
  unfold postH
  split
  · simp only [List.length_append, List.length_singleton]; omega
  · omega
theorem arr_len {h : Hp} (hs : h.Sm) (n : Int) : ((arrivesH h n).1.t.l.length ≤ 2097152 ∧ (arrivesH h n).1.ws.length ≤ 2097152) ∧ ((losesH h n).1.t.l.length ≤ 2097152 ∧ (losesH h n).1.ws.length ≤ 2097152) ∧ (doublesH h n).1.t.l.length ≤ 2097152 ∧ (doublesH h n).1.ws.length ≤ 2097152 := by
  have h1 := hs.tl
  have h2 := hs.wl
  cases q : hopB h
  · obtain ⟨a, b, c⟩ := arr_no q n
    rw [a, b, c]
    exact ⟨⟨Nat.zero_le _, Nat.zero_le _⟩, ⟨Nat.zero_le _, Nat.zero_le _⟩, Nat.zero_le _, Nat.zero_le _⟩
  · by_cases hn : 0 ≤ n ∧ n < (h.ws.length : Int)
    · obtain ⟨k, rfl⟩ : ∃ k : Nat, n = (k : Int) := ⟨n.toNat, by omega⟩
      have hk : k < h.ws.length := by omega
      have hx : h.ws[k]? = some h.ws[k] := List.getElem?_eq_getElem hk
      obtain ⟨a, b, c, _, e⟩ := arr_in q hx
      rw [a, b, c]
      dsimp only
      have s1 := sm_ok e
      have s2 := cut_sm hs k
      have s3 := post_len2 hs h.ws[k]
      exact ⟨⟨by have := s1.tl; omega, by have := s1.wl; omega⟩, ⟨by have := s2.tl; omega, by have : (h.ws.take k ++ h.ws.drop (k + 1)).length ≤ 524288 := s2.wl; first | omega | exact Nat.le_trans this (by decide)⟩, s3⟩
    · obtain ⟨a, b, c⟩ := arr_out q (n := n) (by omega)
      rw [a, b, c]
      dsimp only
      exact ⟨⟨by omega, by omega⟩, ⟨by omega, by omega⟩, by omega, by omega⟩
theorem arr_parts {h : Hp} (q : hopB h = true) {k : Nat} {m : Lt} (hx : h.ws[k]? = some m) {x l d : Hp} {is lost twice : Bool} (ka : arrivesH h k = (x, is)) (kb : losesH h k = (l, lost)) (kc : doublesH h k = (d, twice)) :
    ∃ (xg : Giv.Gv) (xt : Tak.Tk) (xw dw : List Lt), is = true ∧ lost = true ∧ twice = !decide (h.ws.length = 30) ∧ x = ⟨xg, xt, xw⟩ ∧ l = ⟨h.g, h.t, xw⟩ ∧ d = ⟨h.g, h.t, dw⟩ ∧ xw.length + 1 = h.ws.length ∧ (h.ws.length ≠ 30 → dw = h.ws ++ [m]) ∧ hopB ⟨xg, xt, xw⟩ = true ∧
      (m.bk = true → xg = (Giv.hearsG h.g m.pl m.lm m.dn).1 ∧ xt = h.t) ∧ (m.bk = false → xg = h.g ∧ xt = (Tak.takes h.t m.pl m.bs m.en).1) := by
  have hk : k < h.ws.length := (List.getElem?_eq_some_iff.1 hx).1
  obtain ⟨a, b, c, e, f⟩ := arr_in q hx
  have a' := Prod.mk.inj (ka.symm.trans a)
  have b' := Prod.mk.inj (kb.symm.trans b)
  have c' := Prod.mk.inj (kc.symm.trans c)
  have hl : (h.ws.take k ++ h.ws.drop (k + 1)).length + 1 = h.ws.length := by simp; omega
  have hd : ∃ dw, d = ⟨h.g, h.t, dw⟩ ∧ (h.ws.length ≠ 30 → dw = h.ws ++ [m]) := by
    rw [c'.1]
    unfold postH
    rw [e]
    by_cases z : h.ws.length = 30
    · exact ⟨h.ws, by simp [z], fun y => absurd z y⟩
    · exact ⟨h.ws ++ [m], by simp [z], fun _ => rfl⟩
  obtain ⟨dw, hd1, hd2⟩ := hd
  have hw : (comeK h m k).ws = h.ws.take k ++ h.ws.drop (k + 1) := by unfold comeK; split <;> rfl
  refine ⟨(comeK h m k).g, (comeK h m k).t, h.ws.take k ++ h.ws.drop (k + 1), dw, a'.2, b'.2, c'.2.trans e, ?_, b'.1, hd1, hl, hd2, ?_, ?_, ?_⟩
  · rw [a'.1, ← hw]
  · rw [← hw]; exact f
  · intro y; unfold comeK; rw [if_pos y]; exact ⟨rfl, rfl⟩
  · intro y; unfold comeK; rw [y]; exact ⟨rfl, rfl⟩

end Go.Proofs.YtjnkjeajkmgcmaaGreat.Hop

namespace Go.Proofs.YtjnkjeajkmgcmaaGreat.Tak
open Go.RowKit RowG Rng
set_option linter.unusedVariables false
set_option linter.unusedSimpArgs false

end Go.Proofs.YtjnkjeajkmgcmaaGreat.Tak

namespace Go.Proofs.YtjnkjeajkmgcmaaGreat.Tak
open Go.RowKit RowG Rng
set_option linter.unusedVariables false
set_option linter.unusedSimpArgs false

def fitsB (nx : Int) (l : List Pt) (fi p : Int) (bz : ByteArray) (e : Bool) : Bool :=
  Num.plB p && (decide (bz.size ≤ 40) && (Num.plB (p + bz.size) && ((decide (fi = -1) || decide (p + bz.size ≤ fi)) && (!e || (decide (lastEnd nx l ≤ p + bz.size) && (decide (fi = -1) || decide (p + bz.size = fi)))))))
theorem fits_bad {t : Tk} (h : t.ok = true) (p : Int) (bz : ByteArray) (e : Bool) : fitsB t.nx t.l t.fi p bz e = false ↔ takeBad t p bz e := by
  obtain ⟨hin, hq, he⟩ := ok_iff.1 h
  obtain ⟨h1, h2, h3⟩ := end_iff.1 he
  have hf : t.fi = -1 ∨ 0 ≤ t.fi := by
    rcases h1 with h1 | h1
    · exact .inl h1
    · exact .inr (Num.pl_t h1.1).1
  unfold fitsB takeBad
  cases Num.plB p <;> cases Num.plB (p + bz.size) <;> simp
  by_cases hz : bz.size ≤ 40
  · have hz' : ¬ 40 < bz.size := by omega
    simp only [hz, hz', true_and, false_or, forall_const]
    cases e <;> simp <;> omega
  · have hz' : 40 < bz.size := by omega
    simp [hz, hz']

set_option maxRecDepth 10000 in
set_option maxHeartbeats 4000000 in
theorem fits (nx : Int) (bs : ByteArray) (a : Option Addr) (n c : Nat) (cp fi : Int) (en : Bool) (l : List Pt) (p : Int) (bz : ByteArray) (e : Bool) (w : World) (hn : n = l.length) (h : partE.Lies w a l) (hl : l.length ≤ 2097152) (hp : Bd l) (hz : bz.size ≤ 1048576) {v : Bool} (hv : fitsB nx l fi p bz e = v) :
    Calls Tryz.prog 78 #[.agg #[.int .i64 nx, .string bs, .slice a n c, .int .i64 cp, .int .i64 fi, .bool en], .int .i64 p, .string bz, .bool e] w fun x w' => x = .returned (.bool v) ∧ Below w.heap.size w w' := by
  subst hn
  have BV : Below w.heap.size w (w.alloc (.cells #[.int .i64 nx, .string bs, .slice a l.length c, .int .i64 cp, .int .i64 fi, .bool en] 28)) := (Below.refl _ _).alloc (Nat.le_refl _) _
  have VV : Var 28 (w.alloc (.cells #[.int .i64 nx, .string bs, .slice a l.length c, .int .i64 cp, .int .i64 fi, .bool en] 28)) w.heap.size [.int .i64 nx, .string bs, .slice a l.length c, .int .i64 cp, .int .i64 fi, .bool en] := Var.new w _
  have LV : Hid (partE.Lies (w.alloc (.cells #[.int .i64 nx, .string bs, .slice a l.length c, .int .i64 cp, .int .i64 fi, .bool en] 28)) a l) := h.later BV
  have HP : Hid (Bd l) := hp
  clear hp h
  cases h1 : Num.plB p
  case false =>
    have e1 : Hid (false = v) := by show _ = _; rw [← hv]; simp [fitsB, h1]
    clear hv
    go_enter Tryz.func78, Tryz.ntmps78
    go_wp2_with (first | (go_at_call 62; refine (Num.isPlace _ _).mono ?_; rintro x w2 ⟨rfl, rfl⟩) | (go_at_call 91; refine (behindAll nx bs a _ c cp fi en l _ rfl LV.out hl HP.out rfl).mono ?_; rintro x w3 ⟨rfl, hb3⟩))
    go_ret
    exact ⟨Num.ret_bool e1.out, BV⟩
  by_cases h2 : bz.size ≤ 40
  case neg =>
    have e1 : Hid (false = v) := by show _ = _; rw [← hv]; simp [fitsB, h2]
    clear hv
    go_enter Tryz.func78, Tryz.ntmps78
    go_wp2_with (first | (go_at_call 62; refine (Num.isPlace _ _).mono ?_; rintro x w2 ⟨rfl, rfl⟩) | (go_at_call 91; refine (behindAll nx bs a _ c cp fi en l _ rfl LV.out hl HP.out rfl).mono ?_; rintro x w3 ⟨rfl, hb3⟩))
    go_ret
    exact ⟨Num.ret_bool e1.out, BV⟩
  obtain ⟨p0, p1⟩ := Num.pl_t h1
  obtain ⟨s, hs⟩ : ∃ s, p + (bz.size : Int) = s := ⟨_, rfl⟩
  have ew : IntKind.i64.wrap (p + (bz.size : Int)) = s := by rw [← hs, IntKind.wrap_i64]; omega
  cases h3 : Num.plB s
  case false =>
    have e1 : Hid (false = v) := by show _ = _; rw [← hv]; simp [fitsB, hs, h3]
    clear hv
    go_enter Tryz.func78, Tryz.ntmps78
    go_wp2_with (first | (go_at_call 62; refine (Num.isPlace _ _).mono ?_; rintro x w2 ⟨rfl, rfl⟩) | (go_at_call 91; refine (behindAll nx bs a _ c cp fi en l _ rfl LV.out hl HP.out rfl).mono ?_; rintro x w3 ⟨rfl, hb3⟩))
    go_ret
    exact ⟨Num.ret_bool e1.out, BV⟩
  have hvs : Hid (v = ((decide (fi = -1) || decide (s ≤ fi)) && (!e || (decide (lastEnd nx l ≤ s) && (decide (fi = -1) || decide (s = fi)))))) := by show _ = _; rw [← hv]; simp only [fitsB, h1, h2, hs, h3]; rfl
  clear hv
  obtain ⟨la, hla⟩ : ∃ la, lastEnd nx l = la := ⟨_, rfl⟩
  have HLA : Hid (lastEnd nx l = la) := hla
  have hvs : Hid (v = ((decide (fi = -1) || decide (s ≤ fi)) && (!e || (decide (la ≤ s) && (decide (fi = -1) || decide (s = fi)))))) := by show _ = _; rw [hvs.out, hla]
  clear hla
  by_cases h4 : fi = -1
  · have g1 : (fi == -1) = true := by simp [h4]
    have g2 : (fi != -1) = false := by simp [h4]
    cases e
    · have e1 : Hid (true = v) := by show _ = _; rw [hvs.out]; simp [h4]
      clear h4
      go_enter Tryz.func78, Tryz.ntmps78
      go_wp2_with (go_at_call 62; refine (Num.isPlace _ _).mono ?_; rintro x w2 ⟨rfl, rfl⟩)
      go_ret
      exact ⟨Num.ret_bool e1.out, BV⟩
    · by_cases h6 : la ≤ s
      · have e1 : Hid (true = v) := by show _ = _; rw [hvs.out]; simp [h4, h6]
        have g6 : decide (la ≤ s) = true := decide_eq_true h6
        clear h4
        go_enter Tryz.func78, Tryz.ntmps78
        go_wp2_with (go_at_call 62; refine (Num.isPlace _ _).mono ?_; rintro x w2 ⟨rfl, rfl⟩)
        refine (behindAll nx bs a _ c cp fi en l _ rfl LV.out hl HP.out HLA.out).mono ?_
        rintro x w3 ⟨rfl, hb3⟩
        have V3 := VV.later hb3
        have B3 := BV.trans (hb3.mono BV.size)
        have d4 := V3.cell (i := 4) rfl
        clear hb3 LV HP V3 VV BV HLA
        go_wp2_with fail
        go_ret
        exact ⟨Num.ret_bool e1.out, B3⟩
      · have e1 : Hid (false = v) := by show _ = _; rw [hvs.out]; simp [h6]
        have g6 : decide (la ≤ s) = false := decide_eq_false h6
        clear h4
        go_enter Tryz.func78, Tryz.ntmps78
        go_wp2_with (go_at_call 62; refine (Num.isPlace _ _).mono ?_; rintro x w2 ⟨rfl, rfl⟩)
        refine (behindAll nx bs a _ c cp fi en l _ rfl LV.out hl HP.out HLA.out).mono ?_
        rintro x w3 ⟨rfl, hb3⟩
        have V3 := VV.later hb3
        have B3 := BV.trans (hb3.mono BV.size)
        have d4 := V3.cell (i := 4) rfl
        clear hb3 LV HP V3 VV BV HLA
        go_wp2_with fail
        go_ret
        exact ⟨Num.ret_bool e1.out, B3⟩
  have g1 : (fi == -1) = false := by simp [h4]
  have g2 : (fi != -1) = true := by simp [h4]
  by_cases h5 : s ≤ fi
  case neg =>
    have e1 : Hid (false = v) := by show _ = _; rw [hvs.out]; simp [h4, h5]
    have g5 : decide (fi < s) = true := decide_eq_true (by omega)
    have g5' : fi < s := by omega
    clear h4
    go_enter Tryz.func78, Tryz.ntmps78
    go_wp2_with (go_at_call 62; refine (Num.isPlace _ _).mono ?_; rintro x w2 ⟨rfl, rfl⟩)
    go_ret
    exact ⟨Num.ret_bool e1.out, BV⟩
  have g5 : decide (fi < s) = false := decide_eq_false (by omega)
  cases e
  · have e1 : Hid (true = v) := by show _ = _; rw [hvs.out]; simp [h5]
    clear h4
    go_enter Tryz.func78, Tryz.ntmps78
    go_wp2_with (go_at_call 62; refine (Num.isPlace _ _).mono ?_; rintro x w2 ⟨rfl, rfl⟩)
    go_ret
    exact ⟨Num.ret_bool e1.out, BV⟩
  by_cases h6 : la ≤ s
  case neg =>
    have e1 : Hid (false = v) := by show _ = _; rw [hvs.out]; simp [h6]
    have g6 : decide (la ≤ s) = false := decide_eq_false h6
    clear h4
    go_enter Tryz.func78, Tryz.ntmps78
    go_wp2_with (go_at_call 62; refine (Num.isPlace _ _).mono ?_; rintro x w2 ⟨rfl, rfl⟩)
    refine (behindAll nx bs a _ c cp fi en l _ rfl LV.out hl HP.out HLA.out).mono ?_
    rintro x w3 ⟨rfl, hb3⟩
    have V3 := VV.later hb3
    have B3 := BV.trans (hb3.mono BV.size)
    have d4 := V3.cell (i := 4) rfl
    clear hb3 LV HP V3 VV BV HLA
    go_wp2_with fail
    go_ret
    exact ⟨Num.ret_bool e1.out, B3⟩
  have g6 : decide (la ≤ s) = true := decide_eq_true h6
  by_cases h7 : s = fi
  · have e1 : Hid (true = v) := by show _ = _; rw [hvs.out]; simp [h7]; omega
    have g7 : (s == fi) = true := by simp [h7]
    clear h4 h7
    go_enter Tryz.func78, Tryz.ntmps78
    go_wp2_with (go_at_call 62; refine (Num.isPlace _ _).mono ?_; rintro x w2 ⟨rfl, rfl⟩)
    refine (behindAll nx bs a _ c cp fi en l _ rfl LV.out hl HP.out HLA.out).mono ?_
    rintro x w3 ⟨rfl, hb3⟩
    have V3 := VV.later hb3
    have B3 := BV.trans (hb3.mono BV.size)
    have d4 := V3.cell (i := 4) rfl
    clear hb3 LV HP V3 VV BV HLA
    go_wp2_with fail
    go_ret
    exact ⟨Num.ret_bool e1.out, B3⟩
  · have e1 : Hid (false = v) := by show _ = _; rw [hvs.out]; simp [h4, h7]
    have g7 : (s == fi) = false := by simp [h7]
    clear h4 h7
    go_enter Tryz.func78, Tryz.ntmps78
    go_wp2_with (go_at_call 62; refine (Num.isPlace _ _).mono ?_; rintro x w2 ⟨rfl, rfl⟩)
    refine (behindAll nx bs a _ c cp fi en l _ rfl LV.out hl HP.out HLA.out).mono ?_
    rintro x w3 ⟨rfl, hb3⟩
    have V3 := VV.later hb3
    have B3 := BV.trans (hb3.mono BV.size)
    have d4 := V3.cell (i := 4) rfl
    clear hb3 LV HP V3 VV BV HLA
    go_wp2_with fail
    go_ret
    exact ⟨Num.ret_bool e1.out, B3⟩

def withinP (p : Int) (bz : ByteArray) (fr to : Int) : Pt := if min to (p + bz.size) ≤ max fr p then (0, ⟨#[]⟩) else (max fr p, bz.extract (max fr p - p).toNat (min to (p + bz.size) - p).toNat)

set_option maxRecDepth 10000 in
set_option maxHeartbeats 2000000 in
theorem within (p : Int) (bz : ByteArray) (fr to : Int) (w : World) (hp0 : 0 ≤ p) (hp1 : p ≤ 1000000000) (hz : bz.size ≤ 40) :
    Calls Tryz.prog 97 #[.agg #[.int .i64 p, .string bz], .int .i64 fr, .int .i64 to] w fun x w' => x = .returned (.agg #[.int .i64 (withinP p bz fr to).1, .string (withinP p bz fr to).2]) ∧ Below w.heap.size w w' := by
  have hmix := mix
  have B2 : Below w.heap.size w ((w.alloc (.cells #[.int .i64 p, .string bz] 69)).alloc (.cells #[.int .i64 0, .string ⟨#[]⟩] 69)) := ((Below.refl _ _).alloc (Nat.le_refl _) _).alloc (by simp) _
  have v1 : Var 69 ((w.alloc (.cells #[.int .i64 p, .string bz] 69)).alloc (.cells #[.int .i64 0, .string ⟨#[]⟩] 69)) w.heap.size [.int .i64 p, .string bz] := (Var.new w [.int .i64 p, .string bz]).alloc _
  have v2 : Var 69 ((w.alloc (.cells #[.int .i64 p, .string bz] 69)).alloc (.cells #[.int .i64 0, .string ⟨#[]⟩] 69)) (w.heap.size + 1) [.int .i64 0, .string ⟨#[]⟩] := by
    have := Var.new (T := 69) (w.alloc (.cells #[.int .i64 p, .string bz] 69)) [.int .i64 0, .string ⟨#[]⟩]
    simpa using this
  have hbd : bdP (p, bz) := ⟨by dsimp only; omega, by dsimp only; omega, by dsimp only; omega⟩
  obtain ⟨e, he⟩ : ∃ e, endP (p, bz) = e := ⟨_, rfl⟩
  have HE : Hid _ := he
  obtain ⟨f, hf⟩ : ∃ f, max fr p = f := ⟨_, rfl⟩
  obtain ⟨t, ht⟩ : ∃ t, min to (p + (bz.size : Int)) = t := ⟨_, rfl⟩
  have hee : p + (bz.size : Int) = e := he
  have hW : Hid (withinP p bz fr to = if t ≤ f then (0, ⟨#[]⟩) else (f, bz.extract (f - p).toNat (t - p).toNat)) := by show _ = _; rw [withinP, hf, ht]
  rw [hee] at ht
  have HBD : Hid _ := hbd
  have he2 : e ≤ p + 40 := by omega
  have he3 : p ≤ e := by omega
  go_enter Tryz.func97, Tryz.ntmps97
  go_wp2_with fail
  generalize hV : ((w.alloc (.cells #[.int .i64 p, .string bz] 69)).alloc (.cells #[.int .i64 0, .string ⟨#[]⟩] 69)) = V at *
  clear hV he hbd
  have d0 := Draw.Later.cell (v1.cell (i := 0) rfl)
  have d1 := Draw.Later.cell (v1.cell (i := 1) rfl)
  refine Draw.wp_region_later hmix (by kernel_rfl) ?_
  repeat (go_big_quiet_step ((go_at_call 81; exact Draw.later_of (behindEq _ HBD.out HE.out))))
  refine wpQuiet_nil ?_
  intro wq hw'
  obtain ⟨q, hq⟩ := hw'
  have hBq := q.h
  rw [← hq] at hBq
  clear hq q d0 d1
  have hff : (if fr < p then p else fr) = f := by rw [← hf]; simp only [Int.max_def]; split <;> split <;> omega
  have htt : (if e < to then e else to) = t := by rw [← ht]; simp only [Int.min_def]; split <;> split <;> omega
  (try rw [hff])
  (try rw [htt])
  have hf0 : p ≤ f := by rw [← hf]; omega
  have ht0 : t ≤ e := by rw [← ht]; omega
  clear hff htt hf ht
  have v1 := v1.later hBq
  have v2 := v2.later hBq
  have BQ := B2.trans (hBq.mono B2.size)
  clear hBq B2
  have c0 := v1.cell (i := 0) rfl
  have c1 := v1.cell (i := 1) rfl
  have r0 := v2.cell (i := 0) rfl
  have r1 := v2.cell (i := 1) rfl
  have z0 := v2.free 0
  have z1 := v2.free 1
  clear v1 v2
  by_cases hc : t ≤ f
  · have E : Hid (withinP p bz fr to = (0, ⟨#[]⟩)) := by show _ = _; rw [hW.out, if_pos hc]
    go_wp2_with fail
    refine bodyPost_ret (v := .agg #[.int .i64 0, .string ⟨#[]⟩]) (by rw [res_cell rfl]; go_simp) rfl ⟨by rw [E.out], ?_⟩
    iterate 2 (refine Below.setCell ?_ (by dsimp only; omega) _)
    exact BQ
  · have E : Hid (withinP p bz fr to = (f, bz.extract (f - p).toNat (t - p).toNat)) := by show _ = _; rw [hW.out, if_neg hc]
    have e1 : IntKind.i64.wrap (f - p) = f - p := by rw [IntKind.wrap_i64]; omega
    have e2 : IntKind.i64.wrap (t - p) = t - p := by rw [IntKind.wrap_i64]; omega
    have i1 : 0 ≤ f - p := by omega
    have i2 : f - p ≤ t - p := by omega
    have i3 : t - p ≤ (bz.size : Int) := by omega
    go_wp2_with fail
    refine bodyPost_ret (v := .agg #[.int .i64 f, .string (bz.extract (f - p).toNat (t - p).toNat)]) (by rw [res_cell rfl]; go_simp) rfl ⟨by rw [E.out], ?_⟩
    iterate 2 (refine Below.setCell ?_ (by dsimp only; omega) _)
    exact BQ

theorem runsOf (nx : Int) (bs : ByteArray) (a : Option Addr) (n c : Nat) (cp fi : Int) (en : Bool) (p : Int) (bz : ByteArray) (w : World) :
    Calls Tryz.prog 80 #[.agg #[.int .i64 nx, .string bs, .slice a n c, .int .i64 cp, .int .i64 fi, .bool en], .agg #[.int .i64 p, .string bz]] w fun e w' => e = .returned (.func (.func 96) #[] #[.pointer (some ⟨w.heap.size, 0, none⟩), .pointer (some ⟨w.heap.size + 1, 0, none⟩)]) ∧
      w' = (w.alloc (.cells #[.int .i64 nx, .string bs, .slice a n c, .int .i64 cp, .int .i64 fi, .bool en] 28)).alloc (.cells #[.int .i64 p, .string bz] 69) := by
  go_enter Tryz.func80, Tryz.ntmps80
  go_wp2_with fail
  go_ret
  exact ⟨rfl, rfl⟩

end Go.Proofs.YtjnkjeajkmgcmaaGreat.Tak

namespace Go.Proofs.YtjnkjeajkmgcmaaGreat.Tak
open Go.RowKit RowG
set_option linter.unusedVariables false
set_option linter.unusedSimpArgs false

set_option maxRecDepth 100000 in
set_option maxHeartbeats 2000000 in
theorem growNil (n : Nat) (w : World) (hn : n ≤ 4194304) : Calls Tryz.prog 107 #[.slice none 0 0, .int .i64 n] w fun e w' => ∃ a c, e = .returned (.slice a 0 c) ∧ partE.Own 69 w' w.heap.size a c [] ∧ Below w.heap.size w w' := by
  by_cases h0 : n = 0
  · subst h0
    go_enter Tryz.func107, Tryz.ntmps107
    go_wp2_with fail
    go_ret
    exact ⟨none, 0, rfl, El.Own.none _ _, Below.refl _ _⟩
  · obtain ⟨i, hi, hz0, hz1, hz2⟩ := info_parts infoPart
    have hold : (Builtin.firstCells i.size 0 (.slice none 0 0)).run Tryz.prog w.drew = .ok ([] : List Value).toArray w.drew := run_firstCells_none w.drew i.size 0 0 0
    have hfit := growslice_fits (need := 0 + n) (old := 0) (bytes := i.bytes) (by omega) (by rw [hz2]; omega)
    have hrz := fun ty => Lib.run_append_grow_zeros w 26 3 ty 69 i _ .i64 .i64 (by kernel_rfl) (by kernel_rfl) hi hz0 none 0 0 [] hold n (by omega) (by rw [hz1]; decide) (by omega) (by omega) (by rw [hz2]; omega) hfit
    rw [Nat.zero_add] at hrz
    have hGn : n ≤ grownCap w n 0 69 := grownCap_ge w _ _ _
    have hGm : grownCap w n 0 69 ≤ maxLen := grownCap_le_maxLen w n 0 69 (by unfold maxLen; omega)
    generalize grownCap w n 0 69 = G at *
    obtain ⟨cur, hcur⟩ : ∃ cur, #[] ++ Builtin.zeroCells (Value.agg #[Value.int IntKind.i64 0, Value.string ByteArray.empty]).cells n ++ Builtin.zeroCells (Value.agg #[Value.int IntKind.i64 0, Value.string ByteArray.empty]).cells (G - n) = cur := ⟨_, rfl⟩
    have hcs : cur.size = G * 2 := by
      rw [← hcur]
      simp only [Array.size_append, size_zeroCells]
      show 0 + n * 2 + (G - n) * 2 = G * 2
      omega
    rw [show ([] : List Value).toArray = #[] from rfl, hcur] at hrz
    have hG63 : G ≤ 9223372036854775807 := by unfold maxLen at hGm; omega
    have HO : Hid (partE.Own 69 (w.drew.alloc (.cells cur 69)) w.heap.size (some ⟨w.heap.size, 0, none⟩) G []) := ⟨rfl, .inr ⟨w.heap.size, G, cur, rfl, Nat.le_refl _, World.alloc_heap_new w.drew _, Nat.zero_le _, hGm, hcs, by simp [El.vals]⟩⟩
    have HB : Hid (Below w.heap.size w (w.drew.alloc (.cells cur 69))) := (Below.refl _ _).drew.alloc (Nat.le_refl _) _
    have hnp : (0 : Int) < (n : Int) := by omega
    clear hcs hcur hold hfit hi hz0 hz1 hz2 hGm
    go_enter Tryz.func107, Tryz.ntmps107
    go_wp2_with (at_builtin; refine Lib.wpList_append_run _ rfl _ _ _ _ rfl _ _ rfl rfl _ _ (hrz _) ?_)
    all_goals (go_ret; exact ⟨_, _, rfl, HO.out, HB.out⟩)

def CatI (w : World) (bb : Nat) (a1 a2 : Option Addr) (c1 c2 : Nat) (l1 l2 l : List Pt) (v : Value) (w' : World) : Prop :=
  ∃ (a' : Option Addr) (c' : Nat), v = .slice a' l.length c' ∧ partE.Own 69 w' w.heap.size a' c' l ∧ Below w.heap.size w w' ∧ w'.cell? ⟨bb, 0, none⟩ = some (.slice a1 l1.length c1) ∧ w'.cell? ⟨bb, 1, none⟩ = some (.slice a2 l2.length c2)

set_option maxRecDepth 100000 in
set_option maxHeartbeats 4000000 in
theorem concat2 (bb : Nat) (a1 a2 : Option Addr) (c1 c2 : Nat) (l1 l2 : List Pt) (w : World) (h1 : w.cell? ⟨bb, 0, none⟩ = some (.slice a1 l1.length c1)) (h2 : w.cell? ⟨bb, 1, none⟩ = some (.slice a2 l2.length c2)) (L1 : partE.Lies w a1 l1) (L2 : partE.Lies w a2 l2) (hl1 : l1.length ≤ 1048576) (hl2 : l2.length ≤ 1048576) (ha1 : a1 = none → c1 = 0) (ha2 : a2 = none → c2 = 0) :
    Calls Tryz.prog 98 #[.slice (some ⟨bb, 0, none⟩) 2 2] w fun x w' => ∃ a' c', x = .returned (.slice a' (l1 ++ l2).length c') ∧ partE.Own 69 w' w.heap.size a' c' (l1 ++ l2) ∧ Below w.heap.size w w' := by
  have hbb := Draw.lt_of_cell h1
  have HL1 : Hid (partE.Lies w a1 l1) := L1
  have HL2 : Hid (partE.Lies w a2 l2) := L2
  have HA1 : Hid _ := ha1
  have HA2 : Hid _ := ha2
  clear L1 L2 ha1 ha2
  go_enter Tryz.func98, Tryz.ntmps98
  go_wp2_with fail
  go_loopw [3, 11] (fun s i wr => wr = w ∧ ((i = .int .i64 0 ∧ s = .int .i64 0) ∨ (i = .int .i64 1 ∧ s = .int .i64 l1.length) ∨ (i = .int .i64 2 ∧ s = .int .i64 (l1.length + l2.length : Nat))))
    (fun _ i _ => 2 - (intOf i).toNat)
  case atStart => exact ⟨rfl, .inl ⟨rfl, rfl⟩⟩
  case round =>
    obtain ⟨rfl, ⟨rfl, rfl⟩ | ⟨rfl, rfl⟩ | ⟨rfl, rfl⟩⟩ := hrel
    · go_wp2_with fail
      go_roundw
      case rel => simp
      case measure => simp [intOf]
    · go_wp2_with fail
      go_roundw
      case rel => simp
      case measure => simp [intOf]
    · go_wp2_with fail
      obtain ⟨w0, hw0⟩ : ∃ w0, w0 = wr := ⟨_, rfl⟩
      subst hw0
      have hg := growNil (l1.length + l2.length) w0 (by omega)
      rw [Int.natCast_add] at hg
      refine hg.mono ?_
      clear hg
      rintro x w1 ⟨a', c', rfl, o1, b1⟩
      have k1 := (b1.cell (p := ⟨bb, 0, none⟩) hbb).trans h1
      have k2 := (b1.cell (p := ⟨bb, 1, none⟩) hbb).trans h2
      have HC : Hid (CatI w0 bb a1 a2 c1 c2 l1 l2 [] (.slice a' 0 c') w1) := ⟨a', c', rfl, o1, b1, k1, k2⟩
      clear k1 k2 o1 b1 h1 h2
      go_wp2_with fail
      go_loopw [6, 27] (fun s i w2 => (i = .int .i64 0 ∧ CatI w0 bb a1 a2 c1 c2 l1 l2 [] s w2) ∨ (i = .int .i64 1 ∧ CatI w0 bb a1 a2 c1 c2 l1 l2 l1 s w2) ∨ (i = .int .i64 2 ∧ CatI w0 bb a1 a2 c1 c2 l1 l2 (l1 ++ l2) s w2))
        (fun _ i _ => 2 - (intOf i).toNat)
      case atStart => exact .inl ⟨rfl, HC.out⟩
      case round =>
        clear HC
        rcases hrel with ⟨rfl, a', c', rfl, o1, b1, k1, k2⟩ | ⟨rfl, a', c', rfl, o1, b1, k1, k2⟩ | ⟨rfl, a', c', rfl, o1, b1, k1, k2⟩
        · go_wp2_with (at_builtin; refine wpList_app typ (by decide) (by rfl) _ _ (by rfl) w0.heap.size a' c' 0 [] l1 rfl (by rfl) o1 b1.size a1 l1.length c1 rfl (by rfl) (HL1.out.later b1) HA1.out (by simp; omega) ?_; intro a3 c3 w3 o3 g3; refine stand ?_)
          have HI : Hid (CatI w0 bb a1 a2 c1 c2 l1 l2 l1 (.slice a3 l1.length c3) w3) := by
            have hne : ∀ g, blk a' = some g → w0.heap.size ≤ g := fun g hg => by
              cases a' with
              | none => simp [blk] at hg
              | some x => simp [blk] at hg; have := (o1.lt x rfl).1; omega
            have b3 := grown_below b1 (Nat.le_refl _) hne g3
            refine ⟨a3, c3, by simp, by simpa using o3, b3, ?_, ?_⟩
            · exact grown_cell g3 k1 (fun e => by have := hne bb e.symm; omega)
            · exact grown_cell g3 k2 (fun e => by have := hne bb e.symm; omega)
          show wpList _ _ _ _ _ _
          clear o1 b1 k1 k2 o3 g3
          go_wp2_with fail
          go_roundw
          case rel => exact .inr (.inl ⟨rfl, HI.out⟩)
          case measure => simp [intOf]
        · go_wp2_with (at_builtin; refine wpList_app typ (by decide) (by rfl) _ _ (by rfl) w0.heap.size a' c' l1.length l1 l2 rfl (by rfl) o1 b1.size a2 l2.length c2 rfl (by rfl) (HL2.out.later b1) HA2.out (by omega) ?_; intro a3 c3 w3 o3 g3; refine stand ?_)
          have HI : Hid (CatI w0 bb a1 a2 c1 c2 l1 l2 (l1 ++ l2) (.slice a3 (l1.length + l2.length) c3) w3) := by
            have hne : ∀ g, blk a' = some g → w0.heap.size ≤ g := fun g hg => by
              cases a' with
              | none => simp [blk] at hg
              | some x => simp [blk] at hg; have := (o1.lt x rfl).1; omega
            have b3 := grown_below b1 (Nat.le_refl _) hne g3
            refine ⟨a3, c3, by simp, o3, b3, ?_, ?_⟩
            · exact grown_cell g3 k1 (fun e => by have := hne bb e.symm; omega)
            · exact grown_cell g3 k2 (fun e => by have := hne bb e.symm; omega)
          show wpList _ _ _ _ _ _
          clear o1 b1 k1 k2 o3 g3
          go_wp2_with fail
          go_roundw
          case rel => exact .inr (.inr ⟨rfl, HI.out⟩)
          case measure => simp [intOf]
        · have HO : Hid _ := o1
          clear o1 k1 k2
          go_wp2_with fail
          go_ret
          exact ⟨a', c', rfl, HO.out, b1⟩

end Go.Proofs.YtjnkjeajkmgcmaaGreat.Tak
