/- Contract of the specification's Takes; lists of at most 2^19 parts. · Letters (chapter 7): how they lie in memory, when they are right; the specification's l7Letter. -/
import Derived.Test.YtjnkjeajkmgcmaaGreatTakG
import Derived.Test.YtjnkjeajkmgcmaaGreatGivD
namespace Go.Proofs.YtjnkjeajkmgcmaaGreat.Tak
open Go.RowKit RowG
set_option linter.unusedVariables false
set_option linter.unusedSimpArgs false

def takes (t : Tk) (p : Int) (bz : ByteArray) (e : Bool) : Tk × Bool := if t.ok then takeT t p bz e else (zeroK, false)
theorem scan_bd {nx lim : Int} (hn : 0 ≤ nx) (hm : lim ≤ 2000000000) : ∀ {l : List Pt} {last out : Int}, scan nx lim last l = some out → Bd l
  | [], _, _, _ => fun p hp => by cases hp
  | q :: r, last, out, h => by
    rw [scan] at h
    split at h
    next hq =>
      intro p hp
      rcases List.mem_cons.1 hp with rfl | hp
      · have h1 := hq.1
        have h2 := hq.2.1
        have h3 := hq.2.2.2
        unfold endP at h3
        exact ⟨by omega, by omega, by omega⟩
      · exact scan_bd hn hm h p hp
    next => cases h
theorem scan_tot {nx lim : Int} : ∀ {l : List Pt} {last out : Int}, scan nx lim last l = some out → tot l ≤ 40 * l.length
  | [], _, _, _ => Nat.zero_le _
  | q :: r, last, out, h => by
    rw [scan] at h
    split at h
    next hq =>
      have := scan_tot h
      have h1 := hq.1.2
      simp only [tot, List.length_cons]
      omega
    next => cases h
theorem ok_scan {t : Tk} (h : t.ok = true) : inT t.nx t.bs t.l t.cp ∧ ∃ last, scan t.nx (limT t.nx t.bs t.cp) t.nx t.l = some last ∧ endB t.fi last t.nx t.en = true := by
  simp only [Tk.ok, takerB, Bool.and_eq_true, decide_eq_true_eq] at h
  refine ⟨h.1, ?_⟩
  have h2 := h.2
  split at h2
  · cases h2
  · rename_i last hl
    exact ⟨last, hl, h2⟩
theorem ok_small {t : Tk} (h : t.ok = true) : Bd t.l ∧ t.bs.size + tot t.l ≤ 1000000 := by
  obtain ⟨hin, last, hs, _⟩ := ok_scan h
  obtain ⟨⟨h1, h2⟩, ⟨h3, h4⟩, ⟨h5, h6⟩, h7⟩ := hin
  have hlim : limT t.nx t.bs t.cp ≤ 2000000000 := by unfold limT; omega
  have ht := scan_tot hs
  exact ⟨scan_bd h3 hlim hs, by omega⟩

set_option maxHeartbeats 2000000 in
theorem specTakes (nx : Int) (bs : ByteArray) (a : Option Addr) (n0 c : Nat) (cp fi : Int) (en : Bool) (l : List Pt) (p : Int) (bz : ByteArray) (e : Bool) (w : World) (hn : n0 = l.length) (h : partE.Lies w a l) (hl : l.length ≤ 524288) (hbs : bs.size ≤ 2097152) (hp : Bd l) (ha : a = none → c = 0) (hp0 : -1099511627776 ≤ p ∧ p ≤ 1099511627776) (hz : bz.size ≤ 1048576) :
    Calls Tryz.prog 18 #[.agg #[.int .i64 nx, .string bs, .slice a n0 c, .int .i64 cp, .int .i64 fi, .bool en], .int .i64 p, .string bz, .bool e] w fun x w' => ∃ a' c', x = .returned (.tuple #[(takes ⟨nx, bs, l, cp, fi, en⟩ p bz e).1.v a' c', .bool (takes ⟨nx, bs, l, cp, fi, en⟩ p bz e).2]) ∧ partE.Own 69 w' w.heap.size a' c' (takes ⟨nx, bs, l, cp, fi, en⟩ p bz e).1.l ∧ Below w.heap.size w w' := by
  subst hn
  have hmix := mix
  have B2 : Below w.heap.size w ((w.alloc (.cells #[.int .i64 nx, .string bs, .slice a l.length c, .int .i64 cp, .int .i64 fi, .bool en] 28)).alloc (.cells #[.int .i64 0, .string ⟨#[]⟩, .slice none 0 0, .int .i64 0, .int .i64 0, .bool false] 28)) := ((Below.refl _ _).alloc (Nat.le_refl _) _).alloc (by simp) _
  have v1 : Var 28 ((w.alloc (.cells #[.int .i64 nx, .string bs, .slice a l.length c, .int .i64 cp, .int .i64 fi, .bool en] 28)).alloc (.cells #[.int .i64 0, .string ⟨#[]⟩, .slice none 0 0, .int .i64 0, .int .i64 0, .bool false] 28)) w.heap.size [.int .i64 nx, .string bs, .slice a l.length c, .int .i64 cp, .int .i64 fi, .bool en] := (Var.new w [.int .i64 nx, .string bs, .slice a l.length c, .int .i64 cp, .int .i64 fi, .bool en]).alloc _
  have v2 : Var 28 ((w.alloc (.cells #[.int .i64 nx, .string bs, .slice a l.length c, .int .i64 cp, .int .i64 fi, .bool en] 28)).alloc (.cells #[.int .i64 0, .string ⟨#[]⟩, .slice none 0 0, .int .i64 0, .int .i64 0, .bool false] 28)) (w.heap.size + 1) [.int .i64 0, .string ⟨#[]⟩, .slice none 0 0, .int .i64 0, .int .i64 0, .bool false] := by
    have := Var.new (T := 28) (w.alloc (.cells #[.int .i64 nx, .string bs, .slice a l.length c, .int .i64 cp, .int .i64 fi, .bool en] 28)) [.int .i64 0, .string ⟨#[]⟩, .slice none 0 0, .int .i64 0, .int .i64 0, .bool false]
    simpa using this
  go_enter Tryz.func18, Tryz.ntmps18
  go_wp2_with fail
  generalize hV : ((w.alloc (.cells #[.int .i64 nx, .string bs, .slice a l.length c, .int .i64 cp, .int .i64 fi, .bool en] 28)).alloc (.cells #[.int .i64 0, .string ⟨#[]⟩, .slice none 0 0, .int .i64 0, .int .i64 0, .bool false] 28)) = V at *
  clear hV
  refine (specTakerOk nx bs a _ c cp fi en l V rfl (h.later B2) (by omega) hbs hp.up).mono ?_
  rintro x w1 ⟨rfl, b1⟩
  have B1 := B2.trans (b1.mono B2.size)
  have x1 := v1.later b1
  have x2 := v2.later b1
  clear b1 B2 v1 v2
  cases hok : takerB nx bs l cp fi en
  · have q : takes ⟨nx, bs, l, cp, fi, en⟩ p bz e = (zeroK, false) := by simp [takes, Tk.ok, hok]
    obtain ⟨r0, r1, r2, r3, r4, r5⟩ := x2.c6
    obtain ⟨z0, z1, z2, z3, z4, z5⟩ := x2.f6
    clear x1 x2
    go_wp2_with fail
    refine bodyPost_ret (v := .tuple #[zeroK.v none 0, .bool false]) (by rw [res_cell_tmp rfl]; go_simp; rfl) rfl ⟨none, 0, by rw [q], by rw [q]; exact El.Own.none _ _, ?_⟩
    exact below_put6 B1 (Nat.le_succ _) _ _ _ _ _ _
  · have HQ : Hid (takes ⟨nx, bs, l, cp, fi, en⟩ p bz e = takeT ⟨nx, bs, l, cp, fi, en⟩ p bz e) := by show _ = _; simp [takes, Tk.ok, hok]
    have hin := taker_in hok
    have hsm := (ok_small (t := ⟨nx, bs, l, cp, fi, en⟩) hok).2
    replace hsm : bs.size + tot l ≤ 1000000 := hsm
    obtain ⟨⟨k1, k2⟩, ⟨k3, k4⟩, k5, k6⟩ := hin
    clear hok
    obtain ⟨c0, c1, c2, c3, c4, c5⟩ := x1.c6
    go_wp2_with fail
    refine (l5Copy nx bs a _ c cp fi en l w1 rfl (h.later B1) (by omega) ha).mono ?_
    rintro x w3 ⟨a', c', rfl, o3, b3⟩
    have hw1 : w.heap.size + 1 < w1.heap.size := x2.lt
    have hs1 : w1.heap.size ≤ w3.heap.size := b3.size
    have hB1 := B1.size
    have x2 := x2.later b3
    have B3 := B1.trans (b3.mono B1.size)
    have hx := fun x q => (o3.lt x q).2
    have x3 : Var 28 (w3.alloc (.cells #[.int .i64 nx, .string bs, .slice a' l.length c', .int .i64 cp, .int .i64 fi, .bool en] 28)) w3.heap.size [.int .i64 nx, .string bs, .slice a' l.length c', .int .i64 cp, .int .i64 fi, .bool en] := Var.new _ _
    have hw3 : w.heap.size + 1 < w3.heap.size := x2.lt
    have x2 := x2.alloc (.cells #[.int .i64 nx, .string bs, .slice a' l.length c', .int .i64 cp, .int .i64 fi, .bool en] 28)
    have o4 := o3.alloc (.cells #[.int .i64 nx, .string bs, .slice a' l.length c', .int .i64 cp, .int .i64 fi, .bool en] 28)
    have B4 : Below w.heap.size w (w3.alloc (.cells #[.int .i64 nx, .string bs, .slice a' l.length c', .int .i64 cp, .int .i64 fi, .bool en] 28)) := B3.alloc B3.size _
    clear c0 c1 c2 c3 c4 c5 x1 o3 B3 b3
    go_wp2_with fail
    refine (l5Take w3.heap.size w1.heap.size nx bs a' c' cp fi en l p bz e _ x3 o4 (Nat.le_trans hs1 (by simp)) (fun x q => by have := hx x q; omega) hl hp (by omega) ⟨k3, by omega⟩ ⟨by omega, by omega⟩ hp0 hz).mono ?_
    rintro x w5 ⟨a5, c5, rfl, v5, o5, K5, hk5⟩
    have x5 := x2.kept K5 (by omega)
    have B5 := B4.trans (K5.below (by omega) B4.size)
    clear x2 x3 o4 B4 K5 hk5 hx k1 k2 k3 k4 k5 k6 hsm B1 h hp ha hl hbs
    generalize takeT ⟨nx, bs, l, cp, fi, en⟩ p bz e = R at *
    obtain ⟨⟨nx', bs', l', cp', fi', en'⟩, y⟩ := R
    simp only at v5 o5
    generalize w3.heap.size = k3 at *
    have hne : k3 ≠ w.heap.size + 1 := by omega
    obtain ⟨d0, d1, d2, d3, d4, d5⟩ := v5.c6
    obtain ⟨r0, r1, r2, r3, r4, r5⟩ := x5.c6
    obtain ⟨z0, z1, z2, z3, z4, z5⟩ := x5.f6
    clear v5 x5
    go_wp2_with fail
    refine bodyPost_ret (v := .tuple #[.agg #[.int .i64 nx', .string bs', .slice a5 l'.length c5, .int .i64 cp', .int .i64 fi', .bool en'], .bool y]) (by rw [res_cell_tmp rfl]; go_simp) rfl ⟨a5, c5, by rw [HQ.out]; rfl, ?_, ?_⟩
    · rw [HQ.out]
      exact (own_put6 o5 (fun x q => by have := (o5.lt x q).1; omega) _ _ _ _ _ _).mono hB1
    · exact below_put6 B5 (Nat.le_succ _) _ _ _ _ _ _

end Go.Proofs.YtjnkjeajkmgcmaaGreat.Tak

namespace Go.Proofs.YtjnkjeajkmgcmaaGreat.Hop
open Go.RowKit RowG
set_option linter.unusedVariables false
set_option linter.unusedSimpArgs false

theorem mix : Tryz.prog.follows .mixedOrders = true := by kernel_rfl

structure Lt where
  bk : Bool
  rd : Int
  pl : Int
  bs : ByteArray
  en : Bool
  lm : Int
  dn : Bool
abbrev Lt.c (x : Lt) : List Value := [.bool x.bk, .int .i64 x.rd, .int .i64 x.pl, .string x.bs, .bool x.en, .int .i64 x.lm, .bool x.dn]
abbrev Lt.v (x : Lt) : Value := .agg #[.bool x.bk, .int .i64 x.rd, .int .i64 x.pl, .string x.bs, .bool x.en, .int .i64 x.lm, .bool x.dn]
def letE : El Lt where
  enc x := x.c
  size := 7
  len _ := rfl
  one x u hu := by
    simp at hu
    rcases hu with rfl | rfl | rfl | rfl | rfl | rfl | rfl <;> rfl
  pos := by decide
def letB (x : Lt) : Bool := decide (0 ≤ x.rd ∧ x.rd ≤ 3) && (Num.plB x.pl && (if x.bk then decide (x.bs.size = 0) && (!x.en && Num.plB x.lm) else
  decide (x.lm = 0) && (!x.dn && (decide (x.bs.size ≤ 40) && ((x.en || !decide (x.bs.size = 0)) && Num.plB (x.pl + x.bs.size))))))
theorem infoLet : (Tryz.prog.info? 39).map (fun i => (i.zero, i.size, i.bytes)) = some (some (.agg #[.bool false, .int .i64 0, .int .i64 0, .string ByteArray.empty, .bool false, .int .i64 0, .bool false]), 7, 64) := by kernel_rfl

theorem typ : Typ Tryz.prog 29 39 letE 64 := by
  obtain ⟨i, hi, hz0, hz1, hz2⟩ := info_parts infoLet
  exact ⟨Tryz.underlying29, i, _, hi, hz0, hz1, hz2, rfl⟩

set_option maxRecDepth 10000 in
set_option maxHeartbeats 4000000 in
theorem l7Letter (x : Lt) (w : World) (hs : x.bs.size ≤ 2097152) :
    Calls Tryz.prog 32 #[x.v] w fun e w' => e = .returned (.bool (letB x)) ∧ Below w.heap.size w w' := by
  obtain ⟨bk, rd, pl, bs, en, lm, dn⟩ := x
  dsimp only [Lt.v] at *
  have v0 : Var 39 (w.alloc (.cells #[.bool bk, .int .i64 rd, .int .i64 pl, .string bs, .bool en, .int .i64 lm, .bool dn] 39)) w.heap.size [.bool bk, .int .i64 rd, .int .i64 pl, .string bs, .bool en, .int .i64 lm, .bool dn] := Var.new w _
  have B0 : Below w.heap.size w (w.alloc (.cells #[.bool bk, .int .i64 rd, .int .i64 pl, .string bs, .bool en, .int .i64 lm, .bool dn] 39)) := (Below.refl _ _).alloc (Nat.le_refl _) _
  have HSE : Hid _ := Giv.isEmpty_eq bs
  go_enter Tryz.func32, Tryz.ntmps32
  go_upto_region 1 with (fail)
  generalize w.alloc (.cells #[.bool bk, .int .i64 rd, .int .i64 pl, .string bs, .bool en, .int .i64 lm, .bool dn] 39) = W at *
  obtain ⟨e0, e1, e2, e3, e4, e5, e6⟩ := v0.c7
  clear v0
  go_wp2_with fail
  refine (Tak.l1In _ _ _ _).mono ?_
  rintro x w1 ⟨rfl, rfl⟩
  cases h1 : decide (0 ≤ rd ∧ rd ≤ 3)
  case false =>
    go_wp2_with fail
    go_ret
    exact ⟨Num.ret_bool (by simp [letB, h1]), B0⟩
  go_wp2_with fail
  refine (Num.l1Place _ _).mono ?_
  rintro x w1 ⟨rfl, rfl⟩
  cases h2 : Num.plB pl
  case false =>
    go_wp2_with fail
    go_ret
    exact ⟨Num.ret_bool (by simp [letB, h1, h2]), B0⟩
  have hpl : 0 ≤ pl ∧ pl ≤ 1000000000 := by simpa [Num.plB] using h2
  cases bk
  case true =>
    cases h3 : decide (bs.size = 0)
    case false =>
      have hse : bs.toList.isEmpty = false := by rw [HSE.out, h3]
      have hnn : ¬ bs.toList = [] := fun q => absurd ((Giv.nil_iff bs).1 q) (of_decide_eq_false h3)
      have h3n : ¬ bs.size = 0 := of_decide_eq_false h3
      go_wp2_with fail
      go_ret
      exact ⟨Num.ret_bool (by simp [letB, h1, h2, h3, h3n]), B0⟩
    have hse : bs.toList.isEmpty = true := by rw [HSE.out, h3]
    have hnn : bs.toList = [] := (Giv.nil_iff bs).2 (of_decide_eq_true h3)
    have h3n : bs.size = 0 := of_decide_eq_true h3
    cases en
    case true =>
      go_wp2_with fail
      go_ret
      exact ⟨Num.ret_bool (by simp [letB, h1, h2, h3, h3n]), B0⟩
    go_wp2_with fail
    refine (Num.l1Place _ _).mono ?_
    rintro x w1 ⟨rfl, rfl⟩
    go_wp2_with fail
    go_ret
    exact ⟨Num.ret_bool (by simp [letB, h1, h2, h3, h3n]), B0⟩
  case false =>
    cases h3 : decide (lm = 0)
    case false =>
      have h3n : ¬ lm = 0 := of_decide_eq_false h3
      go_wp2_with fail
      go_ret
      exact ⟨Num.ret_bool (by simp [letB, h1, h2, h3, h3n]), B0⟩
    have h3n : lm = 0 := of_decide_eq_true h3
    cases dn
    case true =>
      go_wp2_with fail
      go_ret
      exact ⟨Num.ret_bool (by simp [letB, h1, h2, h3, h3n]), B0⟩
    cases h4 : decide (bs.size ≤ 40)
    case false =>
      have h4n : ¬ (bs.size : Int) ≤ 40 := by have := of_decide_eq_false h4; omega
      have h4m : ¬ bs.size ≤ 40 := of_decide_eq_false h4
      go_wp2_with fail
      go_ret
      exact ⟨Num.ret_bool (by simp [letB, h1, h2, h3, h3n, h4, h4m]), B0⟩
    have h4n : (bs.size : Int) ≤ 40 := by have := of_decide_eq_true h4; omega
    have h4m : bs.size ≤ 40 := of_decide_eq_true h4
    have ew : IntKind.i64.wrap (pl + (bs.size : Int)) = pl + bs.size := by rw [IntKind.wrap_i64]; omega
    cases en
    case true =>
      go_wp2_with fail
      refine (Num.l1Place _ _).mono ?_
      rintro x w1 ⟨rfl, rfl⟩
      go_wp2_with fail
      go_ret
      exact ⟨Num.ret_bool (by simp [letB, h1, h2, h3, h3n, h4, h4m, ew]), B0⟩
    cases h5 : decide (bs.size = 0)
    case true =>
      have hse : bs.toList.isEmpty = true := by rw [HSE.out, h5]
      have hnn : bs.toList = [] := (Giv.nil_iff bs).2 (of_decide_eq_true h5)
      have h5n : bs.size = 0 := of_decide_eq_true h5
      go_wp2_with fail
      go_ret
      exact ⟨Num.ret_bool (by simp [letB, h1, h2, h3, h3n, h4, h4m, h5, h5n]), B0⟩
    have hse : bs.toList.isEmpty = false := by rw [HSE.out, h5]
    have hnn : ¬ bs.toList = [] := fun q => absurd ((Giv.nil_iff bs).1 q) (of_decide_eq_false h5)
    have h5n : ¬ bs.size = 0 := of_decide_eq_false h5
    go_wp2_with fail
    refine (Num.l1Place _ _).mono ?_
    rintro x w1 ⟨rfl, rfl⟩
    go_wp2_with fail
    go_ret
    exact ⟨Num.ret_bool (by simp [letB, h1, h2, h3, h3n, h4, h4m, h5, h5n, ew]), B0⟩

end Go.Proofs.YtjnkjeajkmgcmaaGreat.Hop
