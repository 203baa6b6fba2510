/- Contract of the specification's Takes; lists of at most 2^19 parts. -/
import Derived.Test.YtinngechdnglpaaTakG
namespace Go.Proofs.Ytinngechdnglpaa.Tak
open Go.RowKit RowG
set_option linter.unusedVariables false
set_option linter.unusedSimpArgs false

/-- What Takes answers. -/
def takes (t : Tk) (p : Int) (bz : ByteArray) (e : Bool) : Tk × Bool := if t.ok then takeT t p bz e else (zeroK, false)
/-- A taker that is right is small. -/
theorem scan_bd {nx lim : Int} (hn : 0 ≤ nx) (hm : lim ≤ 2000000000) : ∀ {l : List Pt} {last out : Int}, scan nx lim last l = some out → Bd l
  | [], _, _, _ => fun p hp => by cases hp
  | q :: r, last, out, h => by
    rw [scan] at h
    split at h
    next hq =>
      intro p hp
      rcases List.mem_cons.1 hp with rfl | hp
      · have h1 := hq.1
        have h2 := hq.2.1
        have h3 := hq.2.2.2
        unfold endP at h3
        exact ⟨by omega, by omega, by omega⟩
      · exact scan_bd hn hm h p hp
    next => cases h
theorem scan_tot {nx lim : Int} : ∀ {l : List Pt} {last out : Int}, scan nx lim last l = some out → tot l ≤ 40 * l.length
  | [], _, _, _ => Nat.zero_le _
  | q :: r, last, out, h => by
    rw [scan] at h
    split at h
    next hq =>
      have := scan_tot h
      have h1 := hq.1.2
      simp only [tot, List.length_cons]
      omega
    next => cases h
theorem ok_scan {t : Tk} (h : t.ok = true) : inT t.nx t.bs t.l t.cp ∧ ∃ last, scan t.nx (limT t.nx t.bs t.cp) t.nx t.l = some last ∧ endB t.fi last t.nx t.en = true := by
  simp only [Tk.ok, takerB, Bool.and_eq_true, decide_eq_true_eq] at h
  refine ⟨h.1, ?_⟩
  have h2 := h.2
  split at h2
  · cases h2
  · rename_i last hl
    exact ⟨last, hl, h2⟩
theorem ok_small {t : Tk} (h : t.ok = true) : Bd t.l ∧ t.bs.size + tot t.l ≤ 1000000 := by
  obtain ⟨hin, last, hs, _⟩ := ok_scan h
  obtain ⟨⟨h1, h2⟩, ⟨h3, h4⟩, ⟨h5, h6⟩, h7⟩ := hin
  have hlim : limT t.nx t.bs t.cp ≤ 2000000000 := by unfold limT; omega
  have ht := scan_tot hs
  exact ⟨scan_bd h3 hlim hs, by omega⟩

set_option maxHeartbeats 2000000 in
theorem specTakes (nx : Int) (bs : ByteArray) (a : Option Addr) (n0 c : Nat) (cp fi : Int) (en : Bool) (l : List Pt) (p : Int) (bz : ByteArray) (e : Bool) (w : World) (hn : n0 = l.length) (h : partE.Lies w a l) (hl : l.length ≤ 524288) (hbs : bs.size ≤ 2097152) (hp : Bd l) (ha : a = none → c = 0) (hp0 : -1099511627776 ≤ p ∧ p ≤ 1099511627776) (hz : bz.size ≤ 1048576) :
    Calls Try.prog 11 #[.agg #[.int .i64 nx, .string bs, .slice a n0 c, .int .i64 cp, .int .i64 fi, .bool en], .int .i64 p, .string bz, .bool e] w fun x w' => ∃ a' c', x = .returned (.tuple #[(takes ⟨nx, bs, l, cp, fi, en⟩ p bz e).1.v a' c', .bool (takes ⟨nx, bs, l, cp, fi, en⟩ p bz e).2]) ∧ partE.Own 53 w' w.heap.size a' c' (takes ⟨nx, bs, l, cp, fi, en⟩ p bz e).1.l ∧ Below w.heap.size w w' := by
  subst hn
  have hmix := mix
  have B2 : Below w.heap.size w ((w.alloc (.cells #[.int .i64 nx, .string bs, .slice a l.length c, .int .i64 cp, .int .i64 fi, .bool en] 26)).alloc (.cells #[.int .i64 0, .string ⟨#[]⟩, .slice none 0 0, .int .i64 0, .int .i64 0, .bool false] 26)) := ((Below.refl _ _).alloc (Nat.le_refl _) _).alloc (by simp) _
  have v1 : Var 26 ((w.alloc (.cells #[.int .i64 nx, .string bs, .slice a l.length c, .int .i64 cp, .int .i64 fi, .bool en] 26)).alloc (.cells #[.int .i64 0, .string ⟨#[]⟩, .slice none 0 0, .int .i64 0, .int .i64 0, .bool false] 26)) w.heap.size [.int .i64 nx, .string bs, .slice a l.length c, .int .i64 cp, .int .i64 fi, .bool en] := (Var.new w [.int .i64 nx, .string bs, .slice a l.length c, .int .i64 cp, .int .i64 fi, .bool en]).alloc _
  have v2 : Var 26 ((w.alloc (.cells #[.int .i64 nx, .string bs, .slice a l.length c, .int .i64 cp, .int .i64 fi, .bool en] 26)).alloc (.cells #[.int .i64 0, .string ⟨#[]⟩, .slice none 0 0, .int .i64 0, .int .i64 0, .bool false] 26)) (w.heap.size + 1) [.int .i64 0, .string ⟨#[]⟩, .slice none 0 0, .int .i64 0, .int .i64 0, .bool false] := by
    have := Var.new (T := 26) (w.alloc (.cells #[.int .i64 nx, .string bs, .slice a l.length c, .int .i64 cp, .int .i64 fi, .bool en] 26)) [.int .i64 0, .string ⟨#[]⟩, .slice none 0 0, .int .i64 0, .int .i64 0, .bool false]
    simpa using this
  go_enter Try.func11, Try.ntmps11
  go_wp2_with fail
  generalize hV : ((w.alloc (.cells #[.int .i64 nx, .string bs, .slice a l.length c, .int .i64 cp, .int .i64 fi, .bool en] 26)).alloc (.cells #[.int .i64 0, .string ⟨#[]⟩, .slice none 0 0, .int .i64 0, .int .i64 0, .bool false] 26)) = V at *
  clear hV
  refine (specTakerOk nx bs a _ c cp fi en l V rfl (h.later B2) (by omega) hbs hp.up).mono ?_
  rintro x w1 ⟨rfl, b1⟩
  have B1 := B2.trans (b1.mono B2.size)
  have x1 := v1.later b1
  have x2 := v2.later b1
  clear b1 B2 v1 v2
  cases hok : takerB nx bs l cp fi en
  · have q : takes ⟨nx, bs, l, cp, fi, en⟩ p bz e = (zeroK, false) := by simp [takes, Tk.ok, hok]
    have r0 := x2.cell (i := 0) rfl
    have r1 := x2.cell (i := 1) rfl
    have r2 := x2.cell (i := 2) rfl
    have r3 := x2.cell (i := 3) rfl
    have r4 := x2.cell (i := 4) rfl
    have r5 := x2.cell (i := 5) rfl
    have z0 := x2.free 0
    have z1 := x2.free 1
    have z2 := x2.free 2
    have z3 := x2.free 3
    have z4 := x2.free 4
    have z5 := x2.free 5
    clear x1 x2
    go_wp2_with fail
    refine bodyPost_ret (v := .tuple #[zeroK.v none 0, .bool false]) (by rw [res_cell_tmp rfl]; go_simp; rfl) rfl ⟨none, 0, by rw [q], by rw [q]; exact El.Own.none _ _, ?_⟩
    exact below_put6 B1 (Nat.le_succ _) _ _ _ _ _ _
  · have HQ : Hid (takes ⟨nx, bs, l, cp, fi, en⟩ p bz e = takeT ⟨nx, bs, l, cp, fi, en⟩ p bz e) := by show _ = _; simp [takes, Tk.ok, hok]
    have hin := taker_in hok
    have hsm := (ok_small (t := ⟨nx, bs, l, cp, fi, en⟩) hok).2
    replace hsm : bs.size + tot l ≤ 1000000 := hsm
    obtain ⟨⟨k1, k2⟩, ⟨k3, k4⟩, k5, k6⟩ := hin
    clear hok
    have c0 := x1.cell (i := 0) rfl
    have c1 := x1.cell (i := 1) rfl
    have c2 := x1.cell (i := 2) rfl
    have c3 := x1.cell (i := 3) rfl
    have c4 := x1.cell (i := 4) rfl
    have c5 := x1.cell (i := 5) rfl
    go_wp2_with fail
    refine (l5Copy nx bs a _ c cp fi en l w1 rfl (h.later B1) (by omega) ha).mono ?_
    rintro x w3 ⟨a', c', rfl, o3, b3⟩
    have hw1 : w.heap.size + 1 < w1.heap.size := x2.lt
    have hs1 : w1.heap.size ≤ w3.heap.size := b3.size
    have hB1 := B1.size
    have x2 := x2.later b3
    have B3 := B1.trans (b3.mono B1.size)
    have hx := fun x q => (o3.lt x q).2
    have x3 : Var 26 (w3.alloc (.cells #[.int .i64 nx, .string bs, .slice a' l.length c', .int .i64 cp, .int .i64 fi, .bool en] 26)) w3.heap.size [.int .i64 nx, .string bs, .slice a' l.length c', .int .i64 cp, .int .i64 fi, .bool en] := Var.new _ _
    have hw3 : w.heap.size + 1 < w3.heap.size := x2.lt
    have x2 := x2.alloc (.cells #[.int .i64 nx, .string bs, .slice a' l.length c', .int .i64 cp, .int .i64 fi, .bool en] 26)
    have o4 := o3.alloc (.cells #[.int .i64 nx, .string bs, .slice a' l.length c', .int .i64 cp, .int .i64 fi, .bool en] 26)
    have B4 : Below w.heap.size w (w3.alloc (.cells #[.int .i64 nx, .string bs, .slice a' l.length c', .int .i64 cp, .int .i64 fi, .bool en] 26)) := B3.alloc B3.size _
    clear c0 c1 c2 c3 c4 c5 x1 o3 B3 b3
    go_wp2_with fail
    refine (l5Take w3.heap.size w1.heap.size nx bs a' c' cp fi en l p bz e _ x3 o4 (Nat.le_trans hs1 (by simp)) (fun x q => by have := hx x q; omega) hl hp (by omega) ⟨k3, by omega⟩ ⟨by omega, by omega⟩ hp0 hz).mono ?_
    rintro x w5 ⟨a5, c5, rfl, v5, o5, K5, hk5⟩
    have x5 := x2.kept K5 (by omega)
    have B5 := B4.trans (K5.below (by omega) B4.size)
    clear x2 x3 o4 B4 K5 hk5 hx k1 k2 k3 k4 k5 k6 hsm B1 h hp ha hl hbs
    generalize takeT ⟨nx, bs, l, cp, fi, en⟩ p bz e = R at *
    obtain ⟨⟨nx', bs', l', cp', fi', en'⟩, y⟩ := R
    simp only at v5 o5
    generalize w3.heap.size = k3 at *
    have hne : k3 ≠ w.heap.size + 1 := by omega
    have d0 := v5.cell (i := 0) rfl
    have d1 := v5.cell (i := 1) rfl
    have d2 := v5.cell (i := 2) rfl
    have d3 := v5.cell (i := 3) rfl
    have d4 := v5.cell (i := 4) rfl
    have d5 := v5.cell (i := 5) rfl
    have r0 := x5.cell (i := 0) rfl
    have r1 := x5.cell (i := 1) rfl
    have r2 := x5.cell (i := 2) rfl
    have r3 := x5.cell (i := 3) rfl
    have r4 := x5.cell (i := 4) rfl
    have r5 := x5.cell (i := 5) rfl
    have z0 := x5.free 0
    have z1 := x5.free 1
    have z2 := x5.free 2
    have z3 := x5.free 3
    have z4 := x5.free 4
    have z5 := x5.free 5
    clear v5 x5
    go_wp2_with fail
    refine bodyPost_ret (v := .tuple #[.agg #[.int .i64 nx', .string bs', .slice a5 l'.length c5, .int .i64 cp', .int .i64 fi', .bool en'], .bool y]) (by rw [res_cell_tmp rfl]; go_simp) rfl ⟨a5, c5, by rw [HQ.out]; rfl, ?_, ?_⟩
    · rw [HQ.out]
      exact (own_put6 o5 (fun x q => by have := (o5.lt x q).1; omega) _ _ _ _ _ _).mono hB1
    · exact below_put6 B5 (Nat.le_succ _) _ _ _ _ _ _

end Go.Proofs.Ytinngechdnglpaa.Tak
