/- Contracts of the program's fits, within and runsOf; lists of at most 2^21 parts, none beyond 2^62. -/
import Derived.Test.YtinngechdnglpaaTakU
import Derived.Test.YtinngechdnglpaaTakL
namespace Go.Proofs.Ytinngechdnglpaa.Tak
open Go.RowKit RowG Rng
set_option linter.unusedVariables false
set_option linter.unusedSimpArgs false

def fitsB (nx : Int) (l : List Pt) (fi p : Int) (bz : ByteArray) (e : Bool) : Bool :=
  Num.plB p && (decide (bz.size ≤ 40) && (Num.plB (p + bz.size) && ((decide (fi = -1) || decide (p + bz.size ≤ fi)) && (!e || (decide (lastEnd nx l ≤ p + bz.size) && (decide (fi = -1) || decide (p + bz.size = fi)))))))
theorem fits_bad {t : Tk} (h : t.ok = true) (p : Int) (bz : ByteArray) (e : Bool) : fitsB t.nx t.l t.fi p bz e = false ↔ takeBad t p bz e := by
  obtain ⟨hin, hq, he⟩ := ok_iff.1 h
  obtain ⟨h1, h2, h3⟩ := end_iff.1 he
  have hf : t.fi = -1 ∨ 0 ≤ t.fi := by
    rcases h1 with h1 | h1
    · exact .inl h1
    · exact .inr (Num.pl_t h1.1).1
  unfold fitsB takeBad
  cases Num.plB p <;> cases Num.plB (p + bz.size) <;> simp
  by_cases hz : bz.size ≤ 40
  · have hz' : ¬ 40 < bz.size := by omega
    simp only [hz, hz', true_and, false_or, forall_const]
    cases e <;> simp <;> omega
  · have hz' : 40 < bz.size := by omega
    simp [hz, hz']

set_option maxRecDepth 10000 in
set_option maxHeartbeats 4000000 in
theorem fits (nx : Int) (bs : ByteArray) (a : Option Addr) (n c : Nat) (cp fi : Int) (en : Bool) (l : List Pt) (p : Int) (bz : ByteArray) (e : Bool) (w : World) (hn : n = l.length) (h : partE.Lies w a l) (hl : l.length ≤ 2097152) (hp : Bd l) (hz : bz.size ≤ 1048576) {v : Bool} (hv : fitsB nx l fi p bz e = v) :
    Calls Try.prog 30 #[.agg #[.int .i64 nx, .string bs, .slice a n c, .int .i64 cp, .int .i64 fi, .bool en], .int .i64 p, .string bz, .bool e] w fun x w' => x = .returned (.bool v) ∧ Below w.heap.size w w' := by
  subst hn
  have BV : Below w.heap.size w (w.alloc (.cells #[.int .i64 nx, .string bs, .slice a l.length c, .int .i64 cp, .int .i64 fi, .bool en] 26)) := (Below.refl _ _).alloc (Nat.le_refl _) _
  have VV : Var 26 (w.alloc (.cells #[.int .i64 nx, .string bs, .slice a l.length c, .int .i64 cp, .int .i64 fi, .bool en] 26)) w.heap.size [.int .i64 nx, .string bs, .slice a l.length c, .int .i64 cp, .int .i64 fi, .bool en] := Var.new w _
  have LV : Hid (partE.Lies (w.alloc (.cells #[.int .i64 nx, .string bs, .slice a l.length c, .int .i64 cp, .int .i64 fi, .bool en] 26)) a l) := h.later BV
  have HP : Hid (Bd l) := hp
  clear hp h
  cases h1 : Num.plB p
  case false =>
    have e1 : Hid (false = v) := by show _ = _; rw [← hv]; simp [fitsB, h1]
    clear hv
    go_enter Try.func30, Try.ntmps30
    go_wp2_with (first | (go_at_call 41; refine (Num.isPlace _ _).mono ?_; rintro x w2 ⟨rfl, rfl⟩) | (go_at_call 52; refine (behindAll nx bs a _ c cp fi en l _ rfl LV.out hl HP.out rfl).mono ?_; rintro x w3 ⟨rfl, hb3⟩))
    go_ret
    exact ⟨Num.ret_bool e1.out, BV⟩
  by_cases h2 : bz.size ≤ 40
  case neg =>
    have e1 : Hid (false = v) := by show _ = _; rw [← hv]; simp [fitsB, h2]
    clear hv
    go_enter Try.func30, Try.ntmps30
    go_wp2_with (first | (go_at_call 41; refine (Num.isPlace _ _).mono ?_; rintro x w2 ⟨rfl, rfl⟩) | (go_at_call 52; refine (behindAll nx bs a _ c cp fi en l _ rfl LV.out hl HP.out rfl).mono ?_; rintro x w3 ⟨rfl, hb3⟩))
    go_ret
    exact ⟨Num.ret_bool e1.out, BV⟩
  obtain ⟨p0, p1⟩ := Num.pl_t h1
  obtain ⟨s, hs⟩ : ∃ s, p + (bz.size : Int) = s := ⟨_, rfl⟩
  have ew : IntKind.i64.wrap (p + (bz.size : Int)) = s := by rw [← hs, IntKind.wrap_i64]; omega
  cases h3 : Num.plB s
  case false =>
    have e1 : Hid (false = v) := by show _ = _; rw [← hv]; simp [fitsB, hs, h3]
    clear hv
    go_enter Try.func30, Try.ntmps30
    go_wp2_with (first | (go_at_call 41; refine (Num.isPlace _ _).mono ?_; rintro x w2 ⟨rfl, rfl⟩) | (go_at_call 52; refine (behindAll nx bs a _ c cp fi en l _ rfl LV.out hl HP.out rfl).mono ?_; rintro x w3 ⟨rfl, hb3⟩))
    go_ret
    exact ⟨Num.ret_bool e1.out, BV⟩
  have hvs : Hid (v = ((decide (fi = -1) || decide (s ≤ fi)) && (!e || (decide (lastEnd nx l ≤ s) && (decide (fi = -1) || decide (s = fi)))))) := by show _ = _; rw [← hv]; simp only [fitsB, h1, h2, hs, h3]; rfl
  clear hv
  obtain ⟨la, hla⟩ : ∃ la, lastEnd nx l = la := ⟨_, rfl⟩
  have HLA : Hid (lastEnd nx l = la) := hla
  have hvs : Hid (v = ((decide (fi = -1) || decide (s ≤ fi)) && (!e || (decide (la ≤ s) && (decide (fi = -1) || decide (s = fi)))))) := by show _ = _; rw [hvs.out, hla]
  clear hla
  by_cases h4 : fi = -1
  · have g1 : (fi == -1) = true := by simp [h4]
    have g2 : (fi != -1) = false := by simp [h4]
    cases e
    · have e1 : Hid (true = v) := by show _ = _; rw [hvs.out]; simp [h4]
      clear h4
      go_enter Try.func30, Try.ntmps30
      go_wp2_with (go_at_call 41; refine (Num.isPlace _ _).mono ?_; rintro x w2 ⟨rfl, rfl⟩)
      go_ret
      exact ⟨Num.ret_bool e1.out, BV⟩
    · by_cases h6 : la ≤ s
      · have e1 : Hid (true = v) := by show _ = _; rw [hvs.out]; simp [h4, h6]
        have g6 : decide (la ≤ s) = true := decide_eq_true h6
        clear h4
        go_enter Try.func30, Try.ntmps30
        go_wp2_with (go_at_call 41; refine (Num.isPlace _ _).mono ?_; rintro x w2 ⟨rfl, rfl⟩)
        refine (behindAll nx bs a _ c cp fi en l _ rfl LV.out hl HP.out HLA.out).mono ?_
        rintro x w3 ⟨rfl, hb3⟩
        have V3 := VV.later hb3
        have B3 := BV.trans (hb3.mono BV.size)
        have d4 := V3.cell (i := 4) rfl
        clear hb3 LV HP V3 VV BV HLA
        go_wp2_with fail
        go_ret
        exact ⟨Num.ret_bool e1.out, B3⟩
      · have e1 : Hid (false = v) := by show _ = _; rw [hvs.out]; simp [h6]
        have g6 : decide (la ≤ s) = false := decide_eq_false h6
        clear h4
        go_enter Try.func30, Try.ntmps30
        go_wp2_with (go_at_call 41; refine (Num.isPlace _ _).mono ?_; rintro x w2 ⟨rfl, rfl⟩)
        refine (behindAll nx bs a _ c cp fi en l _ rfl LV.out hl HP.out HLA.out).mono ?_
        rintro x w3 ⟨rfl, hb3⟩
        have V3 := VV.later hb3
        have B3 := BV.trans (hb3.mono BV.size)
        have d4 := V3.cell (i := 4) rfl
        clear hb3 LV HP V3 VV BV HLA
        go_wp2_with fail
        go_ret
        exact ⟨Num.ret_bool e1.out, B3⟩
  have g1 : (fi == -1) = false := by simp [h4]
  have g2 : (fi != -1) = true := by simp [h4]
  by_cases h5 : s ≤ fi
  case neg =>
    have e1 : Hid (false = v) := by show _ = _; rw [hvs.out]; simp [h4, h5]
    have g5 : decide (fi < s) = true := decide_eq_true (by omega)
    have g5' : fi < s := by omega
    clear h4
    go_enter Try.func30, Try.ntmps30
    go_wp2_with (go_at_call 41; refine (Num.isPlace _ _).mono ?_; rintro x w2 ⟨rfl, rfl⟩)
    go_ret
    exact ⟨Num.ret_bool e1.out, BV⟩
  have g5 : decide (fi < s) = false := decide_eq_false (by omega)
  cases e
  · have e1 : Hid (true = v) := by show _ = _; rw [hvs.out]; simp [h5]
    clear h4
    go_enter Try.func30, Try.ntmps30
    go_wp2_with (go_at_call 41; refine (Num.isPlace _ _).mono ?_; rintro x w2 ⟨rfl, rfl⟩)
    go_ret
    exact ⟨Num.ret_bool e1.out, BV⟩
  by_cases h6 : la ≤ s
  case neg =>
    have e1 : Hid (false = v) := by show _ = _; rw [hvs.out]; simp [h6]
    have g6 : decide (la ≤ s) = false := decide_eq_false h6
    clear h4
    go_enter Try.func30, Try.ntmps30
    go_wp2_with (go_at_call 41; refine (Num.isPlace _ _).mono ?_; rintro x w2 ⟨rfl, rfl⟩)
    refine (behindAll nx bs a _ c cp fi en l _ rfl LV.out hl HP.out HLA.out).mono ?_
    rintro x w3 ⟨rfl, hb3⟩
    have V3 := VV.later hb3
    have B3 := BV.trans (hb3.mono BV.size)
    have d4 := V3.cell (i := 4) rfl
    clear hb3 LV HP V3 VV BV HLA
    go_wp2_with fail
    go_ret
    exact ⟨Num.ret_bool e1.out, B3⟩
  have g6 : decide (la ≤ s) = true := decide_eq_true h6
  by_cases h7 : s = fi
  · have e1 : Hid (true = v) := by show _ = _; rw [hvs.out]; simp [h7]; omega
    have g7 : (s == fi) = true := by simp [h7]
    clear h4 h7
    go_enter Try.func30, Try.ntmps30
    go_wp2_with (go_at_call 41; refine (Num.isPlace _ _).mono ?_; rintro x w2 ⟨rfl, rfl⟩)
    refine (behindAll nx bs a _ c cp fi en l _ rfl LV.out hl HP.out HLA.out).mono ?_
    rintro x w3 ⟨rfl, hb3⟩
    have V3 := VV.later hb3
    have B3 := BV.trans (hb3.mono BV.size)
    have d4 := V3.cell (i := 4) rfl
    clear hb3 LV HP V3 VV BV HLA
    go_wp2_with fail
    go_ret
    exact ⟨Num.ret_bool e1.out, B3⟩
  · have e1 : Hid (false = v) := by show _ = _; rw [hvs.out]; simp [h4, h7]
    have g7 : (s == fi) = false := by simp [h7]
    clear h4 h7
    go_enter Try.func30, Try.ntmps30
    go_wp2_with (go_at_call 41; refine (Num.isPlace _ _).mono ?_; rintro x w2 ⟨rfl, rfl⟩)
    refine (behindAll nx bs a _ c cp fi en l _ rfl LV.out hl HP.out HLA.out).mono ?_
    rintro x w3 ⟨rfl, hb3⟩
    have V3 := VV.later hb3
    have B3 := BV.trans (hb3.mono BV.size)
    have d4 := V3.cell (i := 4) rfl
    clear hb3 LV HP V3 VV BV HLA
    go_wp2_with fail
    go_ret
    exact ⟨Num.ret_bool e1.out, B3⟩

def withinP (p : Int) (bz : ByteArray) (fr to : Int) : Pt := if min to (p + bz.size) ≤ max fr p then (0, ⟨#[]⟩) else (max fr p, bz.extract (max fr p - p).toNat (min to (p + bz.size) - p).toNat)

set_option maxRecDepth 10000 in
set_option maxHeartbeats 2000000 in
theorem within (p : Int) (bz : ByteArray) (fr to : Int) (w : World) (hp0 : 0 ≤ p) (hp1 : p ≤ 1000000000) (hz : bz.size ≤ 40) :
    Calls Try.prog 57 #[.agg #[.int .i64 p, .string bz], .int .i64 fr, .int .i64 to] w fun x w' => x = .returned (.agg #[.int .i64 (withinP p bz fr to).1, .string (withinP p bz fr to).2]) ∧ Below w.heap.size w w' := by
  have hmix := mix
  have B2 : Below w.heap.size w ((w.alloc (.cells #[.int .i64 p, .string bz] 53)).alloc (.cells #[.int .i64 0, .string ⟨#[]⟩] 53)) := ((Below.refl _ _).alloc (Nat.le_refl _) _).alloc (by simp) _
  have v1 : Var 53 ((w.alloc (.cells #[.int .i64 p, .string bz] 53)).alloc (.cells #[.int .i64 0, .string ⟨#[]⟩] 53)) w.heap.size [.int .i64 p, .string bz] := (Var.new w [.int .i64 p, .string bz]).alloc _
  have v2 : Var 53 ((w.alloc (.cells #[.int .i64 p, .string bz] 53)).alloc (.cells #[.int .i64 0, .string ⟨#[]⟩] 53)) (w.heap.size + 1) [.int .i64 0, .string ⟨#[]⟩] := by
    have := Var.new (T := 53) (w.alloc (.cells #[.int .i64 p, .string bz] 53)) [.int .i64 0, .string ⟨#[]⟩]
    simpa using this
  have hbd : bdP (p, bz) := ⟨by dsimp only; omega, by dsimp only; omega, by dsimp only; omega⟩
  obtain ⟨e, he⟩ : ∃ e, endP (p, bz) = e := ⟨_, rfl⟩
  have HE : Hid _ := he
  obtain ⟨f, hf⟩ : ∃ f, max fr p = f := ⟨_, rfl⟩
  obtain ⟨t, ht⟩ : ∃ t, min to (p + (bz.size : Int)) = t := ⟨_, rfl⟩
  have hee : p + (bz.size : Int) = e := he
  have hW : Hid (withinP p bz fr to = if t ≤ f then (0, ⟨#[]⟩) else (f, bz.extract (f - p).toNat (t - p).toNat)) := by show _ = _; rw [withinP, hf, ht]
  rw [hee] at ht
  have HBD : Hid _ := hbd
  have he2 : e ≤ p + 40 := by omega
  have he3 : p ≤ e := by omega
  go_enter Try.func57, Try.ntmps57
  go_wp2_with fail
  generalize hV : ((w.alloc (.cells #[.int .i64 p, .string bz] 53)).alloc (.cells #[.int .i64 0, .string ⟨#[]⟩] 53)) = V at *
  clear hV he hbd
  have d0 := Draw.Later.cell (v1.cell (i := 0) rfl)
  have d1 := Draw.Later.cell (v1.cell (i := 1) rfl)
  refine Draw.wp_region_later hmix (by kernel_rfl) ?_
  repeat (go_big_quiet_step ((go_at_call 34; exact Draw.later_of (behindEq _ HBD.out HE.out))))
  refine wpQuiet_nil ?_
  intro wq hw'
  obtain ⟨q, hq⟩ := hw'
  have hBq := q.h
  rw [← hq] at hBq
  clear hq q d0 d1
  have hff : (if fr < p then p else fr) = f := by rw [← hf]; simp only [Int.max_def]; split <;> split <;> omega
  have htt : (if e < to then e else to) = t := by rw [← ht]; simp only [Int.min_def]; split <;> split <;> omega
  rw [hff, htt]
  have hf0 : p ≤ f := by rw [← hf]; omega
  have ht0 : t ≤ e := by rw [← ht]; omega
  clear hff htt hf ht
  have v1 := v1.later hBq
  have v2 := v2.later hBq
  have BQ := B2.trans (hBq.mono B2.size)
  clear hBq B2
  have c0 := v1.cell (i := 0) rfl
  have c1 := v1.cell (i := 1) rfl
  have r0 := v2.cell (i := 0) rfl
  have r1 := v2.cell (i := 1) rfl
  have z0 := v2.free 0
  have z1 := v2.free 1
  clear v1 v2
  by_cases hc : t ≤ f
  · have E : Hid (withinP p bz fr to = (0, ⟨#[]⟩)) := by show _ = _; rw [hW.out, if_pos hc]
    go_wp2_with fail
    refine bodyPost_ret (v := .agg #[.int .i64 0, .string ⟨#[]⟩]) (by rw [res_cell rfl]; go_simp) rfl ⟨by rw [E.out], ?_⟩
    iterate 2 (refine Below.setCell ?_ (by dsimp only; omega) _)
    exact BQ
  · have E : Hid (withinP p bz fr to = (f, bz.extract (f - p).toNat (t - p).toNat)) := by show _ = _; rw [hW.out, if_neg hc]
    have e1 : IntKind.i64.wrap (f - p) = f - p := by rw [IntKind.wrap_i64]; omega
    have e2 : IntKind.i64.wrap (t - p) = t - p := by rw [IntKind.wrap_i64]; omega
    have i1 : 0 ≤ f - p := by omega
    have i2 : f - p ≤ t - p := by omega
    have i3 : t - p ≤ (bz.size : Int) := by omega
    go_wp2_with fail
    refine bodyPost_ret (v := .agg #[.int .i64 f, .string (bz.extract (f - p).toNat (t - p).toNat)]) (by rw [res_cell rfl]; go_simp) rfl ⟨by rw [E.out], ?_⟩
    iterate 2 (refine Below.setCell ?_ (by dsimp only; omega) _)
    exact BQ

theorem runsOf (nx : Int) (bs : ByteArray) (a : Option Addr) (n c : Nat) (cp fi : Int) (en : Bool) (p : Int) (bz : ByteArray) (w : World) :
    Calls Try.prog 33 #[.agg #[.int .i64 nx, .string bs, .slice a n c, .int .i64 cp, .int .i64 fi, .bool en], .agg #[.int .i64 p, .string bz]] w fun e w' => e = .returned (.func (.func 55) #[] #[.pointer (some ⟨w.heap.size, 0, none⟩), .pointer (some ⟨w.heap.size + 1, 0, none⟩)]) ∧
      w' = (w.alloc (.cells #[.int .i64 nx, .string bs, .slice a n c, .int .i64 cp, .int .i64 fi, .bool en] 26)).alloc (.cells #[.int .i64 p, .string bz] 53) := by
  go_enter Try.func33, Try.ntmps33
  go_wp2_with fail
  go_ret
  exact ⟨rfl, rfl⟩

end Go.Proofs.Ytinngechdnglpaa.Tak
