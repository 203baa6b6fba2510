/- Contracts of the program's functions of chapter 4 (holes): isSpan, SpansOk, endedBy, begunBy, copied, joined; lists of at most 2^21 spans. -/
import Derived.Test.YtjlebhohhhkmfaaHoleG
import Derived.Test.YtjlebhohhhkmfaaLawS
import Derived.Laws.CopyOwn
namespace Go.Proofs.Ytjlebhohhhkmfaa.Hole
open Go.RowKit
set_option linter.unusedVariables false
set_option linter.unusedSimpArgs false

theorem Own.cap {w : World} {B g c : Nat} {l : List Sp} (h : Own w B g c l) : l.length ≤ c := by
  obtain ⟨_, ⟨hv, _⟩ | ⟨g', cap, cur, hv, _, _, h3, _⟩⟩ := h
  · cases hv
  · cases hv; exact h3
theorem Own.other {w w' : World} {c B g cap : Nat} {l : List Sp} (h : Own w B g cap l) (k : Draw.Kept c w w') (hc : g ≠ c) : Own w' B g cap l := by
  refine World.ownsRow.kept (row := some c) h ⟨k.os, k.tape, k.output, k.size, fun i hi hne => k.block i hi (fun e => hne (by rw [e]))⟩ (.inr ?_)
  simp [Value.ownBlock]
  omega

set_option maxHeartbeats 1000000 in
theorem isSpan (f t : Int) (w : World) : Calls Try.prog 34 #[.agg #[.int .i64 f, .int .i64 t]] w fun x w' => x = .returned (.bool (spB (f, t))) ∧ Below w.heap.size w w' := by
  have fin : ∀ {o : Obj}, Below w.heap.size w (w.alloc o) := fun {o} => (Below.refl _ _).alloc (Nat.le_refl _) o
  cases h1 : Num.plB f
  · go_enter Try.func34, Try.ntmps34
    go_wp2_with (go_at_call 45; refine (Num.isPlace _ _).mono ?_; rintro x w' ⟨rfl, rfl⟩)
    go_ret
    exact ⟨Num.ret_bool (by simp [spB, h1]), fin⟩
  · cases h2 : Num.plB t
    · go_enter Try.func34, Try.ntmps34
      go_wp2_with (go_at_call 45; refine (Num.isPlace _ _).mono ?_; rintro x w' ⟨rfl, rfl⟩)
      go_ret
      exact ⟨Num.ret_bool (by simp [spB, h2]), fin⟩
    · by_cases h3 : f < t
      · go_enter Try.func34, Try.ntmps34
        go_wp2_with (go_at_call 45; refine (Num.isPlace _ _).mono ?_; rintro x w' ⟨rfl, rfl⟩)
        go_ret
        exact ⟨Num.ret_bool (by simp [spB, h1, h2, h3]), fin⟩
      · go_enter Try.func34, Try.ntmps34
        go_wp2_with (go_at_call 45; refine (Num.isPlace _ _).mono ?_; rintro x w' ⟨rfl, rfl⟩)
        go_ret
        exact ⟨Num.ret_bool (by simp [spB, h1, h2, h3]), fin⟩
theorem isSpanEq {f t : Int} {v : Bool} (h : spB (f, t) = v) (w : World) : Calls Try.prog 34 #[.agg #[.int .i64 f, .int .i64 t]] w fun x w' => x = .returned (.bool v) ∧ Below w.heap.size w w' := by
  subst h
  exact isSpan f t w

set_option maxHeartbeats 1000000 in
theorem implSpansOk (a : Option Addr) (n cap : Nat) (l : List Sp) (w : World) (hn : n = l.length) (h : Spans w a l) (hl : l.length ≤ 2097152) :
    Calls Try.prog 15 #[.slice a n cap] w fun x w' => x = .returned (.bool (spansB l)) ∧ Below w.heap.size w w' := by
  subst hn
  have hmix := mix
  go_enter Try.func15, Try.ntmps15
  by_cases h30 : l.length ≤ 30
  case neg =>
    have HF : Hid (spansB l = false) := by show _ = _; simp [spansB, h30]
    have i30 : (30 : Int) < (l.length : Int) := by omega
    go_wp2_with fail
    go_ret
    exact ⟨by rw [HF.out]; rfl, Below.refl _ _⟩
  have i30 : ¬ (30 : Int) < (l.length : Int) := by omega
  go_wp2_with fail
  go_loopw [10] (fun iv wr => ∃ k : Nat, k ≤ l.length ∧ iv = .int .i64 k ∧ Hid (∀ j, j < k → good l j) ∧ Below w.heap.size w wr) (fun iv _ => l.length - (intOf iv).toNat)
  case atStart => exact ⟨0, Nat.zero_le _, rfl, fun j hj => by omega, Below.refl _ _⟩
  case round =>
    obtain ⟨k, hk, rfl, hgood, hB⟩ := hrel
    by_cases hlt : k < l.length
    · rcases h with h | ⟨b, off, rfl, h⟩
      · simp [h] at hlt
      · have hbw : b < w.heap.size := Draw.lt_of_cell (h k hlt).1
        have c0 := (hB.cell (p := ⟨b, off + k * 2, none⟩) hbw).trans (h k hlt).1
        have c1 := (hB.cell (p := ⟨b, off + k * 2 + 1, none⟩) hbw).trans (h k hlt).2
        have i0 : (0 : Int) ≤ (k : Int) := by omega
        have i1 : (k : Int) < (l.length : Int) := by omega
        have HG : Hid (good l k ↔ (spB (l.getD k (0, 0)) = true ∧ (k = 0 ∨ (l.getD (k - 1) (0, 0)).2 < (l.getD k (0, 0)).1))) := Iff.rfl
        have hprev : 0 < k → wr.cell? ⟨b, off + (k - 1) * 2 + 1, none⟩ = some (.int .i64 (l.getD (k - 1) (0, 0)).2) := fun hk0 => (hB.cell (p := ⟨b, off + (k - 1) * 2 + 1, none⟩) hbw).trans (h (k - 1) (by omega)).2
        generalize l.getD k (0, 0) = s at *
        generalize l.getD (k - 1) (0, 0) = p at *
        obtain ⟨f, t⟩ := s
        obtain ⟨pf, pt⟩ := p
        simp only at c0 c1 hprev
        have d0 := Draw.Later.cell (box2 (w := wr) (v0 := .int .i64 f) (v1 := .int .i64 t) (T := 26) (Below.refl _ _)).1
        have d1 := Draw.Later.cell (box2 (w := wr) (v0 := .int .i64 f) (v1 := .int .i64 t) (T := 26) (Below.refl _ _)).2
        have hBA : Below w.heap.size w (wr.alloc (.cells #[.int .i64 f, .int .i64 t] 26)) := hB.alloc hB.size _
        replace hprev : 0 < k → (wr.alloc (.cells #[.int .i64 f, .int .i64 t] 26)).cell? ⟨b, off + (k - 1) * 2 + 1, none⟩ = some (.int .i64 pt) := fun hk0 => (((Below.refl wr.heap.size wr).alloc (Nat.le_refl _) _).cell (p := ⟨b, off + (k - 1) * 2 + 1, none⟩) (Nat.lt_of_lt_of_le hbw hB.size)).trans (hprev hk0)
        cases hsp : spB (f, t)
        · have HF : Hid (spansB l = false) := bad_at hlt fun hg => by have := (HG.out.1 hg).1; rw [hsp] at this; cases this
          clear HG hprev
          go_wp2_with fail
          refine Draw.wp_region_later hmix (by kernel_rfl) ?_
          repeat (go_big_quiet_step ((go_at_call 34; exact Draw.later_of (isSpanEq hsp _))))
          refine wpQuiet_nil ?_
          intro _ hw'
          obtain ⟨⟨wq, hBq⟩, hw''⟩ := hw'
          subst hw''
          go_wp2_with fail
          go_ret
          exact ⟨by rw [HF.out]; rfl, hBA.trans (hBq.mono hBA.size)⟩
        · by_cases hk0 : k = 0
          · subst hk0
            have HF : Hid (good l 0) := HG.out.2 ⟨hsp, .inl rfl⟩
            clear HG hprev
            rw [Nat.zero_mul, Nat.add_zero] at c0 c1
            go_wp2_with fail
            refine Draw.wp_region_later hmix (by kernel_rfl) ?_
            repeat (go_big_quiet_step ((go_at_call 34; exact Draw.later_of (isSpanEq hsp _))))
            refine wpQuiet_nil ?_
            intro _ hw'
            obtain ⟨⟨wq, hBq⟩, hw''⟩ := hw'
            subst hw''
            go_wp2_with fail
            go_roundw
            case rel => exact ⟨1, by omega, by go_num, fun j hj => by
              by_cases e : j = 0
              · rw [e]; exact HF.out
              · exact hgood.out j (by omega), hBA.trans (hBq.mono hBA.size)⟩
            case measure => simp [intOf]; omega
          · obtain ⟨m, rfl⟩ : ∃ m, k = m + 1 := ⟨k - 1, by omega⟩
            have d2 := Draw.Later.cell (hprev (by omega))
            rw [Nat.add_sub_cancel] at d2
            clear hprev
            have i2 : (0 : Int) < (m : Int) + 1 := by omega
            have i3 : (0 : Int) ≤ (m : Int) := by omega
            have i4 : (m : Int) < (l.length : Int) := by omega
            have i5 : (m : Int) + 1 < (l.length : Int) := by omega
            by_cases hcmp : pt < f
            · have HF : Hid (good l (m + 1)) := HG.out.2 ⟨hsp, .inr hcmp⟩
              clear HG
              go_wp2_with fail
              refine Draw.wp_region_later hmix (by kernel_rfl) ?_
              repeat (go_big_quiet_step ((go_at_call 34; exact Draw.later_of (isSpanEq hsp _))))
              refine wpQuiet_nil ?_
              intro _ hw'
              obtain ⟨⟨wq, hBq⟩, hw''⟩ := hw'
              subst hw''
              go_wp2_with fail
              go_roundw
              case rel => exact ⟨m + 1 + 1, by omega, by go_num, fun j hj => by
                by_cases e : j = m + 1
                · rw [e]; exact HF.out
                · exact hgood.out j (by omega), hBA.trans (hBq.mono hBA.size)⟩
              case measure => simp [intOf]; omega
            · have HF : Hid (spansB l = false) := bad_at hlt fun hg => by have := (HG.out.1 hg).2; simp only at this; omega
              clear HG
              go_wp2_with fail
              refine Draw.wp_region_later hmix (by kernel_rfl) ?_
              repeat (go_big_quiet_step ((go_at_call 34; exact Draw.later_of (isSpanEq hsp _))))
              refine wpQuiet_nil ?_
              intro _ hw'
              obtain ⟨⟨wq, hBq⟩, hw''⟩ := hw'
              subst hw''
              go_wp2_with fail
              go_ret
              exact ⟨by rw [HF.out]; rfl, hBA.trans (hBq.mono hBA.size)⟩
    · have hkl : k = l.length := by omega
      have HF : Hid (spansB l = decide (l.length ≤ 30)) := good_all (hkl ▸ hgood.out)
      have i1 : ¬ (k : Int) < (l.length : Int) := by omega
      clear hgood
      go_wp2_with fail
      go_ret
      exact ⟨by rw [HF.out, decide_eq_true h30]; rfl, hB⟩

set_option maxHeartbeats 1000000 in
theorem endedBy (a : Option Addr) (n cap : Nat) (l : List Sp) (p : Int) (w : World) (hn : n = l.length) (h : Spans w a l) (hl : l.length ≤ 2097152) :
    Calls Try.prog 36 #[.slice a n cap, .int .i64 p] w fun x w' => x = .returned (.int .i64 (cnt (endB p) l)) ∧ w = w' := by
  subst hn
  go_enter Try.func36, Try.ntmps36
  go_wp2_with fail
  go_loopw [5] (fun iv wr => ∃ k : Nat, k ≤ l.length ∧ iv = .int .i64 k ∧ Hid (∀ j, j < k → endB p (l.getD j (0, 0)) = true) ∧ w = wr) (fun iv _ => l.length - (intOf iv).toNat)
  case atStart => exact ⟨0, Nat.zero_le _, rfl, fun j hj => by omega, rfl⟩
  case round =>
    obtain ⟨k, hk, rfl, hall, rfl⟩ := hrel
    by_cases hlt : k < l.length
    · rcases h with h | ⟨b, off, rfl, h⟩
      · simp [h] at hlt
      · have c0 := (h k hlt).2
        have i0 : (0 : Int) ≤ (k : Int) := by omega
        have i1 : (k : Int) < (l.length : Int) := by omega
        have HG : Hid (endB p (l.getD k (0, 0)) = decide ((l.getD k (0, 0)).2 ≤ p)) := rfl
        clear h
        generalize (l.getD k (0, 0)).2 = x at *
        by_cases hx : x ≤ p
        · have HT : Hid (endB p (l.getD k (0, 0)) = true) := by show _ = _; rw [HG.out, decide_eq_true hx]
          clear HG
          go_wp2_with fail
          go_roundw
          case rel => exact ⟨k + 1, by omega, by go_num, fun j hj => by
            by_cases e : j = k
            · rw [e]; exact HT.out
            · exact hall.out j (by omega), by first | rfl | trivial⟩
          case measure => simp [intOf]; omega
        · have HT : Hid (endB p (l.getD k (0, 0)) = false) := by show _ = _; rw [HG.out, decide_eq_false hx]
          clear HG
          go_wp2_with fail
          go_ret
          exact ⟨by rw [cnt_is hk hall.out (fun _ => HT.out)]; rfl, rfl⟩
    · have i1 : ¬ (k : Int) < (l.length : Int) := by omega
      go_wp2_with fail
      go_ret
      exact ⟨by rw [cnt_is hk hall.out (fun h => absurd h hlt)]; rfl, rfl⟩

set_option maxHeartbeats 1000000 in
theorem begunBy (a : Option Addr) (n cap : Nat) (l : List Sp) (p : Int) (w : World) (hn : n = l.length) (h : Spans w a l) (hl : l.length ≤ 2097152) :
    Calls Try.prog 37 #[.slice a n cap, .int .i64 p] w fun x w' => x = .returned (.int .i64 (cnt (begB p) l)) ∧ w = w' := by
  subst hn
  go_enter Try.func37, Try.ntmps37
  go_wp2_with fail
  go_loopw [5] (fun iv wr => ∃ k : Nat, k ≤ l.length ∧ iv = .int .i64 k ∧ Hid (∀ j, j < k → begB p (l.getD j (0, 0)) = true) ∧ w = wr) (fun iv _ => l.length - (intOf iv).toNat)
  case atStart => exact ⟨0, Nat.zero_le _, rfl, fun j hj => by omega, rfl⟩
  case round =>
    obtain ⟨k, hk, rfl, hall, rfl⟩ := hrel
    by_cases hlt : k < l.length
    · rcases h with h | ⟨b, off, rfl, h⟩
      · simp [h] at hlt
      · have c0 := (h k hlt).1
        have i0 : (0 : Int) ≤ (k : Int) := by omega
        have i1 : (k : Int) < (l.length : Int) := by omega
        have HG : Hid (begB p (l.getD k (0, 0)) = decide ((l.getD k (0, 0)).1 ≤ p)) := rfl
        clear h
        generalize (l.getD k (0, 0)).1 = x at *
        by_cases hx : x ≤ p
        · have HT : Hid (begB p (l.getD k (0, 0)) = true) := by show _ = _; rw [HG.out, decide_eq_true hx]
          clear HG
          go_wp2_with fail
          go_roundw
          case rel => exact ⟨k + 1, by omega, by go_num, fun j hj => by
            by_cases e : j = k
            · rw [e]; exact HT.out
            · exact hall.out j (by omega), by first | rfl | trivial⟩
          case measure => simp [intOf]; omega
        · have HT : Hid (begB p (l.getD k (0, 0)) = false) := by show _ = _; rw [HG.out, decide_eq_false hx]
          clear HG
          go_wp2_with fail
          go_ret
          exact ⟨by rw [cnt_is hk hall.out (fun _ => HT.out)]; rfl, rfl⟩
    · have i1 : ¬ (k : Int) < (l.length : Int) := by omega
      go_wp2_with fail
      go_ret
      exact ⟨by rw [cnt_is hk hall.out (fun h => absurd h hlt)]; rfl, rfl⟩

theorem run_copy_wide {P : Program} (w : World) (dT sT ty elem : TypeId) (size g o dLen dCap : Nat) (a : Addr) (sLen sCap : Nat) (cur : Array Value) (t : TypeId) (cs : List Value)
    (hu : P.underlying dT = some (.slice elem)) (i : TypeInfo) (hi : P.info? elem = some i) (hs : i.size = size)
    (hg : w.heap[g]? = some (.cells cur t (0, 0))) (hn : cs.length = Nat.min sLen dLen * size)
    (hsrc : ∀ j v, cs[j]? = some v → w.cell? (a.add j) = some v) (hfit : o + cs.length ≤ cur.size) (h1 : ∀ v ∈ cs, v.oneCell' = true) :
    (Builtin.copy_ #[dT, sT] ty #[.slice (some ⟨g, o, none⟩) dLen dCap, .slice (some a) sLen sCap]).run P w =
      .ok (goInt (Nat.min sLen dLen)) (w.setRow g (cur.toList.take o ++ cs ++ cur.toList.drop (o + cs.length)).toArray) := by
  have hl := run_loadCells_list (P := P) w a cs hsrc
  have hst := run_storeCells_at P g o t cs 0 cur w hg (by simpa using hfit) h1
  simp [Builtin.copy_, run_underlying hu, Builtin.lenOf, Builtin.firstCells, sizeOf, typeInfo, hi, hs, ← hn, hl, hst]
theorem run_copy_zero {P : Program} (w : World) (dT sT ty elem : TypeId) (a : Addr) (dLen dCap : Nat) (hu : P.underlying dT = some (.slice elem)) (i : TypeInfo) (hi : P.info? elem = some i) :
    (Builtin.copy_ #[dT, sT] ty #[.slice (some a) dLen dCap, .slice none 0 0]).run P w = .ok (goInt 0) w :=
  run_copy_nil (P := P) w dT sT ty elem a dLen dCap hu (by rw [hi]; rfl)
/-- A list of spans copied over the front of a row of the call's own of just its length. -/
theorem wpList_copy_spans {w : World} {ops : Array Oper} {rest : List Oper} {o : Oper} {a : Act} {Q : Exit → Act → World → Prop} (hgd : o.guard = none) (d s : Operand)
    (ho : o.op = .call { callee := .builtin .copy, args := #[d, s], argTypes := #[24, 24] })
    (B g c : Nat) (l l0 : List Sp) (sp : Option Addr) (sCap : Nat) (hd : a.eval d = .slice (some ⟨g, 0, none⟩) l.length c) (hs : a.eval s = .slice sp l.length sCap) (hlen : l0.length = l.length)
    (hown : Own w B g c l0) (hsrc : Spans w sp l) (hcap : sp = none → sCap = 0) (w0 : World) (hb : Below B w0 w)
    (h : ∀ w', Own w' B g c l → Below B w0 w' → wpList Try.prog ops Q rest (a.put o.dst (goInt l.length)) w') : wpList Try.prog ops Q (o :: rest) a w := by
  rw [← hlen] at hd
  refine wpList_plain hgd fun K hK => ?_
  obtain ⟨i, hi, hz0, hz1, hz2⟩ := info_parts infoSpan
  have hgB := hown.lt.1
  obtain ⟨hx, ⟨hv, _⟩ | ⟨g', cap, cur, hv, h1, h2, h3, h4, h5, h6⟩⟩ := hown
  · cases hv
  · cases hv
    cases sp with
    | none =>
      have hl0 : l = [] := by rcases hsrc with e | ⟨_, _, e, _⟩; exact e; cases e
      subst hl0
      have e0 : l0 = [] := List.eq_nil_of_length_eq_zero (by simpa using hlen)
      subst e0
      have hc0 := hcap rfl
      subst hc0
      have hrun := run_copy_zero (P := Try.prog) w 24 24 o.type 26 ⟨g, 0, none⟩ 0 c Try.underlying24 i hi
      unfold Oper.wp
      simp [execOp, ho, resolve, invoke, builtin, hd, hs, hrun, Result.andThen]
      exact hK _ _ (h w ⟨hx, .inr ⟨g, c, cur, rfl, h1, h2, h3, h4, h5, h6⟩⟩ hb)
    | some ad =>
      have hvl := vals_len l
      have hmin : Nat.min l.length l0.length = l.length := by rw [hlen]; exact Nat.min_self _
      have hfit : 0 + (vals l).length ≤ cur.size := by rw [hvl, h5]; rw [hlen] at h3; omega
      have hrun := run_copy_wide (P := Try.prog) w 24 24 o.type 26 2 g 0 l0.length c ad l.length sCap cur 26 (vals l) Try.underlying24 i hi hz1 h2 (by rw [hmin, hvl]) (src_cells hsrc rfl) hfit (all_cells l)
      rw [hmin] at hrun
      unfold Oper.wp
      simp [execOp, ho, resolve, invoke, builtin, hd, hs, hrun, Result.andThen]
      refine hK _ _ (h _ ⟨hvl, .inr ⟨g, c, _, rfl, h1, setRow_heap w g cur _ _ _ h2, by omega, h4, ?_, ?_⟩⟩ (below_setRow hb hgB _))
      · have := hfit
        simp only [List.take_zero, List.nil_append, List.size_toArray, List.length_append, List.length_drop, Array.length_toList]
        omega
      · rw [← hvl]
        simp

/-- The walk stands still here. -/
theorem stand {p : Prop} (h : Hid p) : p := h.out

set_option maxHeartbeats 1000000 in
theorem copied (a : Option Addr) (n cap : Nat) (l : List Sp) (w : World) (hn : n = l.length) (h : Spans w a l) (hl : l.length ≤ 2097152) (ha : a = none → cap = 0) :
    Calls Try.prog 35 #[.slice a n cap] w fun x w' => ∃ g c, x = .returned (.slice (some ⟨g, 0, none⟩) l.length c) ∧ Own w' w.heap.size g c l ∧ Below w.heap.size w w' := by
  subst hn
  obtain ⟨i, hi, hz0, hz1, hz2⟩ := info_parts infoSpan
  have hby : i.bytes * l.length ≤ 281474976710656 := by rw [hz2]; omega
  have hmx : l.length ≤ maxLen := by unfold maxLen; omega
  go_enter Try.func35, Try.ntmps35
  go_wp2_with (at_make; refine wpList_make_full _ (by rfl) _ _ 24 (by rfl) w.heap.size 26 i (.agg #[.int .i64 0, .int .i64 0]) 2 Try.underlying24 hi hz0 hz1 .i64 .i64 _ _ l.length (by rfl) (by rfl) rfl rfl hby hmx (Nat.le_refl _) ?_; intro w1 hown hgrow; refine stand ?_)
  have o1 : Own w1 w.heap.size w.heap.size l.length (List.replicate l.length (0, 0)) := by
    unfold Own
    rw [List.length_replicate, ← made_vals]
    exact hown
  have b1 : Below w.heap.size w w1 := (Below.refl _ _).grown hgrow (Nat.le_refl _) (fun _ h => by cases h)
  have h1 := h.below b1
  clear hown hgrow h
  generalize hG : w.heap.size = g at *
  have HG : Hid _ := hG
  clear hG
  show wpList _ _ _ _ _ _
  go_wp2_with (refine wpList_copy_spans (by rfl) _ _ (by rfl) g g l.length l (List.replicate l.length (0, 0)) a cap (by rfl) (by rfl) List.length_replicate o1 h1 ha w b1 ?_; intro w2 o2 b2)
  go_ret
  exact ⟨g, l.length, rfl, HG.out ▸ o2, HG.out ▸ b2⟩

end Go.Proofs.Ytjlebhohhhkmfaa.Hole
