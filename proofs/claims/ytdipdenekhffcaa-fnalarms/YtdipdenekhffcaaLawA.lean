/- Contracts of the laws' own helpers over lists of alarms (szAlarmS, toAlarm, toAlarmS, eqAlarm, eqAlarmS, markAlarmS, heldAlarmS); lists of at most 2^21 alarms. -/
import Derived.Test.YtdipdenekhffcaaAlmA
import Derived.Test.YtdipdenekhffcaaShape
namespace Go.Proofs.Ytdipdenekhffcaa.Alm
open Go.RowKit
set_option linter.unusedVariables false

set_option maxHeartbeats 1000000 in
theorem szAlarmS (a : Option Addr) (n cap : Nat) (left : Int) (w : World) (hn : n ≤ maxLen) (h0 : 0 ≤ left) (h1 : left ≤ 1048576) :
    Calls Try.prog 22 #[.slice a n cap, .int .i64 left] w fun x w' => x = .returned (.int .i64 (if left < n then -1 else left - n)) ∧ w = w' := by
  unfold maxLen at hn
  by_cases h : left < (n : Int)
  · have hi : left - (n : Int) < 0 := by omega
    rw [if_pos h]
    go_enter Try.func22, Try.ntmps22
    go_wp2_with fail
    go_ret
    exact ⟨rfl, rfl⟩
  · have hi : ¬ left - (n : Int) < 0 := by omega
    rw [if_neg h]
    go_enter Try.func22, Try.ntmps22
    go_wp2_with fail
    go_ret
    exact ⟨rfl, rfl⟩

theorem results_cell1 {fn : Func} {p : Tmp} {ty : TypeId} (h : fn.results = #[.cell p ty]) (tmps : Array Value) (P : Program) (w : World) :
    (results fn tmps).run P w = ((asAddr (tmps.getD p undef)).run P w).andThen fun a w₁ => (loadVar ty a).run P w₁ := by
  simp only [results, h]
  simp [Sem.run_bind, Result.andThen]

set_option maxHeartbeats 1000000 in
theorem toAlarm (f t : Int) (w : World) :
    Calls Try.prog 25 #[.agg #[.int .i64 f, .int .i64 t]] w fun x w' => x = .returned (.agg #[.int .i64 f, .int .i64 t]) ∧ Below w.heap.size w w' := by
  go_enter Try.func25, Try.ntmps25
  go_wp2_with fail
  refine bodyPost_ret (v := .agg #[.int .i64 f, .int .i64 t]) (by rw [results_cell1 rfl]; go_simp) rfl ⟨rfl, (((Below.refl _ _).alloc (Nat.le_refl _) _).alloc (by simp) _).alloc (by simp; omega) _⟩

set_option maxHeartbeats 1000000 in
theorem eqAlarm (f t f' t' : Int) (w : World) :
    Calls Try.prog 52 #[.agg #[.int .i64 f, .int .i64 t], .agg #[.int .i64 f', .int .i64 t']] w fun x w' => x = .returned (.bool (decide ((f, t) = (f', t')))) ∧ Below w.heap.size w w' := by
  have fin : ∀ {o o' : Obj}, Below w.heap.size w ((w.alloc o).alloc o') := fun {o o'} => ((Below.refl _ _).alloc (Nat.le_refl _) o).alloc (by simp) o'
  by_cases h1 : f = f'
  · by_cases h2 : t = t'
    · subst h1; subst h2
      go_enter Try.func52, Try.ntmps52
      go_wp2_with fail
      go_ret
      exact ⟨Num.ret_bool (by simp), fin⟩
    · have h2' : (t == t') = false := by simpa using h2
      subst h1
      go_enter Try.func52, Try.ntmps52
      go_wp2_with fail
      go_ret
      exact ⟨Num.ret_bool (by simp [h2]), fin⟩
  · have h1' : (f == f') = false := by simpa using h1
    go_enter Try.func52, Try.ntmps52
    go_wp2_with fail
    go_ret
    exact ⟨Num.ret_bool (by simp [h1]), fin⟩
theorem eqAlarmEq {f t f' t' : Int} {v : Bool} (h : decide ((f, t) = (f', t')) = v) (w : World) : Calls Try.prog 52 #[.agg #[.int .i64 f, .int .i64 t], .agg #[.int .i64 f', .int .i64 t']] w fun x w' => x = .returned (.bool v) ∧ Below w.heap.size w w' := by
  subst h
  exact eqAlarm f t f' t' w

theorem take_eq_step {l l' : List Al} {k : Nat} (h : k < l.length) (h' : k < l'.length) (he : l.take k = l'.take k) (hx : l.getD k (0, 0) = l'.getD k (0, 0)) : l.take (k + 1) = l'.take (k + 1) := by
  rw [List.take_succ_eq_append_getElem h, List.take_succ_eq_append_getElem h', he]
  rw [List.getD_eq_getElem?_getD, List.getElem?_eq_getElem h, List.getD_eq_getElem?_getD, List.getElem?_eq_getElem h'] at hx
  simp at hx
  rw [hx]

set_option maxHeartbeats 2000000 in
theorem eqAlarmS (a a' : Option Addr) (n n' cap cap' : Nat) (l l' : List Al) (w : World) (hn : n = l.length) (hn' : n' = l'.length) (h : Alarms w a l) (h' : Alarms w a' l') (hl : l.length ≤ 4194304) (hl' : l'.length ≤ 4194304) :
    Calls Try.prog 24 #[.slice a n cap, .slice a' n' cap'] w fun x w' => x = .returned (.bool (decide (l = l'))) ∧ Below w.heap.size w w' := by
  subst hn
  subst hn'
  have hmix := mix
  by_cases hlen : l.length = l'.length
  · have hz : ((l.length : Int) == (l'.length : Int)) = true := by rw [beq_iff_eq]; omega
    have HLEN : Hid _ := hlen
    clear hlen
    go_enter Try.func24, Try.ntmps24
    go_wp2_with fail
    go_loopw [5] (fun iv wr => ∃ k : Nat, k ≤ l.length ∧ iv = .int .i64 k ∧ Hid (l.take k = l'.take k) ∧ Below w.heap.size w wr) (fun iv _ => l.length - (intOf iv).toNat)
    case atStart => exact ⟨0, Nat.zero_le _, rfl, by show _ = _; simp, Below.refl _ _⟩
    case round =>
      obtain ⟨k, hk, rfl, heq, hB⟩ := hrel
      have h1 := h.below hB
      have h1' := h'.below hB
      by_cases hlt : k < l.length
      · have hlt' : k < l'.length := by have := HLEN.out; omega
        rcases h1 with h1 | ⟨b, off, rfl, h1⟩
        · simp [h1] at hlt
        rcases h1' with h1' | ⟨b', off', rfl, h1'⟩
        · simp [h1'] at hlt'
        have d0 := Draw.Later.cell (h1 k hlt).1
        have d1 := Draw.Later.cell (h1 k hlt).2
        have d2 := Draw.Later.cell (h1' k hlt').1
        have d3 := Draw.Later.cell (h1' k hlt').2
        have i0 : (0 : Int) ≤ (k : Int) := by omega
        have i1 : (k : Int) < (l.length : Int) := by omega
        have i2 : (k : Int) < (l'.length : Int) := by omega
        have HT : Hid (∀ hx : l.getD k (0, 0) = l'.getD k (0, 0), l.take (k + 1) = l'.take (k + 1)) := fun hx => take_eq_step hlt hlt' heq.out hx
        have HX : Hid (∀ hx : l = l', l.getD k (0, 0) = l'.getD k (0, 0)) := fun hx => by rw [hx]
        generalize l.getD k (0, 0) = s at *
        generalize l'.getD k (0, 0) = s' at *
        obtain ⟨f, t⟩ := s
        obtain ⟨f', t'⟩ := s'
        simp only at d0 d1 d2 d3
        clear h1 h1'
        cases he : decide ((f, t) = (f', t'))
        · have HF : Hid (decide (l = l') = false) := decide_eq_false fun hx => by have := HX.out hx; rw [decide_eq_false_iff_not] at he; exact he this
          clear HT HX heq
          go_wp2_with fail
          refine Draw.wp_region_later hmix (by kernel_rfl) ?_
          repeat (go_big_quiet_step ((go_at_call 52; exact Draw.later_of (eqAlarmEq he _))))
          refine wpQuiet_nil ?_
          intro _ hw'
          obtain ⟨⟨wq, hBq⟩, hw''⟩ := hw'
          subst hw''
          go_wp2_with fail
          go_ret
          exact ⟨by rw [HF.out]; rfl, hB.trans (hBq.mono hB.size)⟩
        · have HF : Hid (l.take (k + 1) = l'.take (k + 1)) := HT.out (of_decide_eq_true he)
          clear HT HX heq
          go_wp2_with fail
          refine Draw.wp_region_later hmix (by kernel_rfl) ?_
          repeat (go_big_quiet_step ((go_at_call 52; exact Draw.later_of (eqAlarmEq he _))))
          refine wpQuiet_nil ?_
          intro _ hw'
          obtain ⟨⟨wq, hBq⟩, hw''⟩ := hw'
          subst hw''
          go_wp2_with fail
          go_roundw
          case rel => exact ⟨k + 1, by omega, by go_num, HF, hB.trans (hBq.mono hB.size)⟩
          case measure => simp [intOf]; omega
      · have i1 : ¬ (k : Int) < (l.length : Int) := by omega
        have HF : Hid (decide (l = l') = true) := decide_eq_true (by have := heq.out; rw [List.take_of_length_le (by omega), List.take_of_length_le (by have := HLEN.out; omega)] at this; exact this)
        clear heq
        go_wp2_with fail
        go_ret
        exact ⟨by rw [HF.out]; rfl, hB⟩
  · have hz : ((l.length : Int) == (l'.length : Int)) = false := by rw [beq_eq_false_iff_ne]; omega
    have HF : Hid (decide (l = l') = false) := decide_eq_false fun hx => hlen (by rw [hx])
    clear hlen
    go_enter Try.func24, Try.ntmps24
    go_wp2_with fail
    go_ret
    exact ⟨by rw [HF.out]; rfl, Below.refl _ _⟩

theorem vals_set : ∀ (l : List Al) (k : Nat) (f t : Int), k < l.length → vals (l.set k (f, t)) = ((vals l).set (k * 2) (.int .i64 f)).set (k * 2 + 1) (.int .i64 t)
  | [], k, f, t, h => by simp at h
  | s :: l, 0, f, t, h => by simp [vals]
  | s :: l, k + 1, f, t, h => by
    have ih := vals_set l k f t (by simpa using h)
    have e : ∀ (x : Al) (r : List Al), vals (x :: r) = .int .i64 x.1 :: .int .i64 x.2 :: vals r := fun x r => by simp [vals]
    have e1 : (k + 1) * 2 = k * 2 + 1 + 1 := by omega
    rw [List.set_cons_succ, e, e, ih, e1]
    simp
theorem Own.put {w : World} {B g c : Nat} {l : List Al} (h : Own w B g c l) (k : Nat) (hk : k < l.length) (f t : Int) :
    Own ((w.setCell ⟨g, k * 2, none⟩ (.int .i64 f)).setCell ⟨g, k * 2 + 1, none⟩ (.int .i64 t)) B g c (l.set k (f, t)) := by
  have h1 := (World.ownsRow.stored h (k * 2) (.int .i64 f)).1
  have h2 := (World.ownsRow.stored h1 (k * 2 + 1) (.int .i64 t)).1
  unfold Own
  rw [List.length_set, vals_set l k f t hk]
  exact h2
theorem Own.at {w : World} {B g c : Nat} {l : List Al} (h : Own w B g c l) {k : Nat} (hk : k < l.length) : (w.cell? ⟨g, k * 2, none⟩ = some (.int .i64 (l.getD k (0, 0)).1) ∧ w.cell? ⟨g, k * 2 + 1, none⟩ = some (.int .i64 (l.getD k (0, 0)).2)) ∧ w.frozen? ⟨g, k * 2, none⟩ = false ∧ w.frozen? ⟨g, k * 2 + 1, none⟩ = false := by
  have hv := vals_at l k hk
  exact ⟨⟨(World.ownsRow.cellAt h _ (by omega)).trans hv.1, (World.ownsRow.cellAt h _ (by omega)).trans hv.2⟩, World.ownsRow.frozenAt h _, World.ownsRow.frozenAt h _⟩

/-- The marks that are written into a list of n alarms, from k on. -/
def marks (k : Int) : Nat → List Al
  | 0 => []
  | n + 1 => marks k n ++ [(k + 2 * (n : Int), k + 2 * (n : Int) + 1)]
theorem marks_len (k : Int) (n : Nat) : (marks k n).length = n := by
  induction n with
  | zero => rfl
  | succ n ih => simp [marks, ih]
theorem marks_at (k : Int) : ∀ (n i : Nat), i < n → (marks k n).getD i (0, 0) = (k + 2 * (i : Int), k + 2 * (i : Int) + 1)
  | 0, i, h => by omega
  | n + 1, i, h => by
    rw [marks, List.getD_eq_getElem?_getD]
    by_cases e : i = n
    · subst e
      rw [List.getElem?_append_right (by rw [marks_len]; exact Nat.le_refl _), marks_len]
      simp
    · rw [List.getElem?_append_left (by rw [marks_len]; omega), ← List.getD_eq_getElem?_getD]
      exact marks_at k n i (by omega)

theorem setCell2_kept {w a : World} {g : Nat} (h : Draw.Kept g a w) (j j' : Nat) (u v : Value) : Draw.Kept g a ((w.setCell ⟨g, j, none⟩ u).setCell ⟨g, j', none⟩ v) := (h.setCell (.inl rfl) _).setCell (.inl rfl) _

set_option maxHeartbeats 2000000 in
theorem markAlarmS (B g n cap : Nat) (l : List Al) (q : Int) (w : World) (hn : n = l.length) (h : Own w B g cap l) (hl : l.length ≤ 4194304) (q0 : 0 ≤ q) (q1 : q ≤ 1000) :
    Calls Try.prog 26 #[.slice (some ⟨g, 0, none⟩) n cap, .int .i64 q] w fun x w' => x = .returned (.int .i64 (q + 2 * (l.length : Int))) ∧ Own w' B g cap (marks q l.length) ∧ Draw.Kept g w w' := by
  subst hn
  go_enter Try.func26, Try.ntmps26
  go_wp2_with fail
  go_loopw [1, 5] (fun qv iv wr => ∃ (k : Nat), k ≤ l.length ∧ iv = .int .i64 k ∧ qv = .int .i64 (q + 2 * (k : Int)) ∧ Own wr B g cap (marks q k ++ l.drop k) ∧ Draw.Kept g w wr) (fun _ iv _ => l.length - (intOf iv).toNat)
  case atStart => exact ⟨0, Nat.zero_le _, rfl, by simp, h, Draw.Kept.refl _ _⟩
  case round =>
    clear h
    obtain ⟨k, hk, rfl, rfl, hown, hkept⟩ := hrel
    by_cases hlt : k < l.length
    · have hlen : (marks q k ++ l.drop k).length = l.length := by simp [marks_len]; omega
      obtain ⟨⟨c0, c1⟩, f0, f1⟩ := hown.at (k := k) (by omega)
      have o2 := hown.put k (by omega) (q + 2 * (k : Int)) (q + 2 * (k : Int) + 1)
      have e : (marks q k ++ l.drop k).set k (q + 2 * (k : Int), q + 2 * (k : Int) + 1) = marks q (k + 1) ++ l.drop (k + 1) := by
        rw [List.set_append_right _ _ (by rw [marks_len]; exact Nat.le_refl _), marks_len, Nat.sub_self, List.drop_eq_getElem_cons hlt, List.set_cons_zero, marks]
        simp
      rw [e] at o2
      have O2 : Hid (Own _ _ _ _ _) := o2
      have i0 : (0 : Int) ≤ (k : Int) := by omega
      have i1 : (k : Int) < (l.length : Int) := by omega
      clear hown o2 e hlen
      generalize ((marks q k ++ l.drop k).getD k (0, 0)).1 = y0 at *
      generalize ((marks q k ++ l.drop k).getD k (0, 0)).2 = y1 at *
      go_wp2_with fail
      go_roundw
      case rel => exact ⟨k + 1, by omega, by go_num, by congr 1; omega, O2.out, setCell2_kept hkept _ _ _ _⟩
      case measure => simp [intOf]; omega
    · have hkl : k = l.length := by omega
      subst hkl
      have e : marks q l.length ++ l.drop l.length = marks q l.length := by simp
      rw [e] at hown
      have i1 : ¬ (l.length : Int) < (l.length : Int) := by omega
      go_wp2_with fail
      go_ret
      exact ⟨rfl, hown, hkept⟩

set_option maxHeartbeats 2000000 in
theorem heldAlarmS (a : Option Addr) (n cap m : Nat) (q : Int) (w : World) (hn : n = m) (h : Alarms w a (marks q m)) (hl : m ≤ 4194304) (q0 : 0 ≤ q) (q1 : q ≤ 1000) :
    Calls Try.prog 27 #[.slice a n cap, .int .i64 q] w fun x w' => x = .returned (.int .i64 (q + 2 * (m : Int))) ∧ w = w' := by
  subst hn
  go_enter Try.func27, Try.ntmps27
  go_wp2_with fail
  go_loop [1, 5] (fun qv iv => ∃ (k : Nat), k ≤ n ∧ iv = .int .i64 k ∧ qv = .int .i64 (q + 2 * (k : Int))) (fun _ iv => n - (intOf iv).toNat)
  case atStart => exact ⟨0, Nat.zero_le _, rfl, by simp⟩
  case round =>
    obtain ⟨k, hk, rfl, rfl⟩ := hrel
    by_cases hlt : k < n
    · rcases h with h | ⟨b, off, rfl, h⟩
      · have := congrArg List.length h; rw [marks_len] at this; simp at this; omega
      · have hm := marks_at q n k hlt
        have hc := h k (by rw [marks_len]; exact hlt)
        rw [hm] at hc
        have d0 := hc.1
        have d1 := hc.2
        simp only at d0 d1
        have i0 : (0 : Int) ≤ (k : Int) := by omega
        have i1 : (k : Int) < (n : Int) := by omega
        clear h hm hc
        go_wp2_with fail
        go_round
        case rel => exact ⟨k + 1, by omega, by go_num, by congr 1; omega⟩
        case measure => simp [intOf]; omega
    · have hkl : k = n := by omega
      subst hkl
      have i1 : ¬ (k : Int) < (k : Int) := by omega
      go_wp2_with fail
      go_ret
      exact ⟨rfl, rfl⟩

theorem made_vals (n : Nat) : (madeCells #[Value.int .i64 0, .int .i64 0] (n * 2)).toList = vals (List.replicate n (0, 0)) := by
  apply List.ext_getElem?
  intro i
  by_cases hi : i < n * 2
  · have hl : i / 2 < (List.replicate n ((0, 0) : Al)).length := by simp; omega
    have hv := vals_at (List.replicate n ((0, 0) : Al)) (i / 2) hl
    have hd : (List.replicate n ((0, 0) : Al)).getD (i / 2) (0, 0) = (0, 0) := by
      rw [List.getD_eq_getElem?_getD, List.getElem?_eq_getElem hl]; simp
    rw [hd] at hv
    rcases Nat.mod_two_eq_zero_or_one i with m | m
    · have e : i / 2 * 2 = i := by omega
      rw [e] at hv
      rw [hv.1]
      simp [madeCells, hi, m]
    · have e : i / 2 * 2 + 1 = i := by omega
      rw [e] at hv
      rw [hv.2]
      simp [madeCells, hi, m]
  · rw [List.getElem?_eq_none (by simp [madeCells]; omega), List.getElem?_eq_none (by rw [vals_len]; simp; omega)]

set_option maxHeartbeats 2000000 in
theorem toAlarmS (a : Option Addr) (n cap : Nat) (l : List Al) (w : World) (hn : n = l.length) (h : Alarms w a l) (hl : l.length ≤ 2097152) :
    Calls Try.prog 23 #[.slice a n cap] w fun x w' => ∃ g c, x = .returned (.slice (some ⟨g, 0, none⟩) l.length c) ∧ Own w' w.heap.size g c l ∧ Below w.heap.size w w' := by
  subst hn
  obtain ⟨i, hi, hz0, hz1, hz2⟩ := info_parts infoAlarm
  have hby : i.bytes * l.length ≤ 281474976710656 := by rw [hz2]; omega
  have hmx : l.length ≤ maxLen := by unfold maxLen; omega
  go_enter Try.func23, Try.ntmps23
  go_wp2_with (at_make; refine wpList_make_full _ (by rfl) _ _ 24 (by rfl) w.heap.size 26 i (.agg #[.int .i64 0, .int .i64 0]) 2 Try.underlying24 hi hz0 hz1 .i64 .i64 _ _ l.length (by rfl) (by rfl) rfl rfl hby hmx (Nat.le_refl _) ?_; intro w1 hown hgrow)
  have o1 : Own w1 w.heap.size w.heap.size l.length (List.replicate l.length (0, 0)) := by
    unfold Own
    rw [List.length_replicate, ← made_vals]
    exact hown
  have b1 : Below w.heap.size w w1 := (Below.refl _ _).grown hgrow (Nat.le_refl _) (fun _ h => by cases h)
  clear hown hgrow
  generalize hG : w.heap.size = g at *
  have HG : Hid _ := hG
  clear hG
  go_wp2_with fail
  go_loopw [4] (fun iv wr => ∃ k : Nat, k ≤ l.length ∧ iv = .int .i64 k ∧ Own wr g g l.length (l.take k ++ List.replicate (l.length - k) (0, 0)) ∧ Below g w wr) (fun iv _ => l.length - (intOf iv).toNat)
  case atStart => exact ⟨0, Nat.zero_le _, rfl, by simpa using o1, b1⟩
  case round =>
    clear o1 b1
    obtain ⟨k, hk, rfl, hown, hB⟩ := hrel
    by_cases hlt : k < l.length
    · have h1 := h.below (HG.out ▸ hB)
      rcases h1 with h1 | ⟨b, off, rfl, h1⟩
      · simp [h1] at hlt
      · have d0 := (h1 k hlt).1
        have d1 := (h1 k hlt).2
        have i0 : (0 : Int) ≤ (k : Int) := by omega
        have i1 : (k : Int) < (l.length : Int) := by omega
        have HX : Hid (l.getD k (0, 0) = l[k]) := by show _ = _; rw [List.getD_eq_getElem?_getD, List.getElem?_eq_getElem hlt]; rfl
        generalize l.getD k (0, 0) = s at *
        obtain ⟨f, t⟩ := s
        simp only at d0 d1
        clear h1
        go_wp2_with fail
        refine (toAlarm f t _).mono ?_
        rintro x wq ⟨rfl, hBq⟩
        have hown2 := hown.later hBq
        have hB2 := hB.trans (hBq.mono (Nat.le_of_lt hown.lt.2))
        have hlen : (l.take k ++ List.replicate (l.length - k) ((0, 0) : Al)).length = l.length := by simp; omega
        obtain ⟨⟨c0, c1⟩, f0, f1⟩ := hown2.at (k := k) (by omega)
        have o2 := hown2.put k (by omega) f t
        have e : (l.take k ++ List.replicate (l.length - k) ((0, 0) : Al)).set k (f, t) = l.take (k + 1) ++ List.replicate (l.length - (k + 1)) (0, 0) := by
          have ek : l.length - k = l.length - (k + 1) + 1 := by omega
          have hlk : (l.take k).length = k := by simp; omega
          rw [List.set_append_right _ _ (by omega), hlk, Nat.sub_self, ek, List.replicate_succ, List.set_cons_zero, List.take_succ_eq_append_getElem hlt, HX.out, List.append_assoc]
          rfl
        rw [e] at o2
        have O2 : Hid (Own _ _ _ _ _) := o2
        clear hown hown2 hB hBq o2 e hlen d0 d1
        generalize ((l.take k ++ List.replicate (l.length - k) ((0, 0) : Al)).getD k (0, 0)).1 = y0 at *
        generalize ((l.take k ++ List.replicate (l.length - k) ((0, 0) : Al)).getD k (0, 0)).2 = y1 at *
        go_wp2_with fail
        go_roundw
        case rel => exact ⟨k + 1, by omega, by go_num, O2.out, (hB2.setCell (Nat.le_refl _) _).setCell (Nat.le_refl _) _⟩
        case measure => simp [intOf]; omega
    · have hkl : k = l.length := by omega
      subst hkl
      have e : l.take l.length ++ List.replicate (l.length - l.length) ((0, 0) : Al) = l := by simp
      rw [e] at hown
      have i1 : ¬ (l.length : Int) < (l.length : Int) := by omega
      go_wp2_with fail
      go_ret
      exact ⟨g, l.length, rfl, by rw [HG.out]; exact hown, by rw [HG.out]; exact hB⟩

/-- What a law is told of alarms that came in. -/
theorem alarms_of {w : World} {a : Option Addr} {len cap : Nat} (h : Shp.Shape.Holds w (.slice (.struct (.cons (.int .i64) (.cons (.int .i64) .nil)))) [.slice a len cap]) : ∃ l : List Al, len = l.length ∧ len ≤ maxLen ∧ Alarms w a l ∧ (a = none → cap = 0) := by
  simp only [Shp.Shape.Holds] at h
  rcases h with h | ⟨x, n, c, h, hl, hm, hx⟩
  · simp at h
    obtain ⟨rfl, rfl, rfl⟩ := h
    exact ⟨[], rfl, Nat.zero_le _, .inl rfl, fun _ => rfl⟩
  · simp at h
    obtain ⟨rfl, rfl, rfl⟩ := h
    have each : ∀ i, i < len → ∃ s : Al, w.cell? (x.add (i * 2)) = some (.int .i64 s.1) ∧ w.cell? (x.add (i * 2 + 1)) = some (.int .i64 s.2) := by
      intro i hi
      obtain ⟨cs', _, hc, h2⟩ := hx i hi
      simp only [Shp.Shapes.Holds, Shp.Shape.Holds] at h2
      obtain ⟨c1, c2, rfl, ⟨f, rfl, _⟩, c3, c4, rfl, ⟨t, rfl, _⟩, rfl⟩ := h2
      exact ⟨(f, t), hc 0 _ rfl, hc 1 _ rfl⟩
    obtain ⟨q, hq⟩ := Deep.choose_lt each
    refine ⟨(List.range len).map q, by simp, by omega, ?_, fun h => by cases h⟩
    by_cases h0 : len = 0
    · exact .inl (by simp [h0])
    · obtain ⟨b, off, spot⟩ := x
      have hspot : spot = none := by simpa [Addr.add] using World.cell?_spot (hq 0 (by omega)).1
      subst hspot
      refine .inr ⟨b, off, rfl, fun i hi => ?_⟩
      have hi' : i < len := by simpa using hi
      have e : ∀ j, (⟨b, off, none⟩ : Addr).add j = ⟨b, off + j, none⟩ := fun j => by unfold Addr.add; split <;> simp_all
      have hg : ((List.range len).map q).getD i (0, 0) = q i := by
        rw [List.getD_eq_getElem?_getD, List.getElem?_eq_getElem hi]; simp
      rw [hg]
      have hc := hq i hi'
      rw [e, e, ← Nat.add_assoc] at hc
      exact hc
theorem alarm_of {w : World} {cs : Array Value} (h : Shp.Shape.Holds w (.struct (.cons (.int .i64) (.cons (.int .i64) .nil))) cs.toList) : ∃ f t : Int, cs = #[.int .i64 f, .int .i64 t] := by
  simp only [Shp.Shape.Holds, Shp.Shapes.Holds] at h
  obtain ⟨c1, c2, e, ⟨f, rfl, _⟩, c3, c4, rfl, ⟨t, rfl, _⟩, rfl⟩ := h
  refine ⟨f, t, ?_⟩
  apply Array.ext'
  rw [e]
  rfl

end Go.Proofs.Ytdipdenekhffcaa.Alm
