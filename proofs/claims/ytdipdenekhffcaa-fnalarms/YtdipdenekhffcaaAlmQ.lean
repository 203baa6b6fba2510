/- Contract of the program's StopAlarms (chapter 8), with slices.IndexFunc and slices.DeleteFunc; lists of at most 2^21 alarms. -/
import Derived.Test.YtdipdenekhffcaaAlmP
import Derived.Lib.SliceRun
namespace Go.Proofs.Ytdipdenekhffcaa.Alm
open Go.RowKit RowG
set_option linter.unusedVariables false
set_option linter.unusedSimpArgs false

set_option maxHeartbeats 1000000 in
theorem stop1 (f t who : Int) (kw : Nat) (w : World) (hk : w.cell? ⟨kw, 0, none⟩ = some (.int .i64 who)) : Calls Try.prog 47 #[.agg #[.int .i64 f, .int .i64 t], .pointer (some ⟨kw, 0, none⟩)] w fun x w' => x = .returned (.bool (t == who)) ∧ Below w.heap.size w w' := by
  have B0 : ∀ {o : Obj}, Below w.heap.size w (w.alloc o) := fun {o} => (Below.refl _ _).alloc (Nat.le_refl _) o
  have hk' := alloc_cell hk (.cells #[.int .i64 f, .int .i64 t] 26)
  go_enter Try.func47, Try.ntmps47
  go_wp2_with fail
  go_ret
  exact ⟨Num.ret_bool (by simp), B0⟩

/-- The first of who. -/
def firstOf (who : Int) : List Al → Option Nat
  | [] => none
  | x :: l => if x.2 = who then some 0 else (firstOf who l).map (· + 1)
theorem first_none {who : Int} : ∀ {l : List Al}, (∀ i, i < l.length → (at' l i).2 ≠ who) → l.filter (fun a => decide (a.2 ≠ who)) = l
  | [], _ => rfl
  | x :: l, h => by
    have h0 : x.2 ≠ who := h 0 (by simp)
    have ih := first_none (who := who) (l := l) fun i hi => h (i + 1) (by simpa using hi)
    simp only [List.filter, h0, ne_eq, not_false_eq_true, decide_true]
    rw [show List.filter (fun a => decide (¬a.2 = who)) l = l from ih]
theorem first_take {who : Int} {l : List Al} {k : Nat} (h : ∀ i, i < k → (at' l i).2 ≠ who) (hk : k ≤ l.length) : (l.take k).filter (fun a => decide (a.2 ≠ who)) = l.take k := by
  refine first_none fun i hi => ?_
  rw [List.length_take] at hi
  have e : at' (l.take k) i = at' l i := by unfold at'; rw [List.getD_eq_getElem?_getD, List.getD_eq_getElem?_getD, List.getElem?_take_of_lt (by omega)]
  rw [e]
  exact h i (by omega)

set_option maxHeartbeats 2000000 in
theorem indexFunc (B g c n : Nat) (l : List Al) (who : Int) (kw : Nat) (w : World) (hn : n = l.length) (ho : E.Own 26 w B (some ⟨g, 0, none⟩) c l) (hl : l.length ≤ 2097152) (hk : w.cell? ⟨kw, 0, none⟩ = some (.int .i64 who)) :
    Calls Try.prog 58 #[.slice (some ⟨g, 0, none⟩) n c, .func (.func 47) #[] #[.pointer (some ⟨kw, 0, none⟩)]] w fun x w' => ∃ r : Int, x = .returned (.int .i64 r) ∧ Below w.heap.size w w' ∧ ((r = -1 ∧ ∀ i, i < l.length → (at' l i).2 ≠ who) ∨ ∃ k : Nat, r = k ∧ k < l.length ∧ (at' l k).2 = who ∧ ∀ i, i < k → (at' l i).2 ≠ who) := by
  subst hn
  go_enter Try.func58, Try.ntmps58
  go_wp2_with fail
  go_loopw [5, 8] (fun v iv wr => ∃ k : Nat, k ≤ l.length ∧ iv = .int .i64 k ∧ Hid (∀ i, i < k → (at' l i).2 ≠ who) ∧ Below w.heap.size w wr) (fun _ iv _ => l.length - (intOf iv).toNat)
  case atStart => exact ⟨0, Nat.zero_le _, rfl, fun i hi => absurd hi (by omega), Below.refl _ _⟩
  case round =>
    obtain ⟨k, hk0, rfl, hlo, hB⟩ := hrel
    have hkw : wr.cell? ⟨kw, 0, none⟩ = some (.int .i64 who) := (hB.cell (p := ⟨kw, 0, none⟩) (Draw.lt_of_cell hk)).trans hk
    by_cases hlt : k < l.length
    · have i0 : (0 : Int) ≤ (k : Int) := by omega
      have i1 : (k : Int) < (l.length : Int) := by omega
      obtain ⟨⟨d0, d1⟩, _, _⟩ := (el_own (ho.later hB)).at hlt
      rw [getD_at] at d0 d1
      have HX : Hid (∀ v, (at' l k).2 = v → v = who → (at' l k).2 = who) := fun v h1 h2 => h1.trans h2
      have HY : Hid (at' l k = at' l k) := rfl
      generalize hs : at' l k = s at d0 d1
      obtain ⟨f, t⟩ := s
      have HS : Hid (at' l k = (f, t)) := hs
      clear hs HX HY
      simp only at d0 d1
      go_wp2_with fail
      refine (stop1 f t who kw _ hkw).mono ?_
      rintro x w1 ⟨rfl, hB1⟩
      have b1 := hB.trans (hB1.mono hB.size)
      clear hB hB1 hkw d0 d1
      by_cases e : t = who
      · have e' : (t == who) = true := by simpa using e
        have HF : Hid ((at' l k).2 = who) := by show _ = _; rw [HS.out]; exact e
        clear HS
        go_wp2_with fail
        go_ret
        exact ⟨k, rfl, b1, .inr ⟨k, rfl, hlt, HF.out, hlo.out⟩⟩
      · have e' : (t == who) = false := by simpa using e
        have HF : Hid (∀ i, i < k + 1 → (at' l i).2 ≠ who) := fun i hi => by
          by_cases q : i = k
          · rw [q, HS.out]; exact e
          · exact hlo.out i (by omega)
        clear HS hlo
        go_wp2_with fail
        go_roundw
        case rel => exact ⟨k + 1, by omega, by go_num, HF, b1⟩
        case measure => simp [intOf]; omega
    · have i1 : ¬ (k : Int) < (l.length : Int) := by omega
      have HF : Hid (∀ i, i < l.length → (at' l i).2 ≠ who) := fun i hi => hlo.out i (by omega)
      clear hlo
      go_wp2_with fail
      go_ret
      exact ⟨-1, rfl, hB, .inl ⟨rfl, HF.out⟩⟩

/-- What a store behind the first i elements leaves of these. -/
theorem own_behind {w : World} {B g c j : Nat} {l : List Al} (ho : E.Own 26 w B (some ⟨g, 0, none⟩) c l) (hj : l.length * 2 ≤ j) (u : Value) : E.Own 26 (w.setCell ⟨g, j, none⟩ u) B (some ⟨g, 0, none⟩) c l := by
  have h := (World.ownsRow.stored ho j u).1
  rw [List.set_eq_of_length_le (by rw [E.vals_len]; exact hj)] at h
  exact h
theorem own_cells {B g c : Nat} {l : List Al} : ∀ (vs : List Value) (j : Nat) (w : World), E.Own 26 w B (some ⟨g, 0, none⟩) c l → l.length * 2 ≤ j → E.Own 26 (w.setCells g j vs) B (some ⟨g, 0, none⟩) c l
  | [], _, _, h, _ => h
  | u :: vs, j, w, h, hj => own_cells vs (j + 1) _ (own_behind h hj u) (by omega)
theorem kept_cells {g : Nat} {w0 : World} : ∀ (vs : List Value) (j : Nat) (w : World), Draw.Kept g w0 w → Draw.Kept g w0 (w.setCells g j vs)
  | [], _, _, h => h
  | u :: vs, j, w, h => kept_cells vs (j + 1) _ (h.setCell (.inl rfl) u)
theorem zeroAlarm (w : World) : (zeroValue 26).run Try.prog w = .ok (.agg #[.int .i64 0, .int .i64 0]) w := by
  obtain ⟨i, hi, h0, _, _⟩ := info_parts infoAlarm
  simp [zeroValue, typeInfo, hi, h0]
theorem zeros_one (n : Nat) : ∀ v ∈ (Builtin.zeroCells #[Value.int .i64 0, .int .i64 0] n).toList, v.oneCell' = true := by
  intro v hv
  simp [Builtin.zeroCells] at hv
  obtain ⟨i, _, rfl⟩ := hv
  rcases Nat.mod_two_eq_zero_or_one i with m | m <;> simp [m] <;> rfl
theorem zeros_len (n : Nat) : (Builtin.zeroCells #[Value.int .i64 0, .int .i64 0] n).toList.length = n * 2 := by simp [Builtin.zeroCells]
theorem own_isSome {w : World} {B g c : Nat} {l : List Al} (ho : E.Own 26 w B (some ⟨g, 0, none⟩) c l) {j : Nat} (hj : j < l.length * 2) : (w.cell? ⟨g, j, none⟩).isSome = true := by
  rw [World.ownsRow.cellAt ho j hj]
  have : j < (E.vals l).length := by rw [E.vals_len]; exact hj
  simp [this]
theorem run_clear {w : World} {B g c : Nat} {l : List Al} (ho : E.Own 26 w B (some ⟨g, 0, none⟩) c l) (i n c' : Nat) (ty : TypeId) (hn : 0 < n) (hin : i + n = l.length) :
    (Builtin.clear_ #[24] ty #[.slice (some ⟨g, i * 2, none⟩) n c']).run Try.prog w = .ok (.tuple #[]) (w.setCells g (i * 2) (Builtin.zeroCells #[Value.int .i64 0, .int .i64 0] n).toList) := by
  have hst := run_storeCells_cells (P := Try.prog) g (i * 2) (Builtin.zeroCells #[Value.int .i64 0, .int .i64 0] n).toList 0 w (fun j hj => own_isSome ho (by rw [zeros_len] at hj; omega)) (fun j hj => ho.frozen _) (zeros_one n)
  simp only [Nat.add_zero] at hst
  obtain ⟨m, rfl⟩ : ∃ m, n = m + 1 := ⟨n - 1, by omega⟩
  have hz : (Value.agg #[.int .i64 0, .int .i64 0]).cells = #[Value.int .i64 0, .int .i64 0] := rfl
  simp [Builtin.clear_, run_underlying Try.underlying24, zeroAlarm, hz, hst]

end Go.Proofs.Ytdipdenekhffcaa.Alm
