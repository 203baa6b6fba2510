/- Contracts of the laws' own helpers over lists of numbers: toInt64S, eqInt64S of equal ones, markInt64S; lists of at most 2^21 numbers. -/
import Derived.Test.YtldghgadkncehaaLinN
namespace Go.Proofs.Ytldghgadkncehaa.Lin
open Go.RowKit RowG
set_option linter.unusedVariables false
set_option linter.unusedSimpArgs false

theorem valsI (l : List Int) : Roa.EI.vals l = l.map (Value.int .i64) := by
  induction l with
  | nil => rfl
  | cons x l ih => rw [El.vals_cons, ih]; rfl
theorem intAt {w : World} {B g c : Nat} {l : List Int} (h : Roa.EI.Own 2 w B (some ⟨g, 0, none⟩) c l) {k : Nat} (hk : k < l.length) : w.cell? ⟨g, k, none⟩ = some (.int .i64 (capAt l k)) ∧ w.frozen? ⟨g, k, none⟩ = false := by
  refine ⟨?_, World.ownsRow.frozenAt h k⟩
  have := capCell h.lies hk
  rwa [Nat.zero_add] at this
theorem intPut {w : World} {B g c : Nat} {l : List Int} (h : Roa.EI.Own 2 w B (some ⟨g, 0, none⟩) c l) (k : Nat) (x : Int) : Roa.EI.Own 2 (w.setCell ⟨g, k, none⟩ (.int .i64 x)) B (some ⟨g, 0, none⟩) c (l.set k x) := by
  have h1 := (World.ownsRow.stored h k (.int .i64 x)).1
  unfold El.Own
  rw [List.length_set, valsI, List.map_set, ← valsI]
  exact h1

set_option maxRecDepth 10000 in
set_option maxHeartbeats 2000000 in
theorem toInts (a : Option Addr) (n cap : Nat) (l : List Int) (w : World) (hn : n = l.length) (h : Roa.EI.Lies w a l) (hl : l.length ≤ 2097152) :
    Calls Try.prog 12 #[.slice a n cap] w fun x w' => ∃ g c, x = .returned (.slice (some ⟨g, 0, none⟩) l.length c) ∧ Roa.EI.Own 2 w' w.heap.size (some ⟨g, 0, none⟩) c l ∧ Below w.heap.size w w' := by
  subst hn
  obtain ⟨i, hi, hz0, hz1, hz2⟩ := info_parts Roa.infoInt
  have hby : i.bytes * l.length ≤ 281474976710656 := by rw [hz2]; omega
  have hmx : l.length ≤ maxLen := by unfold maxLen; omega
  go_enter Try.func12, Try.ntmps12
  go_wp2_with (at_make; refine wpList_make_full _ (by rfl) _ _ 46 (by rfl) w.heap.size 2 i (.int .i64 0) 1 Try.underlying46 hi hz0 hz1 .i64 .i64 _ _ l.length (by rfl) (by rfl) rfl rfl hby hmx (Nat.le_refl _) ?_; intro w1 hown hgrow)
  have o1 : Roa.EI.Own 2 w1 w.heap.size (some ⟨w.heap.size, 0, none⟩) l.length (List.replicate l.length 0) := by
    unfold El.Own
    have e : (madeCells #[Value.int .i64 0] (l.length * 1)).toList = Roa.EI.vals (List.replicate l.length 0) := by
      rw [valsI, List.map_replicate]
      apply List.ext_getElem?
      intro i
      by_cases hi : i < l.length
      · simp [madeCells, hi, Nat.mod_one]
      · simp [madeCells, hi]
    rw [List.length_replicate, ← e]
    exact hown
  have b1 : Below w.heap.size w w1 := (Below.refl _ _).grown hgrow (Nat.le_refl _) (fun _ h => by cases h)
  clear hown hgrow
  generalize hG : w.heap.size = g at *
  have HG : Hid _ := hG
  clear hG
  go_wp2_with fail
  go_loopw [4] (fun iv wr => ∃ k : Nat, k ≤ l.length ∧ iv = .int .i64 k ∧ Roa.EI.Own 2 wr g (some ⟨g, 0, none⟩) l.length (l.take k ++ List.replicate (l.length - k) 0) ∧ Below g w wr) (fun iv _ => l.length - (intOf iv).toNat)
  case atStart => exact ⟨0, Nat.zero_le _, rfl, by simpa using o1, b1⟩
  case round =>
    clear o1 b1
    obtain ⟨k, hk, rfl, hown, hB⟩ := hrel
    by_cases hlt : k < l.length
    · have h1 := h.later (HG.out ▸ hB)
      obtain ⟨b, off, rfl⟩ : ∃ b off, a = some ⟨b, off, none⟩ := by
        rcases h1 with hs | ⟨b, off, rfl, _⟩
        · simp [hs] at hlt
        · exact ⟨b, off, rfl⟩
      have d0 := capCell h1 hlt
      have i0 : (0 : Int) ≤ (k : Int) := by omega
      have i1 : (k : Int) < (l.length : Int) := by omega
      obtain ⟨c0, f0⟩ := intAt hown (k := k) (by simp; omega)
      have o2 := intPut hown k (capAt l k)
      have e : (l.take k ++ List.replicate (l.length - k) 0).set k (capAt l k) = l.take (k + 1) ++ List.replicate (l.length - (k + 1)) 0 := by
        have ek : l.length - k = l.length - (k + 1) + 1 := by omega
        have hlk : (l.take k).length = k := by simp; omega
        have hx : capAt l k = l[k] := by simp [capAt, hlt]
        rw [List.set_append_right _ _ (by omega), hlk, Nat.sub_self, ek, List.replicate_succ, List.set_cons_zero, List.take_succ_eq_append_getElem hlt, hx, List.append_assoc]
        rfl
      rw [e] at o2
      have b2 := hB.setCell (p := ⟨g, k, none⟩) (Nat.le_refl _) (.int .i64 (capAt l k))
      clear e hown h1
      generalize capAt (l.take k ++ List.replicate (l.length - k) 0) k = y0 at *
      go_wp2_with fail
      go_roundw
      case rel => exact ⟨k + 1, by omega, by go_num, o2, b2⟩
      case measure => simp [intOf]; omega
    · have hkl : k = l.length := by omega
      subst hkl
      have e : l.take l.length ++ List.replicate (l.length - l.length) 0 = l := by simp
      rw [e] at hown
      have i1 : ¬ (l.length : Int) < (l.length : Int) := by omega
      go_wp2_with fail
      go_ret
      exact ⟨g, l.length, rfl, by rw [HG.out]; exact hown, by rw [HG.out]; exact hB⟩

set_option maxHeartbeats 2000000 in
theorem eqInts (B B' g g' c c' n n' : Nat) (l : List Int) (w : World) (hn : n = l.length) (hn' : n' = l.length) (h : Roa.EI.Own 2 w B (some ⟨g, 0, none⟩) c l) (h' : Roa.EI.Own 2 w B' (some ⟨g', 0, none⟩) c' l) (hl : l.length ≤ 4194304) :
    Calls Try.prog 14 #[.slice (some ⟨g, 0, none⟩) n c, .slice (some ⟨g', 0, none⟩) n' c'] w fun x w' => x = .returned (.bool true) ∧ Below w.heap.size w w' := by
  subst hn
  subst hn'
  have hmix := Roa.mix
  go_enter Try.func14, Try.ntmps14
  go_wp2_with fail
  go_loopw [5] (fun iv wr => ∃ k : Nat, k ≤ l.length ∧ iv = .int .i64 k ∧ Below w.heap.size w wr) (fun iv _ => l.length - (intOf iv).toNat)
  case atStart => exact ⟨0, Nat.zero_le _, rfl, Below.refl _ _⟩
  case round =>
    obtain ⟨k, hk, rfl, hB⟩ := hrel
    by_cases hlt : k < l.length
    · have d0 := Draw.Later.cell (intAt (h.later hB) hlt).1
      have d1 := Draw.Later.cell (intAt (h'.later hB) hlt).1
      have i0 : (0 : Int) ≤ (k : Int) := by omega
      have i1 : (k : Int) < (l.length : Int) := by omega
      generalize capAt l k = s at *
      go_wp2_with fail
      refine Draw.wp_region_later hmix (by kernel_rfl) ?_
      repeat (go_big_quiet_step (fail))
      refine wpQuiet_nil ?_
      intro _ hw'
      obtain ⟨⟨wq, hBq⟩, hw''⟩ := hw'
      subst hw''
      go_wp2_with fail
      go_roundw
      case rel => exact ⟨k + 1, by omega, by go_num, hB.trans (hBq.mono hB.size)⟩
      case measure => simp [intOf]; omega
    · have i1 : ¬ (k : Int) < (l.length : Int) := by omega
      go_wp2_with fail
      go_ret
      exact ⟨rfl, hB⟩

set_option maxHeartbeats 2000000 in
theorem markInts (B g n cap : Nat) (l : List Int) (w : World) (hn : n = l.length) (h : Roa.EI.Own 2 w B (some ⟨g, 0, none⟩) cap l) (hl : l.length ≤ 4194304) :
    Calls Try.prog 15 #[.slice (some ⟨g, 0, none⟩) n cap, .int .i64 1] w fun x w' => x = .returned (.int .i64 (1 + (l.length : Int))) ∧ Draw.Kept g w w' := by
  subst hn
  go_enter Try.func15, Try.ntmps15
  go_wp2_with fail
  go_loopw [1, 5] (fun qv iv wr => ∃ (k : Nat) (L : List Int), k ≤ l.length ∧ L.length = l.length ∧ iv = .int .i64 k ∧ qv = .int .i64 (1 + (k : Int)) ∧ Roa.EI.Own 2 wr B (some ⟨g, 0, none⟩) cap L ∧ Draw.Kept g w wr) (fun _ iv _ => l.length - (intOf iv).toNat)
  case atStart => exact ⟨0, l, Nat.zero_le _, rfl, rfl, by simp, h, Draw.Kept.refl _ _⟩
  case round =>
    clear h
    obtain ⟨k, L, hk, hL, rfl, rfl, hown, hkept⟩ := hrel
    by_cases hlt : k < l.length
    · obtain ⟨c0, f0⟩ := intAt hown (k := k) (by omega)
      have o2 := intPut hown k (1 + (k : Int))
      have i0 : (0 : Int) ≤ (k : Int) := by omega
      have i1 : (k : Int) < (l.length : Int) := by omega
      have O2 : Hid (Roa.EI.Own _ _ _ _ _ _) := o2
      have HL : Hid _ := hL
      clear hown o2 hL
      generalize capAt L k = y0 at *
      go_wp2_with fail
      go_roundw
      case rel => exact ⟨k + 1, L.set k (1 + (k : Int)), by omega, by rw [List.length_set]; exact HL.out, by go_num, by go_num, O2.out, hkept.setCell (.inl rfl) _⟩
      case measure => simp [intOf]; omega
    · have hkl : k = l.length := by omega
      subst hkl
      have i1 : ¬ (l.length : Int) < (l.length : Int) := by omega
      clear hown hL
      go_wp2_with fail
      go_ret
      exact ⟨rfl, hkept⟩

/-- What a law is told of numbers that came in. -/
theorem ints_row {w : World} {a : Option Addr} {len cap : Nat} {zs : List Int} (h : (a = none ∧ len = 0 ∧ cap = 0 ∧ zs = []) ∨ ∃ x, a = some x ∧ len ≤ cap ∧ cap ≤ maxLen ∧ zs.length = cap ∧ (∀ i, i < zs.length → w.cell? (x.add i) = some (.int .i64 (zs.getD i 0))) ∧ ∀ n ∈ zs, (Lit.int .i64 n).wf = true) :
    ∃ l : List Int, len = l.length ∧ len ≤ maxLen ∧ Roa.EI.Lies w a l ∧ (a = none → cap = 0) := by
  rcases h with ⟨rfl, rfl, rfl, rfl⟩ | ⟨x, rfl, h1, h2, h3, h4, _⟩
  · exact ⟨[], rfl, Nat.zero_le _, .inl rfl, fun _ => rfl⟩
  · refine ⟨zs.take len, by simp; omega, by omega, ?_, fun h => by cases h⟩
    by_cases h0 : len = 0
    · exact .inl (by simp [h0])
    · obtain ⟨b, off, spot⟩ := x
      have hspot : spot = none := by simpa [Addr.add] using World.cell?_spot (h4 0 (by omega))
      subst hspot
      refine .inr ⟨b, off, rfl, fun j u hu => ?_⟩
      rw [valsI] at hu
      have hj : j < ((zs.take len).map (Value.int .i64)).length := (List.getElem?_eq_some_iff.1 hu).1
      simp at hj
      have := h4 j (by omega)
      rw [add_lit] at this
      rw [this, ← hu]
      have hj1 : j < len := by omega
      have hj2 : j < zs.length := by omega
      simp [List.getElem?_take, hj1, hj2]

end Go.Proofs.Ytldghgadkncehaa.Lin
