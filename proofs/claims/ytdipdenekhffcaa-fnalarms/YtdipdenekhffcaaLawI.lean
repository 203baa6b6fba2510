/- Contracts of the laws' own helpers over lists of numbers (eqInt64S of equal ones, markInt64S, heldInt64S); lists of at most 2^22 numbers. -/
import Derived.Test.YtdipdenekhffcaaAlmC
import Derived.Test.YtdipdenekhffcaaLawA
namespace Go.Proofs.Ytdipdenekhffcaa.Alm
open Go.RowKit RowG
set_option linter.unusedVariables false
set_option linter.unusedSimpArgs false

theorem valsI (l : List Int) : EI.vals l = l.map (Value.int .i64) := by
  induction l with
  | nil => rfl
  | cons x l ih => rw [El.vals_cons, ih]; rfl
theorem OwnI.at {w : World} {B g c : Nat} {l : List Int} (h : OwnI w B g c l) {k : Nat} (hk : k < l.length) : w.cell? ⟨g, k, none⟩ = some (.int .i64 (l.getD k 0)) ∧ w.frozen? ⟨g, k, none⟩ = false := by
  refine ⟨(World.ownsRow.cellAt h k (by show k < l.length * 1; omega)).trans ?_, World.ownsRow.frozenAt h k⟩
  rw [valsI]
  simp [hk]
theorem OwnI.put {w : World} {B g c : Nat} {l : List Int} (h : OwnI w B g c l) (k : Nat) (x : Int) : OwnI (w.setCell ⟨g, k, none⟩ (.int .i64 x)) B g c (l.set k x) := by
  have h1 := (World.ownsRow.stored h k (.int .i64 x)).1
  unfold OwnI El.Own
  rw [List.length_set, valsI, List.map_set, ← valsI]
  exact h1
theorem OwnI.later {w w' : World} {B g c : Nat} {l : List Int} (h : OwnI w B g c l) (hb : Below w.heap.size w w') : OwnI w' B g c l := El.Own.later (E := EI) h hb
theorem OwnI.lt {w : World} {B g c : Nat} {l : List Int} (h : OwnI w B g c l) : B ≤ g ∧ g < w.heap.size := El.Own.lt (E := EI) h _ rfl
theorem OwnI.other {w w' : World} {k B g c : Nat} {l : List Int} (h : OwnI w B g c l) (q : Draw.Kept k w w') (hc : g ≠ k) : OwnI w' B g c l := El.Own.kept (E := EI) h q (fun x hx => by cases hx; exact hc)
theorem own_ownI {w : World} {B B' g g' c c' : Nat} {l : List Al} {l' : List Int} (o : Own w B g c l) (o' : OwnI w B' g' c' l') : g ≠ g' := own_twoS (E := E) (E' := EI) tne' o o'

set_option maxHeartbeats 2000000 in
theorem eqInts (B B' g g' c c' n n' : Nat) (l : List Int) (w : World) (hn : n = l.length) (hn' : n' = l.length) (h : OwnI w B g c l) (h' : OwnI w B' g' c' l) (hl : l.length ≤ 4194304) :
    Calls Try.prog 28 #[.slice (some ⟨g, 0, none⟩) n c, .slice (some ⟨g', 0, none⟩) n' c'] w fun x w' => x = .returned (.bool true) ∧ Below w.heap.size w w' := by
  subst hn
  subst hn'
  have hmix := mix
  go_enter Try.func28, Try.ntmps28
  go_wp2_with fail
  go_loopw [5] (fun iv wr => ∃ k : Nat, k ≤ l.length ∧ iv = .int .i64 k ∧ Below w.heap.size w wr) (fun iv _ => l.length - (intOf iv).toNat)
  case atStart => exact ⟨0, Nat.zero_le _, rfl, Below.refl _ _⟩
  case round =>
    obtain ⟨k, hk, rfl, hB⟩ := hrel
    by_cases hlt : k < l.length
    · have d0 := Draw.Later.cell ((h.later hB).at hlt).1
      have d1 := Draw.Later.cell ((h'.later hB).at hlt).1
      have i0 : (0 : Int) ≤ (k : Int) := by omega
      have i1 : (k : Int) < (l.length : Int) := by omega
      generalize l.getD k 0 = s at *
      go_wp2_with fail
      refine Draw.wp_region_later hmix (by kernel_rfl) ?_
      repeat (go_big_quiet_step (fail))
      refine wpQuiet_nil ?_
      intro _ hw'
      obtain ⟨⟨wq, hBq⟩, hw''⟩ := hw'
      subst hw''
      go_wp2_with fail
      go_roundw
      case rel => exact ⟨k + 1, by omega, by go_num, hB.trans (hBq.mono hB.size)⟩
      case measure => simp [intOf]; omega
    · have i1 : ¬ (k : Int) < (l.length : Int) := by omega
      go_wp2_with fail
      go_ret
      exact ⟨rfl, hB⟩

/-- The marks that are written into a list of n numbers, from k on. -/
def marksI (k : Int) : Nat → List Int
  | 0 => []
  | n + 1 => marksI k n ++ [k + (n : Int)]
theorem marksI_len (k : Int) (n : Nat) : (marksI k n).length = n := by
  induction n with
  | zero => rfl
  | succ n ih => simp [marksI, ih]
theorem marksI_at (k : Int) : ∀ (n i : Nat), i < n → (marksI k n).getD i 0 = k + (i : Int)
  | 0, i, h => by omega
  | n + 1, i, h => by
    rw [marksI, List.getD_eq_getElem?_getD]
    by_cases e : i = n
    · subst e
      rw [List.getElem?_append_right (by rw [marksI_len]; exact Nat.le_refl _), marksI_len]
      simp
    · rw [List.getElem?_append_left (by rw [marksI_len]; omega), ← List.getD_eq_getElem?_getD]
      exact marksI_at k n i (by omega)

set_option maxHeartbeats 2000000 in
theorem markInts (B g n cap : Nat) (l : List Int) (q : Int) (w : World) (hn : n = l.length) (h : OwnI w B g cap l) (hl : l.length ≤ 4194304) (q0 : 0 ≤ q) (q1 : q ≤ 100000000) :
    Calls Try.prog 29 #[.slice (some ⟨g, 0, none⟩) n cap, .int .i64 q] w fun x w' => x = .returned (.int .i64 (q + (l.length : Int))) ∧ OwnI w' B g cap (marksI q l.length) ∧ Draw.Kept g w w' := by
  subst hn
  go_enter Try.func29, Try.ntmps29
  go_wp2_with fail
  go_loopw [1, 5] (fun qv iv wr => ∃ (k : Nat), k ≤ l.length ∧ iv = .int .i64 k ∧ qv = .int .i64 (q + (k : Int)) ∧ OwnI wr B g cap (marksI q k ++ l.drop k) ∧ Draw.Kept g w wr) (fun _ iv _ => l.length - (intOf iv).toNat)
  case atStart => exact ⟨0, Nat.zero_le _, rfl, by simp, h, Draw.Kept.refl _ _⟩
  case round =>
    clear h
    obtain ⟨k, hk, rfl, rfl, hown, hkept⟩ := hrel
    by_cases hlt : k < l.length
    · have hlen : (marksI q k ++ l.drop k).length = l.length := by simp [marksI_len]; omega
      obtain ⟨c0, f0⟩ := hown.at (k := k) (by omega)
      have o2 := hown.put k (q + (k : Int))
      have e : (marksI q k ++ l.drop k).set k (q + (k : Int)) = marksI q (k + 1) ++ l.drop (k + 1) := by
        rw [List.set_append_right _ _ (by rw [marksI_len]; exact Nat.le_refl _), marksI_len, Nat.sub_self, List.drop_eq_getElem_cons hlt, List.set_cons_zero, marksI]
        simp
      rw [e] at o2
      have O2 : Hid (OwnI _ _ _ _ _) := o2
      have i0 : (0 : Int) ≤ (k : Int) := by omega
      have i1 : (k : Int) < (l.length : Int) := by omega
      clear hown o2 e hlen
      generalize (marksI q k ++ l.drop k).getD k 0 = y0 at *
      go_wp2_with fail
      go_roundw
      case rel => exact ⟨k + 1, by omega, by go_num, by congr 1; omega, O2.out, hkept.setCell (.inl rfl) _⟩
      case measure => simp [intOf]; omega
    · have hkl : k = l.length := by omega
      subst hkl
      have e : marksI q l.length ++ l.drop l.length = marksI q l.length := by simp
      rw [e] at hown
      have i1 : ¬ (l.length : Int) < (l.length : Int) := by omega
      go_wp2_with fail
      go_ret
      exact ⟨rfl, hown, hkept⟩

set_option maxHeartbeats 2000000 in
theorem heldInts (B g n cap m : Nat) (q : Int) (w : World) (hn : n = m) (h : OwnI w B g cap (marksI q m)) (hl : m ≤ 4194304) (q0 : 0 ≤ q) (q1 : q ≤ 100000000) :
    Calls Try.prog 30 #[.slice (some ⟨g, 0, none⟩) n cap, .int .i64 q] w fun x w' => x = .returned (.int .i64 (q + (m : Int))) ∧ w = w' := by
  subst hn
  go_enter Try.func30, Try.ntmps30
  go_wp2_with fail
  go_loop [1, 5] (fun qv iv => ∃ (k : Nat), k ≤ n ∧ iv = .int .i64 k ∧ qv = .int .i64 (q + (k : Int))) (fun _ iv => n - (intOf iv).toNat)
  case atStart => exact ⟨0, Nat.zero_le _, rfl, by simp⟩
  case round =>
    obtain ⟨k, hk, rfl, rfl⟩ := hrel
    by_cases hlt : k < n
    · have hm := marksI_at q n k hlt
      have d0 := (h.at (k := k) (by rw [marksI_len]; exact hlt)).1
      rw [hm] at d0
      have i0 : (0 : Int) ≤ (k : Int) := by omega
      have i1 : (k : Int) < (n : Int) := by omega
      clear h hm
      go_wp2_with fail
      go_round
      case rel => exact ⟨k + 1, by omega, by go_num, by congr 1; omega⟩
      case measure => simp [intOf]; omega
    · have hkl : k = n := by omega
      subst hkl
      have i1 : ¬ (k : Int) < (k : Int) := by omega
      go_wp2_with fail
      go_ret
      exact ⟨rfl, rfl⟩

end Go.Proofs.Ytdipdenekhffcaa.Alm
