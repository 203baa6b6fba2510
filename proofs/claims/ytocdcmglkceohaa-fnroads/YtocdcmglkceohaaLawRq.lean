/- Contracts of the laws' own helpers over lists of numbers (eqInt64S of equal ones, markInt64S, heldInt64S, likeInts), likeRoads of equal ones; lists of at most 2^22. -/
import Derived.Test.YtocdcmglkceohaaLawRp
import Derived.Test.YtocdcmglkceohaaRoaT
namespace Go.Proofs.Ytocdcmglkceohaa.Roa
open Go.RowKit RowG
set_option linter.unusedVariables false
set_option linter.unusedSimpArgs false

theorem Own.later {w w' : World} {B g c : Nat} {l : List Rd} (h : Own w B g c l) (hb : Below w.heap.size w w') : Own w' B g c l := El.Own.later (E := E) h hb
theorem Own.lt {w : World} {B g c : Nat} {l : List Rd} (h : Own w B g c l) : B ≤ g ∧ g < w.heap.size := El.Own.lt (E := E) h _ rfl
theorem Own.other {w w' : World} {k B g c : Nat} {l : List Rd} (h : Own w B g c l) (q : Draw.Kept k w w') (hc : g ≠ k) : Own w' B g c l := El.Own.kept (E := E) h q (fun x hx => by cases hx; exact hc)
theorem Own.lies {w : World} {B g c : Nat} {l : List Rd} (h : Own w B g c l) : E.Lies w (some ⟨g, 0, none⟩) l := El.Own.lies (E := E) h
theorem own_ownI {w : World} {B B' g g' c c' : Nat} {l : List Rd} {l' : List Int} (o : Own w B g c l) (o' : OwnI w B' g' c' l') : g ≠ g' := own_twoS (E := E) (E' := EI) tne' o o'
theorem turnL_len (l : List Rd) (r : Int) (o : Bool) : (turnL l r o).length ≤ l.length := by
  unfold turnL
  split
  · split
    · rw [List.length_set]; exact Nat.le_refl _
    · exact Nat.le_refl _
  · simp
theorem usedL_len (l : List Rd) (r : Int) (o : Bool) : (usedL l r o).length ≤ l.length := by
  unfold usedL
  split
  · split
    · rw [List.length_set]; exact Nat.le_refl _
    · exact Nat.le_refl _
  · simp

set_option maxHeartbeats 2000000 in
theorem eqInts (B B' g g' c c' n n' : Nat) (l : List Int) (w : World) (hn : n = l.length) (hn' : n' = l.length) (h : OwnI w B g c l) (h' : OwnI w B' g' c' l) (hl : l.length ≤ 4194304) :
    Calls Try.prog 29 #[.slice (some ⟨g, 0, none⟩) n c, .slice (some ⟨g', 0, none⟩) n' c'] w fun x w' => x = .returned (.bool true) ∧ Below w.heap.size w w' := by
  subst hn
  subst hn'
  have hmix := mix
  go_enter Try.func29, Try.ntmps29
  go_wp2_with fail
  go_loopw [5] (fun iv wr => ∃ k : Nat, k ≤ l.length ∧ iv = .int .i64 k ∧ Below w.heap.size w wr) (fun iv _ => l.length - (intOf iv).toNat)
  case atStart => exact ⟨0, Nat.zero_le _, rfl, Below.refl _ _⟩
  case round =>
    obtain ⟨k, hk, rfl, hB⟩ := hrel
    by_cases hlt : k < l.length
    · have d0 := Draw.Later.cell ((h.later hB).at hlt).1
      have d1 := Draw.Later.cell ((h'.later hB).at hlt).1
      have i0 : (0 : Int) ≤ (k : Int) := by omega
      have i1 : (k : Int) < (l.length : Int) := by omega
      generalize l.getD k 0 = s at *
      go_wp2_with fail
      refine Draw.wp_region_later hmix (by kernel_rfl) ?_
      repeat (go_big_quiet_step (fail))
      refine wpQuiet_nil ?_
      intro _ hw'
      obtain ⟨⟨wq, hBq⟩, hw''⟩ := hw'
      subst hw''
      go_wp2_with fail
      go_roundw
      case rel => exact ⟨k + 1, by omega, by go_num, hB.trans (hBq.mono hB.size)⟩
      case measure => simp [intOf]; omega
    · have i1 : ¬ (k : Int) < (l.length : Int) := by omega
      go_wp2_with fail
      go_ret
      exact ⟨rfl, hB⟩

/-- The marks that are written into a list of n numbers, from k on. -/
def marksI (k : Int) : Nat → List Int
  | 0 => []
  | n + 1 => marksI k n ++ [k + (n : Int)]
theorem marksI_len (k : Int) (n : Nat) : (marksI k n).length = n := by
  induction n with
  | zero => rfl
  | succ n ih => simp [marksI, ih]
theorem marksI_at (k : Int) : ∀ (n i : Nat), i < n → (marksI k n).getD i 0 = k + (i : Int)
  | 0, i, h => by omega
  | n + 1, i, h => by
    rw [marksI, List.getD_eq_getElem?_getD]
    by_cases e : i = n
    · subst e
      rw [List.getElem?_append_right (by rw [marksI_len]; exact Nat.le_refl _), marksI_len]
      simp
    · rw [List.getElem?_append_left (by rw [marksI_len]; omega), ← List.getD_eq_getElem?_getD]
      exact marksI_at k n i (by omega)

set_option maxHeartbeats 2000000 in
theorem markInts (B g n cap : Nat) (l : List Int) (q : Int) (w : World) (hn : n = l.length) (h : OwnI w B g cap l) (hl : l.length ≤ 4194304) (q0 : 0 ≤ q) (q1 : q ≤ 100000000) :
    Calls Try.prog 30 #[.slice (some ⟨g, 0, none⟩) n cap, .int .i64 q] w fun x w' => x = .returned (.int .i64 (q + (l.length : Int))) ∧ OwnI w' B g cap (marksI q l.length) ∧ Draw.Kept g w w' := by
  subst hn
  go_enter Try.func30, Try.ntmps30
  go_wp2_with fail
  go_loopw [1, 5] (fun qv iv wr => ∃ (k : Nat), k ≤ l.length ∧ iv = .int .i64 k ∧ qv = .int .i64 (q + (k : Int)) ∧ OwnI wr B g cap (marksI q k ++ l.drop k) ∧ Draw.Kept g w wr) (fun _ iv _ => l.length - (intOf iv).toNat)
  case atStart => exact ⟨0, Nat.zero_le _, rfl, by simp, h, Draw.Kept.refl _ _⟩
  case round =>
    clear h
    obtain ⟨k, hk, rfl, rfl, hown, hkept⟩ := hrel
    by_cases hlt : k < l.length
    · have hlen : (marksI q k ++ l.drop k).length = l.length := by simp [marksI_len]; omega
      obtain ⟨c0, f0⟩ := hown.at (k := k) (by omega)
      have o2 := hown.put k (q + (k : Int))
      have e : (marksI q k ++ l.drop k).set k (q + (k : Int)) = marksI q (k + 1) ++ l.drop (k + 1) := by
        rw [List.set_append_right _ _ (by rw [marksI_len]; exact Nat.le_refl _), marksI_len, Nat.sub_self, List.drop_eq_getElem_cons hlt, List.set_cons_zero, marksI]
        simp
      rw [e] at o2
      have O2 : Hid (OwnI _ _ _ _ _) := o2
      have i0 : (0 : Int) ≤ (k : Int) := by omega
      have i1 : (k : Int) < (l.length : Int) := by omega
      clear hown o2 e hlen
      generalize (marksI q k ++ l.drop k).getD k 0 = y0 at *
      go_wp2_with fail
      go_roundw
      case rel => exact ⟨k + 1, by omega, by go_num, by congr 1; omega, O2.out, hkept.setCell (.inl rfl) _⟩
      case measure => simp [intOf]; omega
    · have hkl : k = l.length := by omega
      subst hkl
      have e : marksI q l.length ++ l.drop l.length = marksI q l.length := by simp
      rw [e] at hown
      have i1 : ¬ (l.length : Int) < (l.length : Int) := by omega
      go_wp2_with fail
      go_ret
      exact ⟨rfl, hown, hkept⟩

set_option maxHeartbeats 2000000 in
theorem heldInts (B g n cap m : Nat) (q : Int) (w : World) (hn : n = m) (h : OwnI w B g cap (marksI q m)) (hl : m ≤ 4194304) (q0 : 0 ≤ q) (q1 : q ≤ 100000000) :
    Calls Try.prog 31 #[.slice (some ⟨g, 0, none⟩) n cap, .int .i64 q] w fun x w' => x = .returned (.int .i64 (q + (m : Int))) ∧ w = w' := by
  subst hn
  go_enter Try.func31, Try.ntmps31
  go_wp2_with fail
  go_loop [1, 5] (fun qv iv => ∃ (k : Nat), k ≤ n ∧ iv = .int .i64 k ∧ qv = .int .i64 (q + (k : Int))) (fun _ iv => n - (intOf iv).toNat)
  case atStart => exact ⟨0, Nat.zero_le _, rfl, by simp⟩
  case round =>
    obtain ⟨k, hk, rfl, rfl⟩ := hrel
    by_cases hlt : k < n
    · have hm := marksI_at q n k hlt
      have d0 := (h.at (k := k) (by rw [marksI_len]; exact hlt)).1
      rw [hm] at d0
      have i0 : (0 : Int) ≤ (k : Int) := by omega
      have i1 : (k : Int) < (n : Int) := by omega
      clear h hm
      go_wp2_with fail
      go_round
      case rel => exact ⟨k + 1, by omega, by go_num, by congr 1; omega⟩
      case measure => simp [intOf]; omega
    · have hkl : k = n := by omega
      subst hkl
      have i1 : ¬ (k : Int) < (k : Int) := by omega
      go_wp2_with fail
      go_ret
      exact ⟨rfl, rfl⟩

end Go.Proofs.Ytocdcmglkceohaa.Roa
