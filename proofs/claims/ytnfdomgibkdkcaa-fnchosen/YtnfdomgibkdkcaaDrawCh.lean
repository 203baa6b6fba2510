/- Draws of chapter 11: DrawChosen, DrawAfterIt: they return roads and numbers, whatever these are, and turn no block but the cursor's; at most 4096 bytes. -/
import Derived.Test.YtnfdomgibkdkcaaDrawRo
namespace Go.Proofs.Ytnfdomgibkdkcaa.Roa
open Go.RowKit RowG
set_option linter.unusedVariables false
set_option linter.unusedSimpArgs false

set_option maxHeartbeats 4000000 in
theorem drawAfterIt (a : Option Addr) (len cap : Nat) (w : World) (hb : Draw.Bytes w a len) (hl : len ≤ 4096) :
    Calls Try.prog 11 #[.slice a len cap] w fun x w' => ∃ g cap, ∃ L : List Rd, ∃ (r : Int), x = .returned (.tuple #[.slice (some ⟨g, 0, none⟩) L.length cap, .int .i64 r]) ∧ L.length ≤ 8 ∧ Own w' w.heap.size g cap L ∧ Below w.heap.size w w' := by
  go_enter Try.func11, Try.ntmps11
  go_wp2_with fail
  refine (Draw.l1New a len cap _ hb hl).mono ?_
  rintro x w1 ⟨rfl, hh, hw1⟩
  have c1 : Draw.Cur w1 w.heap.size := by rw [hw1]; exact Draw.cur_new hb hl hh _
  have b1 : Below w.heap.size w w1 := by rw [hw1]; exact (Below.refl _ _).alloc (Nat.le_refl _) _
  have hs1 : w.heap.size < w1.heap.size := c1.lt
  clear hw1
  go_wp2_with fail
  refine (l10Draw _ _ c1).mono ?_
  rintro x w2 ⟨g, cp, L, rfl, hL, o2, c2, k2⟩
  have hg := (El.Own.lt (E := E) o2 _ rfl).1
  simp only at hg
  have O2 : Own w2 w.heap.size g cp L := El.Own.mono (E := E) o2 b1.size
  have B2 := b1.trans (k2.below (Nat.le_refl _) b1.size)
  clear c1 k2 o2
  go_wp2_with fail
  refine (l1From _ _ _ _ c2).mono ?_
  rintro x w3 ⟨r, rfl, c3, k3⟩
  replace O2 := own_kept O2 k3 (by omega)
  replace B2 := B2.trans (k3.below (Nat.le_refl _) B2.size)
  clear c2 k3
  go_wp2_with fail
  go_ret2
  exact ⟨g, cp, L, r, rfl, hL, O2, B2⟩

set_option maxHeartbeats 4000000 in
theorem drawChosen (a : Option Addr) (len cap : Nat) (w : World) (hb : Draw.Bytes w a len) (hl : len ≤ 4096) :
    Calls Try.prog 9 #[.slice a len cap] w fun x w' => ∃ g cap, ∃ L : List Rd, ∃ (y r : Int), x = .returned (.tuple #[.slice (some ⟨g, 0, none⟩) L.length cap, .int .i64 y, .int .i64 r]) ∧ L.length ≤ 8 ∧ Own w' w.heap.size g cap L ∧ Below w.heap.size w w' := by
  go_enter Try.func9, Try.ntmps9
  go_wp2_with fail
  refine (Draw.l1New a len cap _ hb hl).mono ?_
  rintro x w1 ⟨rfl, hh, hw1⟩
  have c1 : Draw.Cur w1 w.heap.size := by rw [hw1]; exact Draw.cur_new hb hl hh _
  have b1 : Below w.heap.size w w1 := by rw [hw1]; exact (Below.refl _ _).alloc (Nat.le_refl _) _
  have hs1 : w.heap.size < w1.heap.size := c1.lt
  clear hw1
  go_wp2_with fail
  refine (l10Draw _ _ c1).mono ?_
  rintro x w2 ⟨g, cp, L, rfl, hL, o2, c2, k2⟩
  have hg := (El.Own.lt (E := E) o2 _ rfl).1
  simp only at hg
  have O2 : Own w2 w.heap.size g cp L := El.Own.mono (E := E) o2 b1.size
  have B2 := b1.trans (k2.below (Nat.le_refl _) b1.size)
  clear c1 k2 o2
  go_wp2_with fail
  refine (l1From _ _ _ _ c2).mono ?_
  rintro x w3 ⟨y, rfl, c3, k3⟩
  replace O2 := own_kept O2 k3 (by omega)
  replace B2 := B2.trans (k3.below (Nat.le_refl _) B2.size)
  clear c2 k3
  go_wp2_with fail
  refine (l1From _ _ _ _ c3).mono ?_
  rintro x w4 ⟨r, rfl, c4, k4⟩
  replace O2 := own_kept O2 k4 (by omega)
  replace B2 := B2.trans (k4.below (Nat.le_refl _) B2.size)
  clear c3 k4
  go_wp2_with fail
  go_ret3
  exact ⟨g, cp, L, y, r, rfl, hL, O2, B2⟩

end Go.Proofs.Ytnfdomgibkdkcaa.Roa
