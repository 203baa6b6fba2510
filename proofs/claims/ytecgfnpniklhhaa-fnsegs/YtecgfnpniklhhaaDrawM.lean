/- The draws of chapter 3's first law: DrawShowSeg, DrawReadSeg. -/
import Derived.Test.YtecgfnpniklhhaaDrawL
import Derived.Test.YtecgfnpniklhhaaDrawE
import Derived.Test.YtecgfnpniklhhaaSegS
namespace Go.Proofs.Ytecgfnpniklhhaa.Draw
open Go.RowKit
set_option linter.unusedVariables false

set_option maxHeartbeats 1000000 in
theorem drawShowSeg (a : Option Addr) (len cap : Nat) (w : World) (hb : Bytes w a len) (hl : len ≤ 4096) :
    Calls Try.prog 5 #[.slice a len cap] w fun x w' => ∃ (f t : Int) (b : ByteArray) (e : Bool) (a r : Int), b.size ≤ 41 ∧ x = .returned (.agg #[.int .i64 f, .int .i64 t, .string b, .bool e, .int .i64 a, .int .i64 r]) ∧ Below w.heap.size w w' := by
  have bz : Below w.heap.size w (w.alloc (.cells #[.int .i64 0, .int .i64 0, .string ⟨#[]⟩, .bool false, .int .i64 0, .int .i64 0] 25)) := (Below.refl _ _).alloc (Nat.le_refl _) _
  have hb0 := hb.below bz (Nat.le_refl _)
  go_enter Try.func5, Try.ntmps5
  go_wp2_with fail
  refine (drawSegOk a len cap _ hb0 hl).mono ?_
  rintro x w1 ⟨f, t, b, e, g, r, hbs, rfl, b1⟩
  obtain ⟨k0, k1⟩ := Seg.block_cells b1
  have b01 : Below w.heap.size w w1 := bz.trans (b1.mono (by simp))
  clear b1 bz hb0
  go_wp2_with fail
  exact bodyPost_ret (v := .agg #[.int .i64 f, .int .i64 t, .string b, .bool e, .int .i64 g, .int .i64 r]) (by rw [results_cell1 rfl]; go_simp) rfl ⟨f, t, b, e, g, r, hbs, rfl, (((((b01.setCell (Nat.le_refl _) _).setCell (Nat.le_refl _) _).setCell (Nat.le_refl _) _).setCell (Nat.le_refl _) _).setCell (Nat.le_refl _) _).setCell (Nat.le_refl _) _⟩

set_option maxHeartbeats 1000000 in
theorem drawReadSeg (a : Option Addr) (len cap : Nat) (w : World) (hb : Bytes w a len) (hl : len ≤ 4096) :
    Calls Try.prog 7 #[.slice a len cap] w fun x w' => ∃ s : ByteArray, s.size ≤ 1048576 ∧ x = .returned (.string s) ∧ Below w.heap.size w w' := by
  go_enter Try.func7, Try.ntmps7
  go_wp2_with fail
  refine (l1New a len cap _ hb hl).mono ?_
  rintro x w1 ⟨rfl, h, hw1⟩
  have c1 : Cur w1 w.heap.size := by rw [hw1]; exact cur_new hb hl h _
  have b1 : Below w.heap.size w w1 := by rw [hw1]; exact (Below.refl _ _).alloc (Nat.le_refl _) _
  have h1 : w.heap.size < w1.heap.size := by rw [hw1]; simp
  clear hw1
  go_wp2_with fail
  refine (l3Draw _ _ c1).mono ?_
  rintro x w2 ⟨f, t, b, e, g, r, hbs, rfl, c2, k2⟩
  have b2 : Below w.heap.size w w2 := b1.trans (k2.below (Nat.le_refl _) (by omega))
  clear k2 b1 c1
  go_wp2_with fail
  refine (Seg.specShowSeg f t b e g r _ (by omega)).mono ?_
  rintro x w3 ⟨rfl, q3⟩
  have c3 := c2.below q3 (Nat.le_refl _)
  have b3 := b2.trans (q3.mono b2.size)
  have hz : (Seg.showSegL f t b.data.toList e g r).length ≤ 100 := by
    unfold Seg.showSegL
    split
    · rw [Seg.showL_len]
      simp
      omega
    · simp
  clear q3 b2 c2
  generalize Seg.showSegL f t b.data.toList e g r = L at *
  go_wp2_with fail
  refine (l1Once _ _ _ c3).mono ?_
  rintro x w4 ⟨q, rfl, c4, k4⟩
  have b4 : Below w.heap.size w w4 := b3.trans (k4.below (Nat.le_refl _) (by have := b3.size; omega))
  clear k4 b3 c3
  cases q
  · go_wp2_with fail
    go_ret
    exact ⟨⟨L.toArray⟩, by show L.length ≤ _; omega, rfl, b4⟩
  · go_wp2_with fail
    refine (l1Bend _ _ _ c4 (by show L.length ≤ _; omega)).mono ?_
    rintro x w5 ⟨s, hs, rfl, c5, k5⟩
    have b5 : Below w.heap.size w w5 := b4.trans (k5.below (Nat.le_refl _) (by have := b4.size; omega))
    have hs' : s.size ≤ L.length + 2 := hs
    clear hs k5 c4 c5
    go_wp2_with fail
    go_ret
    exact ⟨s, by omega, rfl, b5⟩

end Go.Proofs.Ytecgfnpniklhhaa.Draw
