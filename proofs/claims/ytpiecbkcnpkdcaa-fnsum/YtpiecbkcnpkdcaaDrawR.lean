/- Contract of DrawRight: it returns a text of less than ten bytes and a whole number, and turns no block that was there. -/
import Derived.Test.YtpiecbkcnpkdcaaDrawS
import Derived.Test.YtpiecbkcnpkdcaaSumA
import Derived.Deep.RegionWith
namespace Go.Proofs.Ytpiecbkcnpkdcaa.Draw
open Go.RowKit
set_option linter.unusedVariables false

theorem cell_behind {w5 w6 : World} {c j : Nat} {C : Array Value} {T : TypeId} {v : Value} (k : Kept c (w5.alloc (.cells C T)).drew w6) (hc : w5.heap.size ≠ c) (hv : C[j]? = some v) : w6.cell? ⟨w5.heap.size, j, none⟩ = some v :=
  (k.cell (p := ⟨w5.heap.size, j, none⟩) (by show w5.heap.size < (w5.alloc (.cells C T)).heap.size; simp) hc).trans ((World.cell?_alloc_new w5 _ _ _).trans hv)

set_option maxHeartbeats 4000000 in
theorem drawRight (a : Option Addr) (len cap : Nat) (w : World) (hb : Bytes w a len) (hl : len ≤ 4096) :
    Calls Try.prog 11 #[.slice a len cap] w fun e w' => ∃ (s : ByteArray) (n : Int), s.size ≤ 9 ∧ e = .returned (.tuple #[.string s, .int .i64 n]) ∧ Below w.heap.size w w' := by
  go_enter Try.func11, Try.ntmps11
  go_wp2_with fail
  refine (l1New a len cap _ hb hl).mono ?_
  rintro e w1 ⟨rfl, h, hw1⟩
  have c1 : Cur w1 w.heap.size := by rw [hw1]; exact cur_new hb hl h _
  have b1 : Below w.heap.size w w1 := by rw [hw1]; exact (Below.refl _ _).alloc (Nat.le_refl _) _
  clear hw1
  go_wp2_with fail
  refine (l1DrawBytes _ _ _ c1 (by decide) (by decide)).mono ?_
  rintro e w2 ⟨s, hs, rfl, c2, k2⟩
  go_wp2_with fail
  refine (l1Once _ _ _ c2).mono ?_
  rintro e w5 ⟨b, rfl, c5, k5⟩
  have kk := k2.trans k5
  have hl5 := c5.lt
  have hs9 : s.size ≤ 9 := by omega
  have hs30 : s.size ≤ 1073741824 := by omega
  have hsb := Sum.sumOf_bd s
  clear k2 k5 c1 c2 hs hb
  cases b
  · go_wp2_with fail
    have hwr : IntKind.i64.wrap (Sum.sumOf s + 1) = Sum.sumOf s + 1 := by rw [IntKind.wrap_i64]; omega
    have hl6 : w5.heap.size ≠ w.heap.size := by omega
    go_region_with ((first | (go_at_call 12; refine (Sum.specSum s _ hs30).mono ?_; rintro e wq ⟨rfl, rfl⟩) | (go_at_call 24; refine (l1Below w.heap.size 4 _ c5.drew).mono ?_; rintro e w6 ⟨q, q0, q1, rfl, c6, k6⟩; have q2 : q < 4 := (by omega); clear q1; obtain ⟨v, hv, hv2⟩ := four 0 65535 (-1) (Sum.sumOf s + 1) q q0 q2; have K6 : Hid _ := k6; clear k6) | (go_at_call 24; refine (l1Below w.heap.size 4 _ (c5.alloc _).drew).mono ?_; rintro e w6 ⟨q, q0, q1, rfl, c6, k6⟩; have q2 : q < 4 := (by omega); clear q1; obtain ⟨v, hv, hv2⟩ := four 0 65535 (-1) (Sum.sumOf s + 1) q q0 q2; have K6 : Hid _ := k6; have hc := cell_behind k6 hl6 hv; clear k6)))
    all_goals
      go_wp2_with fail
      go_ret2
      first
        | exact ⟨s, _, hs9, rfl, b1.trans (((kk.alloc _).drew.trans K6.out).below (Nat.le_refl _) b1.size)⟩
        | exact ⟨s, _, hs9, rfl, b1.trans (((kk.drew.trans K6.out).alloc _).below (Nat.le_refl _) b1.size)⟩
  · go_wp2_with fail
    refine (Sum.specSum s _ hs30).mono ?_
    rintro e w6 ⟨rfl, rfl⟩
    go_wp2_with fail
    go_ret2
    exact ⟨s, _, hs9, rfl, b1.trans (kk.below (Nat.le_refl _) b1.size)⟩

end Go.Proofs.Ytpiecbkcnpkdcaa.Draw
