/- The laws' helpers over letters: szSeg, toSeg, eqSeg (of one letter with itself); and what an argument of that type is. -/
import Derived.Test.YthdapibkfdpejaaSegC
import Derived.Test.YthdapibkfdpejaaDrawL
import Derived.Test.YthdapibkfdpejaaShape
namespace Go.Proofs.Ythdapibkfdpejaa.Seg
open Go.RowKit
set_option linter.unusedVariables false

set_option maxHeartbeats 1000000 in
theorem szSeg (f t : Int) (b : ByteArray) (e : Bool) (a r : Int) (left : Int) (w : World) (hb : b.size ≤ maxLen) (h0 : 0 ≤ left) (h1 : left ≤ 1048576) :
    Calls Try.prog 13 #[.agg #[.int .i64 f, .int .i64 t, .string b, .bool e, .int .i64 a, .int .i64 r], .int .i64 left] w fun x w' => x = .returned (.int .i64 (if left < (b.size : Int) then -1 else left - (b.size : Int))) ∧ Below w.heap.size w w' := by
  have hm : (b.size : Int) ≤ 9223372036854775807 := by unfold maxLen at hb; omega
  have e0 : IntKind.i64.wrap (left - (b.size : Int)) = left - (b.size : Int) := by rw [IntKind.wrap_i64]; omega
  by_cases h : left < (b.size : Int)
  · have hlt : left - (b.size : Int) < 0 := by omega
    go_enter Try.func13, Try.ntmps13
    go_wp2_with fail
    go_ret
    exact ⟨by first | rfl | (rw [if_pos (by omega)]; rfl), (Below.refl _ _).alloc (Nat.le_refl _) _⟩
  · have hlt : ¬ left - (b.size : Int) < 0 := by omega
    go_enter Try.func13, Try.ntmps13
    go_wp2_with fail
    go_ret
    exact ⟨by first | rfl | (rw [if_neg (by omega)]; rfl), (Below.refl _ _).alloc (Nat.le_refl _) _⟩

set_option maxHeartbeats 1000000 in
theorem toSeg (f t : Int) (b : ByteArray) (e : Bool) (a r : Int) (w : World) :
    Calls Try.prog 15 #[.agg #[.int .i64 f, .int .i64 t, .string b, .bool e, .int .i64 a, .int .i64 r]] w fun x w' => x = .returned (.agg #[.int .i64 f, .int .i64 t, .string b, .bool e, .int .i64 a, .int .i64 r]) ∧ Below w.heap.size w w' := by
  go_enter Try.func15, Try.ntmps15
  go_wp2_with fail
  refine bodyPost_ret (v := .agg #[.int .i64 f, .int .i64 t, .string b, .bool e, .int .i64 a, .int .i64 r]) (by rw [Draw.results_cell1 rfl]; go_simp) rfl ⟨rfl, (((Below.refl _ _).alloc (Nat.le_refl _) _).alloc (by simp) _).alloc (by simp; omega) _⟩

set_option maxHeartbeats 1000000 in
theorem eqSegSame (f t : Int) (b : ByteArray) (e : Bool) (a r : Int) (w : World) :
    Calls Try.prog 20 #[.agg #[.int .i64 f, .int .i64 t, .string b, .bool e, .int .i64 a, .int .i64 r], .agg #[.int .i64 f, .int .i64 t, .string b, .bool e, .int .i64 a, .int .i64 r]] w fun x w' => x = .returned (.bool true) ∧ Below w.heap.size w w' := by
  go_enter Try.func20, Try.ntmps20
  go_wp2_with fail
  go_ret
  exact ⟨rfl, ((Below.refl _ _).alloc (Nat.le_refl _) _).alloc (by simp) _⟩

theorem eqSegV (l : List UInt8) (w : World) : Calls Try.prog 20 #[.agg (segV l), .agg (segV l)] w fun x w' => x = .returned (.bool true) ∧ Below w.heap.size w w' := by
  cases h : rdL l
  · rw [seg_no h]
    exact eqSegSame _ _ _ _ _ _ w
  · rw [seg_yes h]
    exact eqSegSame _ _ _ _ _ _ w

theorem segV_six (l : List UInt8) : ∃ (f t : Int) (b : ByteArray) (e : Bool) (a r : Int), segV l = #[.int .i64 f, .int .i64 t, .string b, .bool e, .int .i64 a, .int .i64 r] := by
  cases h : rdL l
  · exact ⟨_, _, _, _, _, _, seg_no h⟩
  · exact ⟨_, _, _, _, _, _, seg_yes h⟩

theorem seg_of {w : World} {cs : Array Value} (h : Shp.Shape.Holds w (.struct (.cons (.int .i64) (.cons (.int .i64) (.cons .str (.cons .bool (.cons (.int .i64) (.cons (.int .i64) .nil))))))) cs.toList) : ∃ (f t : Int) (b : ByteArray) (e : Bool) (a r : Int), cs = #[.int .i64 f, .int .i64 t, .string b, .bool e, .int .i64 a, .int .i64 r] ∧ b.size ≤ maxLen := by
  simp only [Shp.Shape.Holds, Shp.Shapes.Holds] at h
  obtain ⟨c1, c2, e, ⟨f, rfl, _⟩, c3, c4, rfl, ⟨t, rfl, _⟩, c5, c6, rfl, ⟨b, rfl, hb⟩, c7, c8, rfl, ⟨d, rfl⟩, c9, c10, rfl, ⟨a, rfl, _⟩, c11, c12, rfl, ⟨r, rfl, _⟩, rfl⟩ := h
  refine ⟨f, t, b, d, a, r, ?_, hb⟩
  apply Array.ext'
  rw [e]
  rfl

end Go.Proofs.Ythdapibkfdpejaa.Seg
