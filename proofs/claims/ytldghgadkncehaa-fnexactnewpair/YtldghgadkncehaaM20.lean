/- Contracts of this seat's functions, and their mathematics (LawG). -/
import Derived.Test.YtldghgadkncehaaM18
import Derived.Test.YtldghgadkncehaaM19
set_option linter.unusedVariables false
set_option linter.unusedSimpArgs false
set_option maxHeartbeats 1000000
namespace Go.Proofs.Ytldghgadkncehaa.Giv
open Go.RowKit RowG
theorem results_cell1 {fn : Func} {p : Tmp} {ty : TypeId} (h : fn.results = #[.cell p ty]) (tmps : Array Value) (P : Program) (w : World) :
    (results fn tmps).run P w = ((asAddr (tmps.getD p undef)).run P w).andThen fun a w₁ => (loadVar ty a).run P w₁ := by
  simp only [results, h]
  simp [Sem.run_bind, Result.andThen]
theorem szGiver (g : Gv) (left : Int) (w : World) (hb : g.bs.size ≤ maxLen) (h0 : 0 ≤ left) (h1 : left ≤ 1048576) :
    Calls Try.prog 88 #[g.v, .int .i64 left] w fun x w' => x = .returned (.int .i64 (if left < (g.bs.size : Int) then -1 else left - (g.bs.size : Int))) ∧ Below w.heap.size w w' := by
  obtain ⟨ba, bs, cp, lm, en, dn⟩ := g
  dsimp only [Gv.v] at *
  have hm : (bs.size : Int) ≤ 9223372036854775807 := by unfold maxLen at hb; omega
  have e0 : IntKind.i64.wrap (left - (bs.size : Int)) = left - (bs.size : Int) := by rw [IntKind.wrap_i64]; omega
  by_cases h : left < (bs.size : Int)
  · have hlt : left - (bs.size : Int) < 0 := by omega
    go_enter Try.func88, Try.ntmps88
    go_wp2_with fail
    go_ret
    exact ⟨by first | rfl | (rw [if_pos (by omega)]; rfl), (Below.refl _ _).alloc (Nat.le_refl _) _⟩
  · have hlt : ¬ left - (bs.size : Int) < 0 := by omega
    go_enter Try.func88, Try.ntmps88
    go_wp2_with fail
    go_ret
    exact ⟨by first | rfl | (rw [if_neg (by omega)]; rfl), (Below.refl _ _).alloc (Nat.le_refl _) _⟩
theorem toGiver (g : Gv) (w : World) :
    Calls Try.prog 95 #[g.v] w fun x w' => x = .returned g.v ∧ Below w.heap.size w w' := by
  obtain ⟨ba, bs, cp, lm, en, dn⟩ := g
  dsimp only [Gv.v] at *
  go_enter Try.func95, Try.ntmps95
  go_wp2_with fail
  refine bodyPost_ret (v := .agg #[.int .i64 ba, .string bs, .int .i64 cp, .int .i64 lm, .bool en, .bool dn]) (by rw [results_cell1 rfl]; go_simp) rfl ⟨rfl, (((Below.refl _ _).alloc (Nat.le_refl _) _).alloc (by simp) _).alloc (by simp; omega) _⟩
theorem eqGiver (g : Gv) (w : World) :
    Calls Try.prog 102 #[g.v, g.v] w fun x w' => x = .returned (.bool true) ∧ Below w.heap.size w w' := by
  obtain ⟨ba, bs, cp, lm, en, dn⟩ := g
  dsimp only [Gv.v] at *
  go_enter Try.func102, Try.ntmps102
  go_wp2_with fail
  go_ret
  exact ⟨rfl, ((Below.refl _ _).alloc (Nat.le_refl _) _).alloc (by simp) _⟩
theorem eqPart (a : Int) (b : ByteArray) (w : World) :
    Calls Try.prog 125 #[.agg #[.int .i64 a, .string b], .agg #[.int .i64 a, .string b]] w fun x w' => x = .returned (.bool true) ∧ Below w.heap.size w w' := by
  go_enter Try.func125, Try.ntmps125
  go_wp2_with fail
  go_ret
  exact ⟨rfl, ((Below.refl _ _).alloc (Nat.le_refl _) _).alloc (by simp) _⟩
theorem giver_of {w : World} {cs : Array Value} (h : Shp.Shape.Holds w (.struct (.cons (.int .i64) (.cons .str (.cons (.int .i64) (.cons (.int .i64) (.cons .bool (.cons .bool .nil))))))) cs.toList) : ∃ g : Gv, cs = #[.int .i64 g.ba, .string g.bs, .int .i64 g.cp, .int .i64 g.lm, .bool g.en, .bool g.dn] ∧ g.bs.size ≤ maxLen := by
  simp only [Shp.Shape.Holds, Shp.Shapes.Holds] at h
  obtain ⟨c1, c2, e, ⟨f, rfl, _⟩, c3, c4, rfl, ⟨b, rfl, hb⟩, c5, c6, rfl, ⟨t, rfl, _⟩, c7, c8, rfl, ⟨a, rfl, _⟩, c9, c10, rfl, ⟨d, rfl⟩, c11, c12, rfl, ⟨r, rfl⟩, rfl⟩ := h
  refine ⟨⟨f, b, t, a, d, r⟩, ?_, hb⟩
  apply Array.ext'
  rw [e]
  rfl
end Go.Proofs.Ytldghgadkncehaa.Giv
