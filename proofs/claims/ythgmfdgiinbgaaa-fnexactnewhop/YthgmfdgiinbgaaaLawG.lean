/- The laws' helpers over givers: szGiver, toGiver, eqGiver (of one giver with itself); and what an argument of that type is. -/
import Derived.Test.YthgmfdgiinbgaaaGivA
import Derived.Test.YthgmfdgiinbgaaaShape
namespace Go.Proofs.Ythgmfdgiinbgaaa.Giv
open Go.RowKit RowG
set_option linter.unusedVariables false
set_option linter.unusedSimpArgs false

theorem results_cell1 {fn : Func} {p : Tmp} {ty : TypeId} (h : fn.results = #[.cell p ty]) (tmps : Array Value) (P : Program) (w : World) :
    (results fn tmps).run P w = ((asAddr (tmps.getD p undef)).run P w).andThen fun a w₁ => (loadVar ty a).run P w₁ := by
  simp only [results, h]
  simp [Sem.run_bind, Result.andThen]

set_option maxHeartbeats 1000000 in
theorem eqGiver (g : Gv) (w : World) :
    Calls Try.prog 47 #[g.v, g.v] w fun x w' => x = .returned (.bool true) ∧ Below w.heap.size w w' := by
  obtain ⟨ba, bs, cp, lm, en, dn⟩ := g
  dsimp only [Gv.v] at *
  go_enter Try.func47, Try.ntmps47
  go_wp2_with fail
  go_ret
  exact ⟨rfl, ((Below.refl _ _).alloc (Nat.le_refl _) _).alloc (by simp) _⟩

set_option maxHeartbeats 1000000 in
theorem eqPart (a : Int) (b : ByteArray) (w : World) :
    Calls Try.prog 101 #[.agg #[.int .i64 a, .string b], .agg #[.int .i64 a, .string b]] w fun x w' => x = .returned (.bool true) ∧ Below w.heap.size w w' := by
  go_enter Try.func101, Try.ntmps101
  go_wp2_with fail
  go_ret
  exact ⟨rfl, ((Below.refl _ _).alloc (Nat.le_refl _) _).alloc (by simp) _⟩

theorem giver_of {w : World} {cs : Array Value} (h : Shp.Shape.Holds w (.struct (.cons (.int .i64) (.cons .str (.cons (.int .i64) (.cons (.int .i64) (.cons .bool (.cons .bool .nil))))))) cs.toList) : ∃ g : Gv, cs = #[.int .i64 g.ba, .string g.bs, .int .i64 g.cp, .int .i64 g.lm, .bool g.en, .bool g.dn] ∧ g.bs.size ≤ maxLen := by
  simp only [Shp.Shape.Holds, Shp.Shapes.Holds] at h
  obtain ⟨c1, c2, e, ⟨f, rfl, _⟩, c3, c4, rfl, ⟨b, rfl, hb⟩, c5, c6, rfl, ⟨t, rfl, _⟩, c7, c8, rfl, ⟨a, rfl, _⟩, c9, c10, rfl, ⟨d, rfl⟩, c11, c12, rfl, ⟨r, rfl⟩, rfl⟩ := h
  refine ⟨⟨f, b, t, a, d, r⟩, ?_, hb⟩
  apply Array.ext'
  rw [e]
  rfl

end Go.Proofs.Ythgmfdgiinbgaaa.Giv
