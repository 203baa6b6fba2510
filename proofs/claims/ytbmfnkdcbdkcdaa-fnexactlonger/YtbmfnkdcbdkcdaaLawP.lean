/- The laws' helpers over paces: toPace, eqPace (of one pace with itself); and what an argument of that type is. -/
import Derived.Test.YtbmfnkdcbdkcdaaPacB
import Derived.Test.YtbmfnkdcbdkcdaaShape
namespace Go.Proofs.Ytbmfnkdcbdkcdaa.Pac
open Go.RowKit RowG
set_option linter.unusedVariables false
set_option linter.unusedSimpArgs false

set_option maxHeartbeats 1000000 in
theorem toPace (p : Pc) (w : World) :
    Calls Try.prog 21 #[p.v] w fun x w' => x = .returned p.v ∧ Below w.heap.size w w' := by
  obtain ⟨mn, sp, wt, tm⟩ := p
  dsimp only [Pc.v] at *
  go_enter Try.func21, Try.ntmps21
  go_wp2_with fail
  refine bodyPost_ret (v := .agg #[.int .i64 mn, .int .i64 sp, .int .i64 wt, .int .i64 tm]) (by rw [res_cellP rfl]; go_simp) rfl ⟨rfl, (((Below.refl _ _).alloc (Nat.le_refl _) _).alloc (by simp) _).alloc (by simp; omega) _⟩

set_option maxHeartbeats 1000000 in
theorem eqPace (p : Pc) (w : World) :
    Calls Try.prog 22 #[p.v, p.v] w fun x w' => x = .returned (.bool true) ∧ Below w.heap.size w w' := by
  obtain ⟨mn, sp, wt, tm⟩ := p
  dsimp only [Pc.v] at *
  go_enter Try.func22, Try.ntmps22
  go_wp2_with fail
  go_ret
  exact ⟨rfl, ((Below.refl _ _).alloc (Nat.le_refl _) _).alloc (by simp) _⟩

theorem pace_of {w : World} {cs : Array Value} (h : Shp.Shape.Holds w (.struct (.cons (.int .i64) (.cons (.int .i64) (.cons (.int .i64) (.cons (.int .i64) .nil))))) cs.toList) : ∃ p : Pc, cs = #[.int .i64 p.mn, .int .i64 p.sp, .int .i64 p.wt, .int .i64 p.tm] := by
  simp only [Shp.Shape.Holds, Shp.Shapes.Holds] at h
  obtain ⟨c1, c2, e, ⟨f, rfl, _⟩, c3, c4, rfl, ⟨b, rfl, _⟩, c5, c6, rfl, ⟨t, rfl, _⟩, c7, c8, rfl, ⟨a, rfl, _⟩, rfl⟩ := h
  refine ⟨⟨f, b, t, a⟩, ?_⟩
  apply Array.ext'
  rw [e]
  rfl

end Go.Proofs.Ytbmfnkdcbdkcdaa.Pac
