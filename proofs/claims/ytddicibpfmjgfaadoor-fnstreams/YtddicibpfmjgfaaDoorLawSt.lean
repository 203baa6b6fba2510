/- The laws' helpers over streams: szStream, toStream, eqStream (of one stream with itself); what an argument of that type is. Made by tools/gen/genexst.py. -/
import Derived.Test.YtddicibpfmjgfaaDoorStrA
import Derived.Test.YtddicibpfmjgfaaDoorShape
namespace Go.Proofs.YtddicibpfmjgfaaDoor.Str
open Go.RowKit RowG
set_option linter.unusedVariables false
set_option linter.unusedSimpArgs false

theorem results_cell1 {fn : Func} {p : Tmp} {ty : TypeId} (h : fn.results = #[.cell p ty]) (tmps : Array Value) (P : Program) (w : World) :
    (results fn tmps).run P w = ((asAddr (tmps.getD p undef)).run P w).andThen fun a w₁ => (loadVar ty a).run P w₁ := by
  simp only [results, h]
  simp [Sem.run_bind, Result.andThen]

set_option maxHeartbeats 1000000 in
theorem szStream (s : Sm) (left : Int) (w : World) (hb : s.tx.size ≤ maxLen) (h0 : 0 ≤ left) (h1 : left ≤ 1048576) :
    Calls Tryd.prog 23 #[s.v, .int .i64 left] w fun x w' => x = .returned (.int .i64 (if left < (s.tx.size : Int) then -1 else left - (s.tx.size : Int))) ∧ Below w.heap.size w w' := by
  obtain ⟨tx, rd, en, dn, sn⟩ := s
  dsimp only [Sm.v] at *
  have hm : (tx.size : Int) ≤ 9223372036854775807 := by unfold maxLen at hb; omega
  have e0 : IntKind.i64.wrap (left - (tx.size : Int)) = left - (tx.size : Int) := by rw [IntKind.wrap_i64]; omega
  by_cases h : left < (tx.size : Int)
  · have hlt : left - (tx.size : Int) < 0 := by omega
    go_enter Tryd.func23, Tryd.ntmps23
    go_wp2_with fail
    go_ret
    exact ⟨by first | rfl | (rw [if_pos (by omega)]; rfl), (Below.refl _ _).alloc (Nat.le_refl _) _⟩
  · have hlt : ¬ left - (tx.size : Int) < 0 := by omega
    go_enter Tryd.func23, Tryd.ntmps23
    go_wp2_with fail
    go_ret
    exact ⟨by first | rfl | (rw [if_neg (by omega)]; rfl), (Below.refl _ _).alloc (Nat.le_refl _) _⟩

set_option maxHeartbeats 1000000 in
theorem toStream (s : Sm) (w : World) :
    Calls Tryd.prog 24 #[s.v] w fun x w' => x = .returned s.v ∧ Below w.heap.size w w' := by
  obtain ⟨tx, rd, en, dn, sn⟩ := s
  dsimp only [Sm.v] at *
  go_enter Tryd.func24, Tryd.ntmps24
  go_wp2_with fail
  refine bodyPost_ret (v := .agg #[.string tx, .int .i64 rd, .bool en, .bool dn, .bool sn]) (by rw [results_cell1 rfl]; go_simp) rfl ⟨rfl, (((Below.refl _ _).alloc (Nat.le_refl _) _).alloc (by simp) _).alloc (by simp; omega) _⟩

set_option maxHeartbeats 1000000 in
theorem eqStream (s : Sm) (w : World) :
    Calls Tryd.prog 25 #[s.v, s.v] w fun x w' => x = .returned (.bool true) ∧ Below w.heap.size w w' := by
  obtain ⟨tx, rd, en, dn, sn⟩ := s
  dsimp only [Sm.v] at *
  go_enter Tryd.func25, Tryd.ntmps25
  go_wp2_with fail
  go_ret
  exact ⟨rfl, ((Below.refl _ _).alloc (Nat.le_refl _) _).alloc (by simp) _⟩

theorem stream_of {w : World} {cs : Array Value} (h : Shp.Shape.Holds w (.struct (.cons .str (.cons (.int .i64) (.cons .bool (.cons .bool (.cons .bool .nil)))))) cs.toList) : ∃ s : Sm, cs = #[.string s.tx, .int .i64 s.rd, .bool s.en, .bool s.dn, .bool s.sn] ∧ s.tx.size ≤ maxLen := by
  simp only [Shp.Shape.Holds, Shp.Shapes.Holds] at h
  obtain ⟨c1, c2, e, ⟨b, rfl, hb⟩, c3, c4, rfl, ⟨f, rfl, _⟩, c5, c6, rfl, ⟨t, rfl⟩, c7, c8, rfl, ⟨a, rfl⟩, c9, c10, rfl, ⟨d, rfl⟩, rfl⟩ := h
  refine ⟨⟨b, f, t, a, d⟩, ?_, hb⟩
  apply Array.ext'
  rw [e]
  rfl

end Go.Proofs.YtddicibpfmjgfaaDoor.Str
