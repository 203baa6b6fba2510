/- Contracts of l1Below, l1Once, l1DrawMark, l1DrawPlace and of the laws' own big and pick: they return, within their ranges, and turn no block but the cursor's. -/
import Derived.Test.YtldghgadkncehaaDrawA
import Derived.OpenShut
namespace Go.Proofs.Ytldghgadkncehaa.Draw
open Go.RowKit
set_option linter.unusedVariables false

theorem marks8 (x : Int) (h0 : 0 ≤ x) (h1 : x < 8) : ∃ v : Int, (#[.int .i64 0, .int .i64 1, .int .i64 7, .int .i64 2147483647, .int .i64 2147483648, .int .i64 4294967295, .int .i64 4294967296, .int .i64 (-1)] : Array Value)[x.toNat]? = some (.int .i64 v) := by
  have h : x = 0 ∨ x = 1 ∨ x = 2 ∨ x = 3 ∨ x = 4 ∨ x = 5 ∨ x = 6 ∨ x = 7 := by omega
  rcases h with rfl | rfl | rfl | rfl | rfl | rfl | rfl | rfl <;> exact ⟨_, rfl⟩

theorem places4 (x : Int) (h0 : 0 ≤ x) (h1 : x < 4) : ∃ v : Int, (#[.int .i64 (-1), .int .i64 1000000000, .int .i64 1000000001, .int .i64 4611686018427387904] : Array Value)[x.toNat]? = some (.int .i64 v) := by
  have h : x = 0 ∨ x = 1 ∨ x = 2 ∨ x = 3 := by omega
  rcases h with rfl | rfl | rfl | rfl <;> exact ⟨_, rfl⟩

/-- What a law is told of the bytes that came in. -/
theorem bytes_of_row {w : World} {a : Option Addr} {len cap : Nat} {zs : List Int} (h : (a = none ∧ len = 0 ∧ cap = 0 ∧ zs = []) ∨
    ∃ x, a = some x ∧ len ≤ cap ∧ cap ≤ maxLen ∧ zs.length = cap ∧ (∀ i, i < zs.length → w.cell? (x.add i) = some (.int .u8 (zs.getD i 0))) ∧ ∀ n ∈ zs, (Lit.int .u8 n).wf = true) : Bytes w a len ∧ len ≤ maxLen := by
  rcases h with ⟨_, rfl, _, _⟩ | ⟨x, rfl, hl, hm, hz, hc, hw⟩
  · exact ⟨.inl rfl, Nat.zero_le _⟩
  · refine ⟨?_, by omega⟩
    by_cases h0 : len = 0
    · exact .inl h0
    · obtain ⟨b, off, spot⟩ := x
      have hspot : spot = none := by simpa [Addr.add] using World.cell?_spot (hc 0 (by omega))
      subst hspot
      refine .inr ⟨b, off, rfl, fun i hi => ?_⟩
      have hi' : i < zs.length := by omega
      have hwf := hw (zs.getD i 0) (by simp [List.getD, hi'])
      have hbd := bounds_u8 hwf
      exact ⟨zs.getD i 0, hbd.1, hbd.2, by
        have hh := hc i hi'
        by_cases hi0 : i = 0
        · subst hi0; simpa [Addr.add] using hh
        · simpa [Addr.add, hi0] using hh⟩

end Go.Proofs.Ytldghgadkncehaa.Draw
