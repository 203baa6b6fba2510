/- Contracts of l1Below, l1Once, l1DrawMark, l1DrawPlace and of the laws' own big and pick: they return, within their ranges, and turn no block but the cursor's. -/
import Derived.Test.YtddicibpfmjgfaaDoorDrawA
import Derived.OpenShut
namespace Go.Proofs.YtddicibpfmjgfaaDoor.Draw
open Go.RowKit
set_option linter.unusedVariables false

set_option maxHeartbeats 1000000 in
theorem l1Below (c : Nat) (n : Int) (w : World) (h : Cur w c) :
    Calls Tryd.prog 30 #[.pointer (some ⟨c, 0, none⟩), .int .i64 n] w fun e w' => ∃ x : Int, 0 ≤ x ∧ (x < n ∨ x = 0 ∧ n ≤ 0) ∧ e = .returned (.int .i64 x) ∧ Cur w' c ∧ Kept c w w' := by
  by_cases h0 : n ≤ 0
  · go_enter Tryd.func30, Tryd.ntmps30
    go_wp2
    go_ret
    exact ⟨0, by omega, by omega, rfl, h, Kept.refl _ _⟩
  · by_cases h1 : n ≤ 256
    · go_enter Tryd.func30, Tryd.ntmps30
      go_wp2_with fail
      refine (l1Byte c _ h).mono ?_
      rintro e w1 ⟨x, x0, x1, rfl, c1, k1⟩
      go_wp2_with fail
      go_ret
      exact ⟨x % n, Int.emod_nonneg _ (by omega), .inl (Int.emod_lt_of_pos _ (by omega)), rfl, c1, k1⟩
    · go_enter Tryd.func30, Tryd.ntmps30
      go_wp2_with fail
      refine (l1Byte c _ h).mono ?_
      rintro e w1 ⟨x, x0, x1, rfl, c1, k1⟩
      go_wp2_with fail
      refine (l1Byte c _ c1).mono ?_
      rintro e w2 ⟨y, y0, y1, rfl, c2, k2⟩
      go_wp2_with fail
      refine (l1Byte c _ c2).mono ?_
      rintro e w3 ⟨z, z0, z1, rfl, c3, k3⟩
      go_wp2_with fail
      refine (l1Byte c _ c3).mono ?_
      rintro e w4 ⟨v, v0, v1, rfl, c4, k4⟩
      go_wp2_with fail
      go_ret
      exact ⟨(x * 16777216 + y * 65536 + z * 256 + v) % n, Int.emod_nonneg _ (by omega), .inl (Int.emod_lt_of_pos _ (by omega)), rfl, c4, ((k1.trans k2).trans k3).trans k4⟩

set_option maxHeartbeats 1000000 in
theorem l1Once (c : Nat) (n : Int) (w : World) (h : Cur w c) :
    Calls Tryd.prog 31 #[.pointer (some ⟨c, 0, none⟩), .int .i64 n] w fun e w' => ∃ b : Bool, e = .returned (.bool b) ∧ Cur w' c ∧ Kept c w w' := by
  go_enter Tryd.func31, Tryd.ntmps31
  go_wp2_with fail
  refine (l1Below c n _ h).mono ?_
  rintro e w1 ⟨x, x0, x1, rfl, c1, k1⟩
  go_wp2_with fail
  go_ret
  exact ⟨_, rfl, c1, k1⟩

set_option maxHeartbeats 1000000 in
theorem l1Max (a b : Int) (w : World) :
    Calls Tryd.prog 29 #[.int .i64 a, .int .i64 b] w fun e w' => e = .returned (.int .i64 (if b < a then a else b)) ∧ w = w' := by
  by_cases h : b < a
  · go_enter Tryd.func29, Tryd.ntmps29
    go_wp2
    go_ret
    exact ⟨rfl, rfl⟩
  · go_enter Tryd.func29, Tryd.ntmps29
    go_wp2
    go_ret
    exact ⟨rfl, rfl⟩

theorem marks8 (x : Int) (h0 : 0 ≤ x) (h1 : x < 8) : ∃ v : Int, (#[.int .i64 0, .int .i64 1, .int .i64 7, .int .i64 2147483647, .int .i64 2147483648, .int .i64 4294967295, .int .i64 4294967296, .int .i64 (-1)] : Array Value)[x.toNat]? = some (.int .i64 v) := by
  have h : x = 0 ∨ x = 1 ∨ x = 2 ∨ x = 3 ∨ x = 4 ∨ x = 5 ∨ x = 6 ∨ x = 7 := by omega
  rcases h with rfl | rfl | rfl | rfl | rfl | rfl | rfl | rfl <;> exact ⟨_, rfl⟩

theorem places4 (x : Int) (h0 : 0 ≤ x) (h1 : x < 4) : ∃ v : Int, (#[.int .i64 (-1), .int .i64 1000000000, .int .i64 1000000001, .int .i64 4611686018427387904] : Array Value)[x.toNat]? = some (.int .i64 v) := by
  have h : x = 0 ∨ x = 1 ∨ x = 2 ∨ x = 3 := by omega
  rcases h with rfl | rfl | rfl | rfl <;> exact ⟨_, rfl⟩

set_option maxHeartbeats 1000000 in
theorem big (a : Option Addr) (len cap : Nat) (w : World) (hm : len ≤ maxLen) :
    Calls Tryd.prog 8 #[.slice a len cap] w fun e w' => e = .returned (.bool (decide (4096 < (len : Int)))) ∧ w = w' := by
  unfold maxLen at hm
  go_enter Tryd.func8, Tryd.ntmps8
  go_wp2
  go_ret
  exact ⟨rfl, rfl⟩

/-- What a law is told of the bytes that came in. -/
theorem bytes_of_row {w : World} {a : Option Addr} {len cap : Nat} {zs : List Int} (h : (a = none ∧ len = 0 ∧ cap = 0 ∧ zs = []) ∨
    ∃ x, a = some x ∧ len ≤ cap ∧ cap ≤ maxLen ∧ zs.length = cap ∧ (∀ i, i < zs.length → w.cell? (x.add i) = some (.int .u8 (zs.getD i 0))) ∧ ∀ n ∈ zs, (Lit.int .u8 n).wf = true) : Bytes w a len ∧ len ≤ maxLen := by
  rcases h with ⟨_, rfl, _, _⟩ | ⟨x, rfl, hl, hm, hz, hc, hw⟩
  · exact ⟨.inl rfl, Nat.zero_le _⟩
  · refine ⟨?_, by omega⟩
    by_cases h0 : len = 0
    · exact .inl h0
    · obtain ⟨b, off, spot⟩ := x
      have hspot : spot = none := by simpa [Addr.add] using World.cell?_spot (hc 0 (by omega))
      subst hspot
      refine .inr ⟨b, off, rfl, fun i hi => ?_⟩
      have hi' : i < zs.length := by omega
      have hwf := hw (zs.getD i 0) (by simp [List.getD, hi'])
      have hbd := bounds_u8 hwf
      exact ⟨zs.getD i 0, hbd.1, hbd.2, by
        have hh := hc i hi'
        by_cases hi0 : i = 0
        · subst hi0; simpa [Addr.add] using hh
        · simpa [Addr.add, hi0] using hh⟩

end Go.Proofs.YtddicibpfmjgfaaDoor.Draw
