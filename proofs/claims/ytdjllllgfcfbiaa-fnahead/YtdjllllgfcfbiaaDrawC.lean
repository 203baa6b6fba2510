/- Contracts of DrawMarkOf, DrawAhead and DrawPlaceOf: for at most 4096 readable bytes they return whole numbers and turn no block that was there. -/
import Derived.Test.YtdjllllgfcfbiaaDrawB
import Derived.Test.YtdjllllgfcfbiaaNumB
import Derived.OpenShut
namespace Go.Proofs.Ytdjllllgfcfbiaa.Draw
open Go.RowKit
set_option linter.unusedVariables false

set_option maxHeartbeats 1000000 in
theorem drawMarkOf (a : Option Addr) (len cap : Nat) (w : World) (hb : Bytes w a len) (hl : len ≤ 4096) :
    Calls Try.prog 9 #[.slice a len cap] w fun e w' => ∃ s p : Int, e = .returned (.tuple #[.int .i64 s, .int .i64 p]) ∧ Below w.heap.size w w' := by
  go_enter Try.func9, Try.ntmps9
  go_wp2_with fail
  refine (l1New a len cap _ hb hl).mono ?_
  rintro e w1 ⟨rfl, h, hw1⟩
  have c1 : Cur w1 w.heap.size := by rw [hw1]; exact cur_new hb hl h _
  have b1 : Below w.heap.size w w1 := by rw [hw1]; exact (Below.refl _ _).alloc (Nat.le_refl _) _
  clear hw1
  go_wp2_with fail
  refine (l1DrawMark _ _ c1).mono ?_
  rintro e w2 ⟨s, rfl, c2, k2⟩
  go_wp2_with fail
  refine (l1DrawPlace _ _ c2).mono ?_
  rintro e w3 ⟨p, rfl, c3, k3⟩
  go_wp2_with fail
  go_ret2
  exact ⟨s, p, rfl, b1.trans ((k2.trans k3).below (Nat.le_refl _) b1.size)⟩

set_option maxHeartbeats 1000000 in
theorem drawAhead (a : Option Addr) (len cap : Nat) (w : World) (hb : Bytes w a len) (hl : len ≤ 4096) :
    Calls Try.prog 16 #[.slice a len cap] w fun e w' => ∃ s p : Int, e = .returned (.tuple #[.int .i64 s, .int .i64 p]) ∧ Below w.heap.size w w' := by
  go_enter Try.func16, Try.ntmps16
  go_wp2_with fail
  refine (l1New a len cap _ hb hl).mono ?_
  rintro e w1 ⟨rfl, h, hw1⟩
  have c1 : Cur w1 w.heap.size := by rw [hw1]; exact cur_new hb hl h _
  have b1 : Below w.heap.size w w1 := by rw [hw1]; exact (Below.refl _ _).alloc (Nat.le_refl _) _
  clear hw1
  go_wp2_with fail
  refine (l1DrawMark _ _ c1).mono ?_
  rintro e w2 ⟨s, rfl, c2, k2⟩
  go_wp2_with fail
  refine (l1DrawMark _ _ c2).mono ?_
  rintro e w3 ⟨p, rfl, c3, k3⟩
  go_wp2_with fail
  go_ret2
  exact ⟨s, p, rfl, b1.trans ((k2.trans k3).below (Nat.le_refl _) b1.size)⟩

set_option maxHeartbeats 1000000 in
theorem drawPlaceOf (a : Option Addr) (len cap : Nat) (w : World) (hb : Bytes w a len) (hl : len ≤ 4096) :
    Calls Try.prog 11 #[.slice a len cap] w fun e w' => ∃ s n m : Int, e = .returned (.tuple #[.int .i64 s, .int .i64 n, .int .i64 m]) ∧ Below w.heap.size w w' := by
  go_enter Try.func11, Try.ntmps11
  go_wp2_with fail
  refine (l1New a len cap _ hb hl).mono ?_
  rintro e w1 ⟨rfl, h, hw1⟩
  have c1 : Cur w1 w.heap.size := by rw [hw1]; exact cur_new hb hl h _
  have b1 : Below w.heap.size w w1 := by rw [hw1]; exact (Below.refl _ _).alloc (Nat.le_refl _) _
  clear hw1
  go_wp2_with fail
  refine (l1DrawMark _ _ c1).mono ?_
  rintro e w2 ⟨s, rfl, c2, k2⟩
  go_wp2_with fail
  refine (l1DrawPlace _ _ c2).mono ?_
  rintro e w3 ⟨p, rfl, c3, k3⟩
  go_wp2_with fail
  refine (l1Below _ _ _ c3).mono ?_
  rintro e w4 ⟨x, x0, x1, rfl, c4, k4⟩
  go_wp2_with fail
  refine (l1Max _ _ _).mono ?_
  rintro e w5 ⟨rfl, rfl⟩
  generalize (if _ < (0 : Int) then (0 : Int) else _) = q
  go_wp2_with fail
  refine (Num.specMarkOf _ _ _).mono ?_
  rintro e w5 ⟨rfl, rfl⟩
  go_wp2_with fail
  refine (l1Once _ _ _ c4).mono ?_
  rintro e w5 ⟨b, rfl, c5, k5⟩
  cases b
  · go_wp2_with fail
    go_ret3
    exact ⟨_, _, _, rfl, b1.trans ((((k2.trans k3).trans k4).trans k5).below (Nat.le_refl _) b1.size)⟩
  · go_wp2_with fail
    refine (l1DrawMark _ _ c5).mono ?_
    rintro e w6 ⟨m, rfl, c6, k6⟩
    go_wp2_with fail
    go_ret3
    exact ⟨_, _, _, rfl, b1.trans (((((k2.trans k3).trans k4).trans k5).trans k6).below (Nat.le_refl _) b1.size)⟩

/-- What a law is told of the bytes that came in. -/
theorem bytes_of_row {w : World} {a : Option Addr} {len cap : Nat} {zs : List Int} (h : (a = none ∧ len = 0 ∧ cap = 0 ∧ zs = []) ∨
    ∃ x, a = some x ∧ len ≤ cap ∧ cap ≤ maxLen ∧ zs.length = cap ∧ (∀ i, i < zs.length → w.cell? (x.add i) = some (.int .u8 (zs.getD i 0))) ∧ ∀ n ∈ zs, (Lit.int .u8 n).wf = true) : Bytes w a len ∧ len ≤ maxLen := by
  rcases h with ⟨_, rfl, _, _⟩ | ⟨x, rfl, hl, hm, hz, hc, hw⟩
  · exact ⟨.inl rfl, Nat.zero_le _⟩
  · refine ⟨?_, by omega⟩
    by_cases h0 : len = 0
    · exact .inl h0
    · obtain ⟨b, off, spot⟩ := x
      have hspot : spot = none := by simpa [Addr.add] using World.cell?_spot (hc 0 (by omega))
      subst hspot
      refine .inr ⟨b, off, rfl, fun i hi => ?_⟩
      have hi' : i < zs.length := by omega
      have hwf := hw (zs.getD i 0) (by simp [List.getD, hi'])
      have hbd := bounds_u8 hwf
      exact ⟨zs.getD i 0, hbd.1, hbd.2, by
        have hh := hc i hi'
        by_cases hi0 : i = 0
        · subst hi0; simpa [Addr.add] using hh
        · simpa [Addr.add, hi0] using hh⟩
end Go.Proofs.Ytdjllllgfcfbiaa.Draw
