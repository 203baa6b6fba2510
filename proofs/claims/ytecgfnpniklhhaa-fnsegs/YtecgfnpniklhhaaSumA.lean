/- Plain mathematics of the sums of two bytes (chapter 2), and the contracts of the specification's functions; no condition but that a text is shorter than 2^30 bytes. -/
import Derived.Test.YtecgfnpniklhhaaRows
import Derived.WalkKit
import Derived.WalkSpells
import Derived.Below
namespace Go.Proofs.Ytecgfnpniklhhaa.Sum
open Go.RowKit
set_option linter.unusedVariables false

theorem ret_bool {a b : Bool} (h : a = b) : Ending.returned (.bool a) = .returned (.bool b) := by rw [h]
theorem ret_int {k : IntKind} {a b : Int} (h : a = b) : Ending.returned (.int k a) = .returned (.int k b) := by rw [h]

/-- What is above is added to what is below till nothing is above: in one step. -/
def fold (n : Int) : Int := if n = 0 then 0 else (n - 1) % 65535 + 1
theorem fold_small {n : Int} (h0 : 0 ≤ n) (h1 : n ≤ 65535) : fold n = n := by unfold fold; split <;> omega
theorem fold_step {n : Int} (h : 65535 < n) : fold (n % 65536 + n / 65536) = fold n := by
  unfold fold
  rw [if_neg (by omega), if_neg (by omega)]
  omega
theorem fold_bd (n : Int) : 0 ≤ fold n ∧ fold n ≤ 65535 := by unfold fold; split <;> omega
theorem fold_eq {a b : Int} (h0 : 0 ≤ a) (h1 : 0 ≤ b) : fold a = fold b ↔ (a - b) % 65535 = 0 ∧ (a = 0 ↔ b = 0) := by
  unfold fold
  split <;> split <;> omega

/-- The numbers of two bytes of a text, added up; a last byte alone counts as if a nought stood behind it. -/
def sumB : List UInt8 → Int
  | [] => 0
  | [a] => 256 * (a.toNat : Int)
  | a :: b :: r => 256 * (a.toNat : Int) + (b.toNat : Int) + sumB r

/-- The numbers themselves. -/
def pairs : List UInt8 → List Int
  | [] => []
  | [a] => [256 * (a.toNat : Int)]
  | a :: b :: r => (256 * (a.toNat : Int) + (b.toNat : Int)) :: pairs r

theorem pairs_sum : ∀ l : List UInt8, (pairs l).sum = sumB l
  | [] => rfl
  | [a] => by simp [pairs, sumB]
  | a :: b :: r => by simp [pairs, sumB, pairs_sum r]
theorem byte_bd (a : UInt8) : 0 ≤ (a.toNat : Int) ∧ (a.toNat : Int) ≤ 255 := by have := a.toNat_lt; omega
theorem pairs_bd : ∀ (l : List UInt8) (x : Int), x ∈ pairs l → 0 ≤ x ∧ x ≤ 65535
  | [], x, h => by simp [pairs] at h
  | [a], x, h => by
    simp [pairs] at h
    have := byte_bd a
    omega
  | a :: b :: r, x, h => by
    simp only [pairs, List.mem_cons] at h
    have := byte_bd a
    have := byte_bd b
    rcases h with h | h
    · omega
    · exact pairs_bd r x h
theorem pairs_len : ∀ l : List UInt8, (pairs l).length = (l.length + 1) / 2
  | [] => rfl
  | [a] => by simp [pairs]
  | a :: b :: r => by simp only [pairs, List.length_cons, pairs_len r]; omega
theorem sumB_bd : ∀ l : List UInt8, 0 ≤ sumB l ∧ sumB l ≤ 65535 * (l.length : Int)
  | [] => by simp [sumB]
  | [a] => by have := byte_bd a; simp [sumB]; omega
  | a :: b :: r => by
    have := byte_bd a
    have := byte_bd b
    have := sumB_bd r
    simp only [sumB, List.length_cons]
    omega
theorem sumB_snoc (c : UInt8) : ∀ l : List UInt8, sumB (l ++ [c]) = sumB l + if (l.length : Int) % 2 = 0 then 256 * (c.toNat : Int) else (c.toNat : Int)
  | [] => by simp [sumB]
  | [a] => by simp [sumB]
  | a :: b :: r => by
    have h := sumB_snoc c r
    simp only [List.cons_append, sumB, h, List.length_cons]
    have e : (((r.length + 1 + 1 : Nat) : Int) % 2 = 0) ↔ ((r.length : Int) % 2 = 0) := by omega
    simp only [e]
    omega

/-- Sum of a text. -/
def sumOf (s : ByteArray) : Int := 65535 - fold (sumB s.data.toList)
theorem sumOf_bd (s : ByteArray) : 0 ≤ sumOf s ∧ sumOf s ≤ 65535 := by have := fold_bd (sumB s.data.toList); unfold sumOf; omega

theorem take_snoc (s : ByteArray) (k : Nat) (h : k < s.size) : s.data.toList.take (k + 1) = s.data.toList.take k ++ [s[k]] := by
  rw [List.take_succ_eq_append_getElem (by simpa using h)]; rfl

set_option maxHeartbeats 1000000 in
theorem l2Fold (n : Int) (w : World) (h0 : 0 ≤ n) (h1 : n ≤ 1125899906842624) : Calls Try.prog 43 #[.int .i64 n] w fun e w' => e = .returned (.int .i64 (fold n)) ∧ w = w' := by
  go_enter Try.func43, Try.ntmps43
  go_wp2
  go_loop [0] (fun v => ∃ x : Int, 0 ≤ x ∧ x ≤ 1125899906842624 ∧ Hid (fold x = fold n) ∧ v = .int .i64 x) (fun v => (intOf v).toNat)
  case atStart => exact ⟨n, h0, h1, rfl, rfl⟩
  case round =>
    obtain ⟨x, x0, x1, hx, rfl⟩ := hrel
    by_cases hl : 65535 < x
    · go_wp2
      go_round
      case rel => exact ⟨_, by omega, by omega, (fold_step hl).trans hx.out, rfl⟩
      case measure => simp [intOf]; omega
    · go_wp2
      go_ret
      exact ⟨ret_int ((fold_small x0 (by omega)).symm.trans hx.out), rfl⟩

set_option maxHeartbeats 1000000 in
theorem specSum (s : ByteArray) (w : World) (hs : s.size ≤ 1073741824) : Calls Try.prog 36 #[.string s] w fun e w' => e = .returned (.int .i64 (sumOf s)) ∧ w = w' := by
  go_enter Try.func36, Try.ntmps36
  go_wp2
  go_loop [3, 4] (fun n i => ∃ k : Nat, k ≤ s.size ∧ i = .int .i64 k ∧ n = .int .i64 (sumB (s.data.toList.take k))) (fun _ i => s.size - (intOf i).toNat)
  case atStart => exact ⟨0, Nat.zero_le _, rfl, rfl⟩
  case round =>
    obtain ⟨k, hk, rfl, rfl⟩ := hrel
    have hb := sumB_bd (s.data.toList.take k)
    have hle : (s.data.toList.take k).length ≤ k := List.length_take_le _ _
    by_cases hlt : k < s.size
    · have hlk : (s.data.toList.take k).length = k := by simp; omega
      have HS : Hid (sumB (s.data.toList.take (k + 1)) = sumB (s.data.toList.take k) + if (k : Int) % 2 = 0 then 256 * (s[k].toNat : Int) else (s[k].toNat : Int)) := by
        have h := sumB_snoc s[k] (s.data.toList.take k)
        rw [hlk] at h
        rw [take_snoc s k hlt]; exact h
      clear hlk
      have hby := byte_bd s[k]
      by_cases hp : (k : Int) % 2 = 0
      · have HP : Hid _ := hp
        go_wp2
        go_round
        case rel => exact ⟨k + 1, by omega, by go_num, by rw [HS.out, if_pos HP.out]⟩
        case measure => simp [intOf]; omega
      · have hp1 : (k : Int) % 2 = 1 := by omega
        have HP : Hid _ := hp
        clear hp
        go_wp2
        go_round
        case rel => exact ⟨k + 1, by omega, by go_num, by rw [HS.out, if_neg HP.out]⟩
        case measure => simp [intOf]; omega
    · have hk2 : s.data.toList.take k = s.data.toList := List.take_of_length_le (by simp; omega)
      rw [hk2] at hb hle ⊢
      clear hk2
      have hfb := fold_bd (sumB s.data.toList)
      go_wp2_with fail
      refine (l2Fold _ _ hb.1 (by omega)).mono ?_
      rintro e w' ⟨rfl, rfl⟩
      go_wp2_with fail
      go_ret
      exact ⟨rfl, rfl⟩

end Go.Proofs.Ytecgfnpniklhhaa.Sum
