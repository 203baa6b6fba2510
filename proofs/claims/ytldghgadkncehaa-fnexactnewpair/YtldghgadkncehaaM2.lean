/- Contracts of this seat's functions, and their mathematics (NumA DrawA DrawB). -/
import Derived.Test.YtldghgadkncehaaRows
import Derived.WalkKit
import Derived.WalkSpells
import Derived.Below
import Derived.Test.YtldghgadkncehaaM1
import Derived.OpenShut
set_option linter.unusedVariables false
set_option linter.unusedSimpArgs false
set_option maxHeartbeats 400000
namespace Go.Proofs.Ytldghgadkncehaa.Num
open Go.RowKit
def mkB (n : Int) : Bool := decide (0 ≤ n ∧ n ≤ 4294967295)
def plB (n : Int) : Bool := decide (0 ≤ n ∧ n ≤ 1000000000)
theorem mk_t {n : Int} (h : mkB n = true) : 0 ≤ n ∧ n ≤ 4294967295 := by simpa [mkB] using h
theorem mk_f {n : Int} (h : mkB n = false) : ¬ (0 ≤ n ∧ n ≤ 4294967295) := by simpa [mkB] using h
theorem pl_t {n : Int} (h : plB n = true) : 0 ≤ n ∧ n ≤ 1000000000 := by simpa [plB] using h
theorem pl_f {n : Int} (h : plB n = false) : ¬ (0 ≤ n ∧ n ≤ 1000000000) := by simpa [plB] using h
theorem mk_yes {n : Int} (h : 0 ≤ n ∧ n ≤ 4294967295) : mkB n = true := by simpa [mkB] using h
theorem mk_no {n : Int} (h : ¬ (0 ≤ n ∧ n ≤ 4294967295)) : mkB n = false := by simpa [mkB] using h
theorem pl_yes {n : Int} (h : 0 ≤ n ∧ n ≤ 1000000000) : plB n = true := by simpa [plB] using h
theorem pl_no {n : Int} (h : ¬ (0 ≤ n ∧ n ≤ 1000000000)) : plB n = false := by simpa [plB] using h
theorem ret_bool {a b : Bool} (h : a = b) : Ending.returned (.bool a) = .returned (.bool b) := by rw [h]
theorem ret_int {k : IntKind} {a b : Int} (h : a = b) : Ending.returned (.int k a) = .returned (.int k b) := by rw [h]
theorem isPlace (n : Int) (w : World) : Calls Try.prog 110 #[.int .i64 n] w fun e w' => e = .returned (.bool (plB n)) ∧ w = w' := by
  by_cases h0 : 0 ≤ n
  · by_cases h1 : n ≤ 1000000000
    · go_enter Try.func110, Try.ntmps110
      go_wp2
      go_ret
      exact ⟨ret_bool (by simp [plB, h0, h1]), rfl⟩
    · go_enter Try.func110, Try.ntmps110
      go_wp2
      go_ret
      exact ⟨ret_bool (by simp [plB, h0, h1]), rfl⟩
  · go_enter Try.func110, Try.ntmps110
    go_wp2
    go_ret
    exact ⟨ret_bool (pl_no (by omega)).symm, rfl⟩
theorem l1Place (n : Int) (w : World) : Calls Try.prog 67 #[.int .i64 n] w fun e w' => e = .returned (.bool (plB n)) ∧ w = w' := by
  by_cases h0 : 0 ≤ n
  · by_cases h1 : n ≤ 1000000000
    · go_enter Try.func67, Try.ntmps67
      go_wp2
      go_ret
      exact ⟨ret_bool (by simp [plB, h0, h1]), rfl⟩
    · go_enter Try.func67, Try.ntmps67
      go_wp2
      go_ret
      exact ⟨ret_bool (by simp [plB, h0, h1]), rfl⟩
  · go_enter Try.func67, Try.ntmps67
    go_wp2
    go_ret
    exact ⟨ret_bool (pl_no (by omega)).symm, rfl⟩
/-- The mark of a place. -/
def markOf (s p : Int) : Int := if mkB s = true ∧ plB p = true then (s + p) % 4294967296 else -1
theorem markOf_yes {s p : Int} (h : mkB s = true) (k : plB p = true) : markOf s p = (s + p) % 4294967296 := by simp [markOf, h, k]
theorem markOf_no {s p : Int} (h : mkB s = false ∨ plB p = false) : markOf s p = -1 := by rcases h with h | h <;> simp [markOf, h]
/-- The way from one mark to another. -/
def wayOf (a b : Int) : Int := if (b - a) % 4294967296 < 2147483648 then (b - a) % 4294967296 else (b - a) % 4294967296 - 4294967296
end Go.Proofs.Ytldghgadkncehaa.Num
namespace Go.Proofs.Ytldghgadkncehaa.Draw
open Go.RowKit
theorem cur_new {a : Option Addr} {len cap : Nat} {w : World} (hb : Bytes w a len) (hl : len ≤ 4096) (h : Int) (T : TypeId) : Cur (w.alloc (.cells #[.slice a len cap, .int .i64 0, .int .i64 h] T)) w.heap.size := by
  have hB : Below w.heap.size w (w.alloc (.cells #[.slice a len cap, .int .i64 0, .int .i64 h] T)) := (Below.refl _ _).alloc (Nat.le_refl _) _
  have hc : ∀ (i : Nat) (v : Value), #[.slice a len cap, .int .i64 0, .int .i64 h][i]? = some v → (w.alloc (.cells #[.slice a len cap, .int .i64 0, .int .i64 h] T)).cell? ⟨w.heap.size, i, none⟩ = some v := fun i v hv => by
    rw [← hv]; simp
  refine ⟨⟨a, len, cap, 0, h, hl, ⟨hc 0 _ rfl, hc 1 _ rfl, hc 2 _ rfl⟩, Nat.zero_le _, hb.below hB (Nat.le_refl _), ?_⟩, fun o => ?_⟩
  · rcases hb with hb | ⟨b, off, rfl, hb⟩
    · exact .inl hb
    · by_cases h0 : len = 0
      · exact .inl h0
      · obtain ⟨z, _, _, hz⟩ := hb 0 (by omega)
        have hlt : b < w.heap.size := lt_of_cell hz
        refine .inr fun x hx => ?_
        cases hx
        show b < w.heap.size
        exact hlt
  · simp
theorem cell_set_same {w : World} {c o : Nat} {v u : Value} (h : w.cell? ⟨c, o, none⟩ = some v) : (w.setCell ⟨c, o, none⟩ u).cell? ⟨c, o, none⟩ = some u := World.cell?_setCell_same w _ _ h
theorem cell_set_off {w : World} {c o o' : Nat} {v : Value} (h : o' ≠ o) : (w.setCell ⟨c, o, none⟩ v).cell? ⟨c, o', none⟩ = w.cell? ⟨c, o', none⟩ := World.cell?_setCell_other _ _ _ _ (by intro e; cases e; exact h rfl)
/-- What l1Byte leaves of the cursor, where a byte was taken. -/
theorem Cur.step1 {w : World} {c : Nat} (h : Cur w c) {i len cap : Nat} {a : Option Addr} (h0 : w.cell? ⟨c, 0, none⟩ = some (.slice a len cap)) (h1 : w.cell? ⟨c, 1, none⟩ = some (.int .i64 i)) (hi : i < len) (y : Int) (n : Nat) :
    Cur (((w.setCell ⟨c, 2, none⟩ (.int .i64 y)).drewN n).setCell ⟨c, 1, none⟩ (.int .i64 ((i : Int) + 1))) c := by
  obtain ⟨a', len', cap', i', x, hle, ⟨g0, g1, g2⟩, hi', hb, hc⟩ := h.ex
  rw [h0] at g0; rw [h1] at g1
  simp at g0 g1
  obtain ⟨rfl, rfl, rfl⟩ := g0
  have hk : Kept c w (((w.setCell ⟨c, 2, none⟩ (.int .i64 y)).drewN n).setCell ⟨c, 1, none⟩ (.int .i64 ((i : Int) + 1))) := (((Kept.refl c w).setCell (.inl rfl) _).drewN n).setCell (.inl rfl) _
  have e : ∀ p, ((w.setCell ⟨c, 2, none⟩ (.int .i64 y)).drewN n).cell? p = (w.setCell ⟨c, 2, none⟩ (.int .i64 y)).cell? p := fun p => rfl
  refine ⟨⟨a, len, cap, i + 1, y, hle, ⟨?_, ?_, ?_⟩, by omega, hb.kept hk (hc.imp id fun hc x hx => Nat.ne_of_lt (hc x hx)), hc⟩, fun o => ?_⟩
  · rw [cell_set_off (by decide), e, cell_set_off (by decide)]; exact h0
  · exact cell_set_same (v := .int .i64 i) (by rw [e, cell_set_off (by decide)]; exact h1)
  · rw [cell_set_off (by decide), e]; exact cell_set_same g2
  · rw [World.frozen?_setCell]; exact (World.frozen?_setCell w _ _ _).trans (h.fz o)
/-- What l1Byte leaves of the cursor, where none was left. -/
theorem Cur.step0 {w : World} {c : Nat} (h : Cur w c) (y : Int) (n : Nat) : Cur ((w.setCell ⟨c, 2, none⟩ (.int .i64 y)).drewN n) c := by
  obtain ⟨a, len, cap, i, x, hle, ⟨g0, g1, g2⟩, hi, hb, hc⟩ := h.ex
  have hk : Kept c w ((w.setCell ⟨c, 2, none⟩ (.int .i64 y)).drewN n) := ((Kept.refl c w).setCell (.inl rfl) _).drewN n
  have e : ∀ p, ((w.setCell ⟨c, 2, none⟩ (.int .i64 y)).drewN n).cell? p = (w.setCell ⟨c, 2, none⟩ (.int .i64 y)).cell? p := fun p => rfl
  refine ⟨⟨a, len, cap, i, y, hle, ⟨?_, ?_, ?_⟩, hi, hb.kept hk (hc.imp id fun hc x hx => Nat.ne_of_lt (hc x hx)), hc⟩, fun o => ?_⟩
  · rw [e, cell_set_off (by decide)]; exact g0
  · rw [e, cell_set_off (by decide)]; exact g1
  · rw [e]; exact cell_set_same g2
  · exact (World.frozen?_setCell w _ _ _).trans (h.fz o)
theorem lo255 (n : Int) : 0 ≤ bits .and .i64 n 255 := by rw [and255]; omega
theorem hi255 (n : Int) : bits .and .i64 n 255 ≤ 255 := by rw [and255]; omega
end Go.Proofs.Ytldghgadkncehaa.Draw
namespace Go.Proofs.Ytldghgadkncehaa.Draw
open Go.RowKit
theorem marks8 (x : Int) (h0 : 0 ≤ x) (h1 : x < 8) : ∃ v : Int, (#[.int .i64 0, .int .i64 1, .int .i64 7, .int .i64 2147483647, .int .i64 2147483648, .int .i64 4294967295, .int .i64 4294967296, .int .i64 (-1)] : Array Value)[x.toNat]? = some (.int .i64 v) := by
  have h : x = 0 ∨ x = 1 ∨ x = 2 ∨ x = 3 ∨ x = 4 ∨ x = 5 ∨ x = 6 ∨ x = 7 := by omega
  rcases h with rfl | rfl | rfl | rfl | rfl | rfl | rfl | rfl <;> exact ⟨_, rfl⟩
theorem places4 (x : Int) (h0 : 0 ≤ x) (h1 : x < 4) : ∃ v : Int, (#[.int .i64 (-1), .int .i64 1000000000, .int .i64 1000000001, .int .i64 4611686018427387904] : Array Value)[x.toNat]? = some (.int .i64 v) := by
  have h : x = 0 ∨ x = 1 ∨ x = 2 ∨ x = 3 := by omega
  rcases h with rfl | rfl | rfl | rfl <;> exact ⟨_, rfl⟩
/-- What a law is told of the bytes that came in. -/
theorem bytes_of_row {w : World} {a : Option Addr} {len cap : Nat} {zs : List Int} (h : (a = none ∧ len = 0 ∧ cap = 0 ∧ zs = []) ∨
    ∃ x, a = some x ∧ len ≤ cap ∧ cap ≤ maxLen ∧ zs.length = cap ∧ (∀ i, i < zs.length → w.cell? (x.add i) = some (.int .u8 (zs.getD i 0))) ∧ ∀ n ∈ zs, (Lit.int .u8 n).wf = true) : Bytes w a len ∧ len ≤ maxLen := by
  rcases h with ⟨_, rfl, _, _⟩ | ⟨x, rfl, hl, hm, hz, hc, hw⟩
  · exact ⟨.inl rfl, Nat.zero_le _⟩
  · refine ⟨?_, by omega⟩
    by_cases h0 : len = 0
    · exact .inl h0
    · obtain ⟨b, off, spot⟩ := x
      have hspot : spot = none := by simpa [Addr.add] using World.cell?_spot (hc 0 (by omega))
      subst hspot
      refine .inr ⟨b, off, rfl, fun i hi => ?_⟩
      have hi' : i < zs.length := by omega
      have hwf := hw (zs.getD i 0) (by simp [List.getD, hi'])
      have hbd := bounds_u8 hwf
      exact ⟨zs.getD i 0, hbd.1, hbd.2, by
        have hh := hc i hi'
        by_cases hi0 : i = 0
        · subst hi0; simpa [Addr.add] using hh
        · simpa [Addr.add, hi0] using hh⟩
end Go.Proofs.Ytldghgadkncehaa.Draw
