/- Contracts of the cursor that the laws draw with (l1New, l1Byte, l1Below, l1Once): they return, within their ranges, and turn no block but the cursor's. -/
import Derived.Test.YtldghgadkncehaaFrame
import Derived.WalkSpells
namespace Go.Proofs.Ytldghgadkncehaa.Draw
open Go.RowKit
set_option linter.unusedVariables false

theorem cur_new {a : Option Addr} {len cap : Nat} {w : World} (hb : Bytes w a len) (hl : len ≤ 4096) (h : Int) (T : TypeId) : Cur (w.alloc (.cells #[.slice a len cap, .int .i64 0, .int .i64 h] T)) w.heap.size := by
  have hB : Below w.heap.size w (w.alloc (.cells #[.slice a len cap, .int .i64 0, .int .i64 h] T)) := (Below.refl _ _).alloc (Nat.le_refl _) _
  have hc : ∀ (i : Nat) (v : Value), #[.slice a len cap, .int .i64 0, .int .i64 h][i]? = some v → (w.alloc (.cells #[.slice a len cap, .int .i64 0, .int .i64 h] T)).cell? ⟨w.heap.size, i, none⟩ = some v := fun i v hv => by
    rw [← hv]; simp
  refine ⟨⟨a, len, cap, 0, h, hl, ⟨hc 0 _ rfl, hc 1 _ rfl, hc 2 _ rfl⟩, Nat.zero_le _, hb.below hB (Nat.le_refl _), ?_⟩, fun o => ?_⟩
  · rcases hb with hb | ⟨b, off, rfl, hb⟩
    · exact .inl hb
    · by_cases h0 : len = 0
      · exact .inl h0
      · obtain ⟨z, _, _, hz⟩ := hb 0 (by omega)
        have hlt : b < w.heap.size := lt_of_cell hz
        refine .inr fun x hx => ?_
        cases hx
        show b < w.heap.size
        exact hlt
  · simp

theorem cell_set_same {w : World} {c o : Nat} {v u : Value} (h : w.cell? ⟨c, o, none⟩ = some v) : (w.setCell ⟨c, o, none⟩ u).cell? ⟨c, o, none⟩ = some u := World.cell?_setCell_same w _ _ h
theorem cell_set_off {w : World} {c o o' : Nat} {v : Value} (h : o' ≠ o) : (w.setCell ⟨c, o, none⟩ v).cell? ⟨c, o', none⟩ = w.cell? ⟨c, o', none⟩ := World.cell?_setCell_other _ _ _ _ (by intro e; cases e; exact h rfl)

/-- What l1Byte leaves of the cursor, where a byte was taken. -/
theorem Cur.step1 {w : World} {c : Nat} (h : Cur w c) {i len cap : Nat} {a : Option Addr} (h0 : w.cell? ⟨c, 0, none⟩ = some (.slice a len cap)) (h1 : w.cell? ⟨c, 1, none⟩ = some (.int .i64 i)) (hi : i < len) (y : Int) (n : Nat) :
    Cur (((w.setCell ⟨c, 2, none⟩ (.int .i64 y)).drewN n).setCell ⟨c, 1, none⟩ (.int .i64 ((i : Int) + 1))) c := by
  obtain ⟨a', len', cap', i', x, hle, ⟨g0, g1, g2⟩, hi', hb, hc⟩ := h.ex
  rw [h0] at g0; rw [h1] at g1
  simp at g0 g1
  obtain ⟨rfl, rfl, rfl⟩ := g0
  have hk : Kept c w (((w.setCell ⟨c, 2, none⟩ (.int .i64 y)).drewN n).setCell ⟨c, 1, none⟩ (.int .i64 ((i : Int) + 1))) := (((Kept.refl c w).setCell (.inl rfl) _).drewN n).setCell (.inl rfl) _
  have e : ∀ p, ((w.setCell ⟨c, 2, none⟩ (.int .i64 y)).drewN n).cell? p = (w.setCell ⟨c, 2, none⟩ (.int .i64 y)).cell? p := fun p => rfl
  refine ⟨⟨a, len, cap, i + 1, y, hle, ⟨?_, ?_, ?_⟩, by omega, hb.kept hk (hc.imp id fun hc x hx => Nat.ne_of_lt (hc x hx)), hc⟩, fun o => ?_⟩
  · rw [cell_set_off (by decide), e, cell_set_off (by decide)]; exact h0
  · exact cell_set_same (v := .int .i64 i) (by rw [e, cell_set_off (by decide)]; exact h1)
  · rw [cell_set_off (by decide), e]; exact cell_set_same g2
  · rw [World.frozen?_setCell]; exact (World.frozen?_setCell w _ _ _).trans (h.fz o)

/-- What l1Byte leaves of the cursor, where none was left. -/
theorem Cur.step0 {w : World} {c : Nat} (h : Cur w c) (y : Int) (n : Nat) : Cur ((w.setCell ⟨c, 2, none⟩ (.int .i64 y)).drewN n) c := by
  obtain ⟨a, len, cap, i, x, hle, ⟨g0, g1, g2⟩, hi, hb, hc⟩ := h.ex
  have hk : Kept c w ((w.setCell ⟨c, 2, none⟩ (.int .i64 y)).drewN n) := ((Kept.refl c w).setCell (.inl rfl) _).drewN n
  have e : ∀ p, ((w.setCell ⟨c, 2, none⟩ (.int .i64 y)).drewN n).cell? p = (w.setCell ⟨c, 2, none⟩ (.int .i64 y)).cell? p := fun p => rfl
  refine ⟨⟨a, len, cap, i, y, hle, ⟨?_, ?_, ?_⟩, hi, hb.kept hk (hc.imp id fun hc x hx => Nat.ne_of_lt (hc x hx)), hc⟩, fun o => ?_⟩
  · rw [e, cell_set_off (by decide)]; exact g0
  · rw [e, cell_set_off (by decide)]; exact g1
  · rw [e]; exact cell_set_same g2
  · exact (World.frozen?_setCell w _ _ _).trans (h.fz o)

theorem lo255 (n : Int) : 0 ≤ bits .and .i64 n 255 := by rw [and255]; omega
theorem hi255 (n : Int) : bits .and .i64 n 255 ≤ 255 := by rw [and255]; omega

end Go.Proofs.Ytldghgadkncehaa.Draw
