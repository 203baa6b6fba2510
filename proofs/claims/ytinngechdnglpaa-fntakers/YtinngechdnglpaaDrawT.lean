/- Contracts of chapter 5's draws: l5Text, l1DrawText. -/
import Derived.Test.YtinngechdnglpaaMg2
namespace Go.Proofs.Ytinngechdnglpaa.Draw
open Go.RowKit
set_option linter.unusedVariables false
set_option linter.unusedSimpArgs false

/-- The walk stands still here. -/
theorem stand {p : Prop} (h : Hid p) : p := h.out

set_option maxHeartbeats 1000000 in
theorem l5Text (p n : Int) (w : World) (hp : 0 ≤ p) (hp1 : p ≤ 4000000000) (hn : 0 ≤ n) (hn1 : n ≤ 4096) :
    Calls Try.prog 26 #[.int .i64 p, .int .i64 n] w fun e w' => ∃ s : ByteArray, (s.size : Int) = n ∧ e = .returned (.string s) ∧ Below w.heap.size w w' := by
  obtain ⟨i, hi, hz0, hz1, hz2⟩ := info_parts infoU8
  have hown : (w.alloc (.cells #[] 5)).ownsRow w.heap.size 5 1 (.slice (some ⟨w.heap.size, 0, none⟩) 0 0) 0 [] := World.ownsRow_made w #[] 0 (Nat.le_refl _) (Nat.zero_le _) rfl
  have hb0 : Below w.heap.size w (w.alloc (.cells #[] 5)) := (Below.refl _ _).alloc (Nat.le_refl _) _
  go_enter Try.func26, Try.ntmps26
  go_wp2_with fail
  go_loopw [5, 6] (fun v kv wr => ∃ (l : List UInt8) (g cap : Nat), (l.length : Int) ≤ n ∧ v = .slice (some ⟨g, 0, none⟩) l.length cap ∧ kv = .int .i64 (p + l.length) ∧ wr.ownsRow w.heap.size 5 1 (.slice (some ⟨g, 0, none⟩) l.length cap) l.length (l.map fun b => Value.int .u8 (b.toNat : Int)) ∧ Below w.heap.size w wr) (fun _ kv _ => (p + n - intOf kv).toNat)
  case atStart => exact ⟨[], w.heap.size, 0, hn, rfl, by simp, hown, hb0⟩
  case round =>
    clear hown hb0
    obtain ⟨l, g, cap, hln, rfl, rfl, hown, hB⟩ := hrel
    by_cases hm : (l.length : Int) < n
    · have hm' : p + (l.length : Int) < p + n := by omega
      have n1 : l.length + 1 ≤ maxLen := by unfold maxLen; omega
      have n2 : w.heap.size ≤ wr.heap.size + 1 := by have := hB.size; omega
      have n3 : (l.length + 1) * 1 ≤ 140737488355328 := by omega
      have hg := (hown.lt g rfl).1
      obtain ⟨K, hK⟩ : ∃ K : Int, p + (l.length : Int) = K := ⟨_, rfl⟩
      have k0 : 0 ≤ K := by omega
      have k1 : K ≤ 5000000000 := by omega
      have HK : Hid _ := hK
      rw [hK] at hm' ⊢
      clear hK
      have x0 : 0 ≤ 97 + (K * 7 + K / 26) % 26 := by omega
      have x1 : 97 + (K * 7 + K / 26) % 26 ≤ 255 := by omega
      obtain ⟨b, hb⟩ : ∃ b : UInt8, (b.toNat : Int) = 97 + (K * 7 + K / 26) % 26 := ⟨_, u8_of x0 x1⟩
      have HB : Hid _ := hb
      clear hb x0 x1
      go_wp2_with (at_builtin; refine wpList_append_lies _ (by rfl) _ _ 22 (by rfl) w.heap.size 5 i (.int .u8 0) 1 1 Try.underlying22 hi hz0 hz1 hz2 rfl (by decide) _ _ _ (by rfl) (hown.alloc _) ⟨wr.heap.size, 0, none⟩ 1 1 [.int .u8 (97 + (K * 7 + K / 26) % 26)] (by rfl) rfl (World.news_of_block (heap_alloc_new wr _)) (one_u8 _) (by decide) n1 n3 (by simpa using n2) (wr.heap.size + 1) (by simp) ?_; intro g1 cap1 w3 hown3 hgrow3 hat3 hlt3)
      have b3 : Below w.heap.size w w3 := (hB.alloc hB.size _).trans ⟨hgrow3.os, hgrow3.tape, hgrow3.output, hgrow3.size, fun q hq => hgrow3.block q (Nat.lt_of_lt_of_le hq (by have := hB.size; simp; omega)) (fun e => by simp [Value.ownBlock] at e; omega)⟩
      clear hgrow3 hat3 hlt3 hown
      go_roundw
      case rel =>
        rw [← HB.out, bytes_snoc] at hown3
        have hl : (l ++ [b]).length = l.length + 1 := by simp
        exact ⟨l ++ [b], g1, cap1, by rw [hl]; omega, by rw [hl], by rw [hl, ← HK.out]; go_num, by rw [hl]; exact hown3, b3⟩
      case measure => have := HK.out; simp [intOf]; omega
    · obtain ⟨_, _, hrow⟩ := Row.ofOwn hown
      have hconv := text_byteRow hrow l.length cap rfl
      have hm' : ¬ p + (l.length : Int) < p + n := by omega
      have hle : (l.length : Int) = n := by omega
      have HL : Hid _ := hle
      clear hle hown hrow
      go_wp2_with fail
      go_ret
      exact ⟨⟨l.toArray⟩, HL.out, rfl, hB⟩

set_option maxHeartbeats 1000000 in
theorem l1DrawText (c : Nat) (sg : ByteArray) (most : Int) (w : World) (h : Cur w c) (hs0 : 0 < sg.size) (hs1 : sg.size ≤ 4096) (m0 : 0 < most) (m1 : most ≤ 4096) :
    Calls Try.prog 50 #[.pointer (some ⟨c, 0, none⟩), .string sg, .int .i64 most] w fun e w' => ∃ s : ByteArray, (s.size : Int) < most ∧ e = .returned (.string s) ∧ Cur w' c ∧ Kept c w w' := by
  have hlt := h.lt
  obtain ⟨i, hi, hz0, hz1, hz2⟩ := info_parts infoU8
  go_enter Try.func50, Try.ntmps50
  go_wp2_with fail
  refine (l1Below _ _ _ (h.alloc _)).mono ?_
  rintro e w1 ⟨n, n0, n1, rfl, c1, k1⟩
  have n2 : n < most := by omega
  have hown : w1.ownsRow w.heap.size 5 1 (.slice (some ⟨w.heap.size, 0, none⟩) 0 0) 0 [] := own_kept (World.ownsRow_made w #[] 0 (Nat.le_refl _) (Nat.zero_le _) rfl) k1 hlt
  have hkept : Kept c w w1 := ((Kept.refl c w).alloc _).trans k1
  clear k1 n1
  go_wp2_with fail
  go_loopw [7, 8] (fun v nv wr => ∃ (l : List UInt8) (g cap : Nat) (m : Int), 0 ≤ m ∧ (l.length : Int) + m = n ∧ v = .slice (some ⟨g, 0, none⟩) l.length cap ∧ nv = .int .i64 m ∧ wr.ownsRow w.heap.size 5 1 (.slice (some ⟨g, 0, none⟩) l.length cap) l.length (l.map fun b => Value.int .u8 (b.toNat : Int)) ∧ Cur wr c ∧ Kept c w wr) (fun _ nv _ => (intOf nv).toNat)
  case atStart => exact ⟨[], w.heap.size, 0, n, n0, by simp, rfl, rfl, hown, c1, hkept⟩
  case round =>
    clear hown c1 hkept
    obtain ⟨l, g, cap, m, mm, hlm, rfl, rfl, hown, cr, kr⟩ := hrel
    by_cases hm : 0 < m
    · go_wp2_with fail
      refine (l1Below _ _ _ cr).mono ?_
      rintro e w2 ⟨y, y0, y1, rfl, c2, k2⟩
      have y2 : y < (sg.size : Int) := by omega
      have y3 : y.toNat < sg.size := by omega
      have hown2 := own_kept hown k2 hlt
      have kept2 := kr.trans k2
      have hg := (hown.lt g rfl).1
      clear hown k2 kr cr
      obtain ⟨b, hb⟩ : ∃ b : UInt8, sg[y.toNat] = b := ⟨_, rfl⟩
      have n1 : l.length + 1 ≤ maxLen := by unfold maxLen; omega
      have n2 : w.heap.size ≤ w2.heap.size + 1 := by have := kept2.size; omega
      have n3 : (l.length + 1) * 1 ≤ 140737488355328 := by omega
      have mn : m ≤ n := by omega
      have HB : Hid _ := hb
      have HL : Hid _ := hlm
      clear hb hlm
      go_wp2_with (at_builtin; refine wpList_append_lies _ (by rfl) _ _ 22 (by rfl) w.heap.size 5 i (.int .u8 0) 1 1 Try.underlying22 hi hz0 hz1 hz2 rfl (by decide) _ _ _ (by rfl) (hown2.alloc _) ⟨w2.heap.size, 0, none⟩ 1 1 [.int .u8 (sg[y.toNat].toNat : Int)] (by rfl) rfl (World.news_of_block (heap_alloc_new w2 _)) (one_u8 _) (by decide) n1 n3 (by simpa using n2) (w2.heap.size + 1) (by simp) ?_; intro g1 cap1 w3 hown3 hgrow3 hat3 hlt3)
      have c3 := (c2.alloc _).grownBy hgrow3 (by omega)
      have k3 := (kept2.alloc _).grownBy hgrow3 hg
      clear hgrow3 hat3 hlt3 c2 kept2 hown2
      go_wp2_with fail
      go_roundw
      case rel =>
        rw [HB.out, bytes_snoc] at hown3
        have hl : (l ++ [b]).length = l.length + 1 := by simp
        exact ⟨l ++ [b], g1, cap1, m - 1, by omega, by rw [hl]; have := HL.out; omega, by rw [hl], rfl, by rw [hl]; exact hown3, c3, k3⟩
      case measure => simp [intOf]; omega
    · obtain ⟨_, _, hrow⟩ := Row.ofOwn hown
      have hconv := text_byteRow hrow l.length cap rfl
      have HL : Hid _ := hlm
      clear hlm hown hrow
      go_wp2_with fail
      go_ret
      refine ⟨⟨l.toArray⟩, ?_, rfl, cr, kr⟩
      have : (⟨l.toArray⟩ : ByteArray).size = l.length := rfl
      rw [this]
      have := HL.out
      omega

end Go.Proofs.Ytinngechdnglpaa.Draw
