/- Contracts of the draws of texts: l1DrawBytes; they return and turn no block but the cursor's. -/
import Derived.Test.YtecgfnpniklhhaaDrawB
import Derived.Test.YtecgfnpniklhhaaRowB
import Derived.Deep.AppendLies
namespace Go.Proofs.Ytecgfnpniklhhaa.Draw
open Go.RowKit
set_option linter.unusedVariables false

theorem infoU8 : (Try.prog.info? 5).map (fun i => (i.zero, i.size, i.bytes)) = some (some (.int .u8 0), 1, 1) := by kernel_rfl
theorem one_u8 (z : Int) : ∀ u ∈ [Value.int .u8 z], u.oneCell' = true := by
  intro u hu
  simp at hu
  subst hu
  rfl
/-- A row of the call's own stays while a block below it turns. -/
theorem own_kept {w w' : World} {B c g n cap k : Nat} {T : TypeId} {xs : List Value} (h : w.ownsRow B T k (.slice (some ⟨g, 0, none⟩) n cap) n xs) (hk : Kept c w w') (hc : c < B) : w'.ownsRow B T k (.slice (some ⟨g, 0, none⟩) n cap) n xs := by
  refine h.kept (row := some c) ⟨hk.os, hk.tape, hk.output, hk.size, fun i hi hne => hk.block i hi (fun e => hne (by rw [e]))⟩ (.inr ?_)
  have := (h.lt g rfl).1
  simp [Value.ownBlock]
  omega
theorem Kept.grownBy {c g n cap : Nat} {a w w' : World} (h : Kept c a w) (hg : w.grownBy w' (Value.slice (some ⟨g, 0, none⟩) n cap).ownBlock) (hs : a.heap.size ≤ g) : Kept c a w' :=
  ⟨hg.os.trans h.os, hg.tape.trans h.tape, hg.output.trans h.output, Nat.le_trans h.size hg.size, fun k hk hne => (hg.block k (Nat.lt_of_lt_of_le hk h.size) (by intro e; simp [Value.ownBlock] at e; omega)).trans (h.block k hk hne)⟩
theorem Cur.grownBy {c g n cap : Nat} {w w' : World} (h : Cur w c) (hg : w.grownBy w' (Value.slice (some ⟨g, 0, none⟩) n cap).ownBlock) (hs : c < g) : Cur w' c :=
  h.upto fun i hi => hg.block i (Nat.lt_of_le_of_lt hi h.lt) (by intro e; simp [Value.ownBlock] at e; omega)
theorem Cur.alloc {c : Nat} {w : World} (h : Cur w c) (o : Obj) : Cur (w.alloc o) c :=
  h.upto fun i hi => Below.heap_alloc _ _ _ (Nat.lt_of_le_of_lt hi h.lt)
theorem u8_of {x : Int} (h0 : 0 ≤ x) (h1 : x ≤ 255) : ((UInt8.ofNat x.toNat).toNat : Int) = x := by
  simp; omega
theorem bytes_snoc (l : List UInt8) (b : UInt8) : (l.map fun b => Value.int .u8 (b.toNat : Int)) ++ [Value.int .u8 (b.toNat : Int)] = (l ++ [b]).map fun b => Value.int .u8 (b.toNat : Int) := by simp

set_option maxHeartbeats 1000000 in
theorem l1DrawBytes (c : Nat) (most : Int) (w : World) (h : Cur w c) (m0 : 0 < most) (m1 : most ≤ 4096) :
    Calls Try.prog 31 #[.pointer (some ⟨c, 0, none⟩), .int .i64 most] w fun e w' => ∃ s : ByteArray, (s.size : Int) < most ∧ e = .returned (.string s) ∧ Cur w' c ∧ Kept c w w' := by
  have hlt := h.lt
  obtain ⟨i, hi, hz0, hz1, hz2⟩ := info_parts infoU8
  go_enter Try.func31, Try.ntmps31
  go_wp2_with fail
  refine (l1Below _ _ _ (h.alloc _)).mono ?_
  rintro e w1 ⟨n, n0, n1, rfl, c1, k1⟩
  have n2 : n < most := by omega
  have hown : w1.ownsRow w.heap.size 5 1 (.slice (some ⟨w.heap.size, 0, none⟩) 0 0) 0 [] := own_kept (World.ownsRow_made w #[] 0 (Nat.le_refl _) (Nat.zero_le _) rfl) k1 hlt
  have hkept : Kept c w w1 := ((Kept.refl c w).alloc _).trans k1
  clear k1 n1
  go_wp2_with fail
  go_loopw [5, 6] (fun v nv wr => ∃ (l : List UInt8) (g cap : Nat) (m : Int), 0 ≤ m ∧ (l.length : Int) + m = n ∧ v = .slice (some ⟨g, 0, none⟩) l.length cap ∧ nv = .int .i64 m ∧ wr.ownsRow w.heap.size 5 1 (.slice (some ⟨g, 0, none⟩) l.length cap) l.length (l.map fun b => Value.int .u8 (b.toNat : Int)) ∧ Cur wr c ∧ Kept c w wr) (fun _ nv _ => (intOf nv).toNat)
  case atStart => exact ⟨[], w.heap.size, 0, n, n0, by simp, rfl, rfl, hown, c1, hkept⟩
  case round =>
    clear hown c1 hkept
    obtain ⟨l, g, cap, m, mm, hlm, rfl, rfl, hown, cr, kr⟩ := hrel
    by_cases hm : 0 < m
    · go_wp2_with fail
      refine (l1Byte _ _ cr).mono ?_
      rintro e w2 ⟨x, x0, x1, rfl, c2, k2⟩
      have hown2 := own_kept hown k2 hlt
      have kept2 := kr.trans k2
      have hg := (hown.lt g rfl).1
      clear hown k2 kr cr
      obtain ⟨b, hb⟩ : ∃ b : UInt8, (b.toNat : Int) = x := ⟨_, u8_of x0 x1⟩
      have e1 : IntKind.u8.wrap x = x := by rw [IntKind.wrap_u8]; omega
      have n1 : l.length + 1 ≤ maxLen := by unfold maxLen; omega
      have n2 : w.heap.size ≤ w2.heap.size + 1 := by have := kept2.size; omega
      have n3 : (l.length + 1) * 1 ≤ 140737488355328 := by omega
      have mn : m ≤ n := by omega
      have HB : Hid _ := hb
      have HL : Hid _ := hlm
      clear hb hlm
      go_wp2_with (at_builtin; refine wpList_append_lies _ (by rfl) _ _ 22 (by rfl) w.heap.size 5 i (.int .u8 0) 1 1 Try.underlying22 hi hz0 hz1 hz2 rfl (by decide) _ _ _ (by rfl) (hown2.alloc _) ⟨w2.heap.size, 0, none⟩ 1 1 [.int .u8 x] (by rfl) rfl (World.news_of_block (heap_alloc_new w2 _)) (one_u8 _) (by decide) n1 n3 (by simpa using n2) (w2.heap.size + 1) (by simp) ?_; intro g1 cap1 w3 hown3 hgrow3 hat3 hlt3)
      have c3 := (c2.alloc _).grownBy hgrow3 (by omega)
      have k3 := (kept2.alloc _).grownBy hgrow3 hg
      clear hgrow3 hat3 hlt3 c2 kept2 hown2
      go_wp2_with fail
      go_roundw
      case rel =>
        rw [← HB.out, bytes_snoc] at hown3
        have hl : (l ++ [b]).length = l.length + 1 := by simp
        exact ⟨l ++ [b], g1, cap1, m - 1, by omega, by rw [hl]; have := HL.out; omega, by rw [hl], rfl, by rw [hl]; exact hown3, c3, k3⟩
      case measure => simp [intOf]; omega
    · obtain ⟨_, _, hrow⟩ := Row.ofOwn hown
      have hconv := text_byteRow hrow l.length cap rfl
      have HL : Hid _ := hlm
      clear hlm hown hrow
      go_wp2_with fail
      go_ret
      refine ⟨⟨l.toArray⟩, ?_, rfl, cr, kr⟩
      have : (⟨l.toArray⟩ : ByteArray).size = l.length := rfl
      rw [this]
      have := HL.out
      omega

theorem four (a b c d : Int) (x : Int) (h0 : 0 ≤ x) (h1 : x < 4) : ∃ v : Int, (#[.int .i64 a, .int .i64 b, .int .i64 c, .int .i64 d] : Array Value)[x.toNat]? = some (.int .i64 v) ∧ ∀ h, ([.int .i64 a, .int .i64 b, .int .i64 c, .int .i64 d] : List Value)[x.toNat]'h = .int .i64 v := by
  have h : x = 0 ∨ x = 1 ∨ x = 2 ∨ x = 3 := by omega
  rcases h with rfl | rfl | rfl | rfl
  · exact ⟨a, rfl, fun _ => rfl⟩
  · exact ⟨b, rfl, fun _ => rfl⟩
  · exact ⟨c, rfl, fun _ => rfl⟩
  · exact ⟨d, rfl, fun _ => rfl⟩

end Go.Proofs.Ytecgfnpniklhhaa.Draw
