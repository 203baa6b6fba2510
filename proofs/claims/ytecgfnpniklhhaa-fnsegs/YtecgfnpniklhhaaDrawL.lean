/- Contracts of the draws of letters (l3Draw, DrawSegOk, DrawShowSeg, DrawSpoilt): they return and turn no block that was there but the cursor's. -/
import Derived.Test.YtecgfnpniklhhaaSegC
namespace Go.Proofs.Ytecgfnpniklhhaa.Draw
open Go.RowKit
set_option linter.unusedVariables false

theorem results_cell1 {fn : Func} {p : Tmp} {ty : TypeId} (h : fn.results = #[.cell p ty]) (tmps : Array Value) (P : Program) (w : World) :
    (results fn tmps).run P w = ((asAddr (tmps.getD p undef)).run P w).andThen fun a w₁ => (loadVar ty a).run P w₁ := by
  simp only [results, h]
  simp [Sem.run_bind, Result.andThen]

/-- What is known of a block that a call left alone. -/
def Blk (w : World) (g : Nat) (C : Array Value) : Prop := (∀ i, w.cell? ⟨g, i, none⟩ = C[i]?) ∧ (∀ i, w.frozen? ⟨g, i, none⟩ = false) ∧ g < w.heap.size
theorem Blk.new (w : World) (C : Array Value) (T : TypeId) : Blk (w.alloc (.cells C T)) w.heap.size C := ⟨fun i => by simp, fun i => by simp, by simp⟩
theorem Blk.kept {w w' : World} {g c : Nat} {C : Array Value} (h : Blk w g C) (k : Kept c w w') (hc : g ≠ c) : Blk w' g C :=
  ⟨fun i => (k.cell (p := ⟨g, i, none⟩) h.2.2 hc).trans (h.1 i), fun i => (k.frozen (p := ⟨g, i, none⟩) h.2.2 hc).trans (h.2.1 i), Nat.lt_of_lt_of_le h.2.2 k.size⟩
theorem Blk.alloc {w : World} {g : Nat} {C : Array Value} (h : Blk w g C) (o : Obj) : Blk (w.alloc o) g C :=
  h.kept (c := w.heap.size) ((Kept.refl _ _).alloc o) (Nat.ne_of_lt h.2.2)
theorem Blk.set {w : World} {g : Nat} {C : Array Value} (h : Blk w g C) (j : Nat) (hj : j < C.size) (v : Value) : Blk (w.setCell ⟨g, j, none⟩ v) g (C.setIfInBounds j v) := by
  refine ⟨fun i => ?_, fun i => (World.frozen?_setCell w _ _ _).trans (h.2.1 i), by simpa [World.setCell] using h.2.2⟩
  by_cases e : i = j
  · subst e
    have h1 := h.1 i
    rw [Array.getElem?_eq_getElem hj] at h1
    rw [World.cell?_setCell_same w _ _ h1]
    simp [hj]
  · rw [World.cell?_setCell_other _ _ _ _ (by intro c; cases c; exact e rfl), h.1 i]
    simp [Ne.symm e]

theorem Cur.setCell {w : World} {c : Nat} (h : Cur w c) {p : Addr} (hp : c < p.block) (v : Value) : Cur (w.setCell p v) c := h.upto fun i hi => Below.heap_setCell _ _ _ _ (by omega)
theorem cur_six {w : World} {c R : Nat} (h : Cur w c) (hR : c < R) (v0 v1 v2 v3 v4 v5 : Value) : Cur ((((((w.setCell ⟨R, 0, none⟩ v0).setCell ⟨R, 1, none⟩ v1).setCell ⟨R, 2, none⟩ v2).setCell ⟨R, 3, none⟩ v3).setCell ⟨R, 4, none⟩ v4).setCell ⟨R, 5, none⟩ v5) c :=
  (((((h.setCell hR _).setCell hR _).setCell hR _).setCell hR _).setCell hR _).setCell hR _
theorem kept_six {a w : World} {c R : Nat} (h : Kept c a w) (hR : a.heap.size ≤ R) (v0 v1 v2 v3 v4 v5 : Value) : Kept c a ((((((w.setCell ⟨R, 0, none⟩ v0).setCell ⟨R, 1, none⟩ v1).setCell ⟨R, 2, none⟩ v2).setCell ⟨R, 3, none⟩ v3).setCell ⟨R, 4, none⟩ v4).setCell ⟨R, 5, none⟩ v5) :=
  (((((h.setCell (.inr hR) _).setCell (.inr hR) _).setCell (.inr hR) _).setCell (.inr hR) _).setCell (.inr hR) _).setCell (.inr hR) _

theorem three (a b c : Int) (x : Int) (h0 : 0 ≤ x) (h1 : x < 3) : ∃ v : Int, (#[.int .i64 a, .int .i64 b, .int .i64 c] : Array Value)[x.toNat]? = some (.int .i64 v) := by
  have h : x = 0 ∨ x = 1 ∨ x = 2 := by omega
  rcases h with rfl | rfl | rfl
  · exact ⟨a, rfl⟩
  · exact ⟨b, rfl⟩
  · exact ⟨c, rfl⟩

set_option maxHeartbeats 4000000 in
theorem l3Draw (c : Nat) (w : World) (h : Cur w c) :
    Calls Try.prog 17 #[.pointer (some ⟨c, 0, none⟩)] w fun x w' => ∃ (f t : Int) (b : ByteArray) (e : Bool) (a r : Int), b.size ≤ 41 ∧ x = .returned (.agg #[.int .i64 f, .int .i64 t, .string b, .bool e, .int .i64 a, .int .i64 r]) ∧ Cur w' c ∧ Kept c w w' := by
  have hlt := h.lt
  have hR : w.heap.size ≠ c := by omega
  go_enter Try.func17, Try.ntmps17
  go_wp2_with fail
  refine (l1Below _ _ _ (h.alloc _)).mono ?_
  rintro x w1 ⟨f, f0, f1, rfl, c1, k1⟩
  have B1 := (Blk.new w _ _).kept k1 hR
  have k01 := ((Kept.refl c w).alloc _).trans k1
  clear k1
  go_wp2_with fail
  refine (l1Below _ _ _ c1).mono ?_
  rintro x w2 ⟨t, t0, t1, rfl, c2, k2⟩
  go_wp2_with fail
  refine (l1Below _ _ _ c2).mono ?_
  rintro x w3 ⟨a, a0, a1, rfl, c3, k3⟩
  go_wp2_with fail
  refine (l1Below _ _ _ c3).mono ?_
  rintro x w4 ⟨r, r0, r1, rfl, c4, k4⟩
  go_wp2_with fail
  refine (l1Once _ _ _ c4).mono ?_
  rintro x w5 ⟨e, rfl, c5, k5⟩
  go_wp2_with fail
  refine (l1DrawBytes _ _ _ c5 (by decide) (by decide)).mono ?_
  rintro x w6 ⟨b, hb, rfl, c6, k6⟩
  have kk := (((k2.trans k3).trans k4).trans k5).trans k6
  have B6 := B1.kept kk hR
  have k06 := k01.trans kk
  have hlt6 := c6.lt
  clear k2 k3 k4 k5 k6 kk B1 k01 c1 c2 c3 c4 c5 f0 f1 t0 t1 a0 a1 r0 r1
  have hG : w6.heap.size ≠ c := by omega
  have hGR : w6.heap.size ≠ w.heap.size := by have := B6.2.2; omega
  generalize hRR : w.heap.size = R at *
  have HRR : Hid _ := hRR
  clear hRR
  go_wp2_with fail
  refine (l1Once _ _ _ (c6.alloc _)).mono ?_
  rintro x w7 ⟨o, rfl, c7, k7⟩
  have BG := (Blk.new w6 _ _).kept k7 hG
  have BR := (B6.alloc _).kept k7 hR
  have k07 := (k06.alloc _).trans k7
  have hRs : w.heap.size ≤ R := Nat.le_of_eq HRR.out
  have hGs : w.heap.size ≤ w6.heap.size := k06.size
  have hcG : c < w6.heap.size := hlt6
  have hb41 : b.size ≤ 41 := by omega
  clear k7 c6 k06 B6
  generalize w6.heap.size = G at *
  cases o
  · obtain ⟨g0, g1, -⟩ := BG
    obtain ⟨r0, r1, -⟩ := BR
    go_wp2_with fail
    exact bodyPost_ret (v := .agg #[.int .i64 f, .int .i64 t, .string b, .bool e, .int .i64 a, .int .i64 r]) (by rw [results_cell1 rfl]; go_simp) rfl ⟨f, t, b, e, a, r, hb41, rfl, cur_six c7 hlt _ _ _ _ _ _, kept_six k07 hRs _ _ _ _ _ _⟩
  · go_wp2_with fail
    refine (l1Below _ _ _ c7).mono ?_
    rintro x w8 ⟨q, q0, q1, rfl, c8, k8⟩
    have BG8 := BG.kept k8 hG
    have BR8 := BR.kept k8 hR
    have k08 := k07.trans k8
    clear BG BR k8 k07 c7
    have hq : q = 0 ∨ q = 1 ∨ q = 2 ∨ q = 3 := by omega
    clear q0 q1
    rcases hq with rfl | rfl | rfl | rfl
    · go_wp2_with fail
      refine (l1DrawMark _ _ c8).mono ?_
      rintro x w9 ⟨v, rfl, c9, k9⟩
      obtain ⟨g0, g1, -⟩ := BG8.kept k9 hG
      obtain ⟨r0, r1, -⟩ := BR8.kept k9 hR
      have k09 := k08.trans k9
      clear k9 BG8 BR8 k08 c8
      go_wp2_with fail
      exact bodyPost_ret (v := .agg #[.int .i64 v, .int .i64 t, .string b, .bool e, .int .i64 a, .int .i64 r]) (by rw [results_cell1 rfl]; go_simp) rfl ⟨v, t, b, e, a, r, hb41, rfl, cur_six (c9.setCell hcG _) hlt _ _ _ _ _ _, kept_six (k09.setCell (.inr hGs) _) hRs _ _ _ _ _ _⟩
    · go_wp2_with fail
      refine (l1Below _ _ _ (c8.alloc _)).mono ?_
      rintro x w9 ⟨q, q0, q1, rfl, c9, k9⟩
      have q2 : q < 3 := by omega
      obtain ⟨v, hv⟩ := three (-1) 65535 65536 q q0 q2
      have hl8 := c8.lt
      have hc := (k9.cell (p := ⟨w8.heap.size, q.toNat, none⟩) (by simp) (show w8.heap.size ≠ c by omega)).trans ((World.cell?_alloc_new _ _ _ _).trans hv)
      obtain ⟨g0, g1, -⟩ := (BG8.alloc _).kept k9 hG
      obtain ⟨r0, r1, -⟩ := (BR8.alloc _).kept k9 hR
      have k09 := (k08.alloc _).trans k9
      clear k9 BG8 BR8 k08 c8 hv q1
      go_wp2_with fail
      exact bodyPost_ret (v := .agg #[.int .i64 f, .int .i64 t, .string b, .bool e, .int .i64 a, .int .i64 v]) (by rw [results_cell1 rfl]; go_simp) rfl ⟨f, t, b, e, a, v, hb41, rfl, cur_six (c9.setCell hcG _) hlt _ _ _ _ _ _, kept_six (k09.setCell (.inr hGs) _) hRs _ _ _ _ _ _⟩
    · go_wp2_with fail
      refine (l1Below _ _ _ c8).mono ?_
      rintro x w9 ⟨q, q0, q1, rfl, c9, k9⟩
      have q2 : q < 2 := by omega
      obtain ⟨n, hn⟩ : ∃ n : Nat, 40 + q = (n : Int) := ⟨(40 + q).toNat, by omega⟩
      have hn41 : n ≤ 41 := by omega
      have HNN : Hid _ := hn
      have BG9 := BG8.kept k9 hG
      have BR9 := BR8.kept k9 hR
      have k09 := k08.trans k9
      clear k9 BG8 BR8 k08 c8 q1 hn
      obtain ⟨i, hi, hz0, hz1, hz2⟩ := info_parts infoU8
      have hby : i.bytes * n ≤ 281474976710656 := by rw [hz2]; omega
      have hmx : n ≤ maxLen := by unfold maxLen; omega
      go_wp2_with (at_make; refine wpList_make_full _ (by rfl) _ _ 22 (by rfl) w9.heap.size 5 i (.int .u8 0) 1 Try.underlying22 hi hz0 hz1 .i64 .i64 _ _ n (by rfl) (by rfl) HNN.out HNN.out hby hmx (Nat.le_refl _) ?_; intro w10 hown hgrow; have hback := text_byteRow (Seg.made_row1 hown) n n (by simp); have k10 : Kept c w9 w10 := ⟨hgrow.os, hgrow.tape, hgrow.output, hgrow.size, fun k hk _ => hgrow.block k hk (by simp)⟩; obtain ⟨g0, g1, -⟩ := BG9.kept k10 hG; obtain ⟨r0, r1, -⟩ := BR9.kept k10 hR)
      have c10 : Cur w10 c := c9.upto fun k hk => hgrow.block k (Nat.lt_of_le_of_lt hk c9.lt) (by simp)
      have k0 := k09.trans k10
      exact bodyPost_ret (v := .agg #[.int .i64 f, .int .i64 t, .string ⟨(List.replicate n 0).toArray⟩, .bool e, .int .i64 a, .int .i64 r]) (by rw [results_cell1 rfl]; go_simp) rfl ⟨f, t, ⟨(List.replicate n 0).toArray⟩, e, a, r, by show (List.replicate n (0 : UInt8)).length ≤ 41; simpa using hn41, rfl, cur_six (c10.setCell hcG _) hlt _ _ _ _ _ _, kept_six (k0.setCell (.inr hGs) _) hRs _ _ _ _ _ _⟩
    · go_wp2_with fail
      refine (l1DrawMark _ _ c8).mono ?_
      rintro x w9 ⟨v, rfl, c9, k9⟩
      obtain ⟨g0, g1, -⟩ := BG8.kept k9 hG
      obtain ⟨r0, r1, -⟩ := BR8.kept k9 hR
      have k09 := k08.trans k9
      clear k9 BG8 BR8 k08 c8
      go_wp2_with fail
      exact bodyPost_ret (v := .agg #[.int .i64 f, .int .i64 t, .string b, .bool e, .int .i64 v, .int .i64 r]) (by rw [results_cell1 rfl]; go_simp) rfl ⟨f, t, b, e, v, r, hb41, rfl, cur_six (c9.setCell hcG _) hlt _ _ _ _ _ _, kept_six (k09.setCell (.inr hGs) _) hRs _ _ _ _ _ _⟩

set_option maxHeartbeats 1000000 in
theorem drawSegOk (a : Option Addr) (len cap : Nat) (w : World) (hb : Bytes w a len) (hl : len ≤ 4096) :
    Calls Try.prog 13 #[.slice a len cap] w fun x w' => ∃ (f t : Int) (b : ByteArray) (e : Bool) (a r : Int), b.size ≤ 41 ∧ x = .returned (.agg #[.int .i64 f, .int .i64 t, .string b, .bool e, .int .i64 a, .int .i64 r]) ∧ Below w.heap.size w w' := by
  have hR : w.heap.size ≠ w.heap.size + 1 := by omega
  go_enter Try.func13, Try.ntmps13
  go_wp2_with fail
  have bz : Below w.heap.size w (w.alloc (.cells #[.int .i64 0, .int .i64 0, .string ⟨#[]⟩, .bool false, .int .i64 0, .int .i64 0] 25)) := (Below.refl _ _).alloc (Nat.le_refl _) _
  have B0 := Blk.new w #[.int .i64 0, .int .i64 0, .string ⟨#[]⟩, .bool false, .int .i64 0, .int .i64 0] 25
  have hz : (w.alloc (.cells #[.int .i64 0, .int .i64 0, .string ⟨#[]⟩, .bool false, .int .i64 0, .int .i64 0] 25)).heap.size = w.heap.size + 1 := by simp
  have hb0 := hb.below bz (Nat.le_refl _)
  generalize w.alloc (.cells #[.int .i64 0, .int .i64 0, .string ⟨#[]⟩, .bool false, .int .i64 0, .int .i64 0] 25) = v at *
  refine (l1New a len cap _ hb0 hl).mono ?_
  rintro x w1 ⟨rfl, h, hw1⟩
  have c1 : Cur w1 v.heap.size := by rw [hw1]; exact cur_new hb0 hl h _
  have b1 : Below w.heap.size w w1 := by rw [hw1]; exact bz.alloc (by omega) _
  have B1 : Blk w1 w.heap.size #[.int .i64 0, .int .i64 0, .string ⟨#[]⟩, .bool false, .int .i64 0, .int .i64 0] := by rw [hw1]; exact B0.alloc _
  have h1 : w.heap.size + 1 ≤ w1.heap.size := by rw [hw1]; simp; omega
  clear hw1 B0 hb0 bz
  rw [hz] at c1 ⊢
  go_wp2_with fail
  refine (l3Draw _ _ c1).mono ?_
  rintro x w2 ⟨f, t, b, e, g, r, hbs, rfl, c2, k2⟩
  obtain ⟨r0, r1, -⟩ := B1.kept k2 hR
  have b2 : Below w.heap.size w w2 := b1.trans (k2.below (by omega) (by omega))
  clear k2 B1 b1 hz
  go_wp2_with fail
  exact bodyPost_ret (v := .agg #[.int .i64 f, .int .i64 t, .string b, .bool e, .int .i64 g, .int .i64 r]) (by rw [results_cell1 rfl]; go_simp) rfl ⟨f, t, b, e, g, r, hbs, rfl, (((((b2.setCell (Nat.le_refl _) _).setCell (Nat.le_refl _) _).setCell (Nat.le_refl _) _).setCell (Nat.le_refl _) _).setCell (Nat.le_refl _) _).setCell (Nat.le_refl _) _⟩

theorem six (x : Int) (h0 : 0 ≤ x) (h1 : x < 6) : ∃ v : Int, (#[.int .i64 0, .int .i64 1, .int .i64 255, .int .i64 256, .int .i64 7, .int .i64 128] : Array Value)[x.toNat]? = some (.int .i64 v) ∧ ∀ h, ([.int .i64 0, .int .i64 1, .int .i64 255, .int .i64 256, .int .i64 7, .int .i64 128] : List Value)[x.toNat]'h = .int .i64 v := by
  have h : x = 0 ∨ x = 1 ∨ x = 2 ∨ x = 3 ∨ x = 4 ∨ x = 5 := by omega
  rcases h with rfl | rfl | rfl | rfl | rfl | rfl <;> exact ⟨_, rfl, fun _ => rfl⟩
theorem cell_behind2 {w5 w6 : World} {c j : Nat} {C : Array Value} {T : TypeId} {v : Value} (k : Kept c (w5.alloc (.cells C T)).drew w6) (hc : w5.heap.size ≠ c) (hv : C[j]? = some v) : w6.cell? ⟨w5.heap.size, j, none⟩ = some v :=
  (k.cell (p := ⟨w5.heap.size, j, none⟩) (by show w5.heap.size < (w5.alloc (.cells C T)).heap.size; simp) hc).trans ((World.cell?_alloc_new w5 _ _ _).trans hv)

end Go.Proofs.Ytecgfnpniklhhaa.Draw
