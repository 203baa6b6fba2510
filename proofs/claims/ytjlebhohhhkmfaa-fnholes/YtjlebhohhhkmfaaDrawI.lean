/- Contracts of the draws of chapter 4's laws: DrawCut, DrawFirstHole, DrawAdded, DrawHasAll. -/
import Derived.Test.YtjlebhohhhkmfaaDrawH
namespace Go.Proofs.Ytjlebhohhhkmfaa.Hole
open Go.RowKit Draw
set_option linter.unusedVariables false

theorem res_tmp_cell {fn : Func} {p u : Tmp} {ty : TypeId} (h : fn.results = #[.tmp u, .cell p ty]) (tmps : Array Value) (P : Program) (w : World) :
    (results fn tmps).run P w = ((asAddr (tmps.getD p undef)).run P w).andThen fun a w₁ => ((loadVar ty a).run P w₁).andThen fun v w₂ => .ok (.tuple #[tmps.getD u undef, v]) w₂ := by
  simp only [results, h]
  simp [Sem.run_bind, Result.andThen]

theorem own_two {w : World} {B g cap k : Nat} {l : List Sp} (h : Own w B g cap l) (hk : k < l.length) : w.cell? ⟨g, k * 2, none⟩ = some (.int .i64 (l.getD k (0, 0)).1) ∧ w.cell? ⟨g, k * 2 + 1, none⟩ = some (.int .i64 (l.getD k (0, 0)).2) := by
  rcases h.spans with h | ⟨b, off, e, h⟩
  · simp [h] at hk
  · cases e
    have := h k hk
    rw [Nat.zero_add] at this
    exact this
theorem own_kept2 {w w' : World} {c B g cap : Nat} {l : List Sp} (h : Own w B g cap l) (k : Kept c w w') (hc : g ≠ c) : Own w' B g cap l := by
  refine World.ownsRow.kept (row := some c) h ⟨k.os, k.tape, k.output, k.size, fun i hi hne => k.block i hi (fun e => hne (by rw [e]))⟩ (.inr ?_)
  simp [Value.ownBlock]
  omega

set_option maxHeartbeats 1000000 in
theorem drawCut (a : Option Addr) (len cap : Nat) (w : World) (hb : Bytes w a len) (hl : len ≤ 4096) :
    Calls Try.prog 19 #[.slice a len cap] w fun x w' => ∃ (l : List Sp) (g c : Nat) (p : Int), x = .returned (.tuple #[.slice (some ⟨g, 0, none⟩) l.length c, .int .i64 p]) ∧ l.length ≤ 40 ∧ Own w' w.heap.size g c l ∧ Below w.heap.size w w' := by
  go_enter Try.func19, Try.ntmps19
  go_wp2_with fail
  refine (l1New a len cap _ hb hl).mono ?_
  rintro x w1 ⟨rfl, h, hw1⟩
  have c1 : Cur w1 w.heap.size := by rw [hw1]; exact cur_new hb hl h _
  have b1 : Below w.heap.size w w1 := by rw [hw1]; exact (Below.refl _ _).alloc (Nat.le_refl _) _
  have h1 : w.heap.size < w1.heap.size := by rw [hw1]; simp
  clear hw1
  go_wp2_with fail
  refine (l4Draw _ _ c1).mono ?_
  rintro x w2 ⟨l, g, cp, rfl, hl4, o2, c2, k2⟩
  have b2 : Below w.heap.size w w2 := b1.trans (k2.below (Nat.le_refl _) (by omega))
  clear k2 b1 c1
  go_wp2_with fail
  refine (l1DrawPlace _ _ c2).mono ?_
  rintro x w3 ⟨p, rfl, c3, k3⟩
  have o3 : Own w3 w.heap.size g cp l := own_mono (o2.kept k3 h1) (Nat.le_of_lt h1)
  have b3 : Below w.heap.size w w3 := b2.trans (k3.below (Nat.le_refl _) b2.size)
  have O3 : Hid (Own _ _ _ _ _) := o3
  clear o2 o3 k3 b2 c2
  go_wp2_with fail
  go_ret2
  exact ⟨l, g, cp, p, rfl, hl4, O3.out, b3⟩

set_option maxHeartbeats 1000000 in
theorem drawFirstHole (a : Option Addr) (len cap : Nat) (w : World) (hb : Bytes w a len) (hl : len ≤ 4096) :
    Calls Try.prog 21 #[.slice a len cap] w fun x w' => ∃ (l : List Sp) (g c : Nat) (p : Int), x = .returned (.tuple #[.slice (some ⟨g, 0, none⟩) l.length c, .int .i64 p]) ∧ l.length ≤ 40 ∧ Own w' w.heap.size g c l ∧ Below w.heap.size w w' := by
  go_enter Try.func21, Try.ntmps21
  go_wp2_with fail
  refine (drawCut a len cap _ hb hl).mono ?_
  rintro x w1 ⟨l, g, c, p, rfl, hl4, o1, b1⟩
  have O3 : Hid (Own _ _ _ _ _) := o1
  clear o1
  go_wp2_with fail
  go_ret2
  exact ⟨l, g, c, p, rfl, hl4, O3.out, b1⟩

set_option maxHeartbeats 1000000 in
theorem drawAdded (a : Option Addr) (len cap : Nat) (w : World) (hb : Bytes w a len) (hl : len ≤ 4096) :
    Calls Try.prog 10 #[.slice a len cap] w fun x w' => ∃ (l : List Sp) (g c : Nat) (f t : Int), x = .returned (.tuple #[.slice (some ⟨g, 0, none⟩) l.length c, .agg #[.int .i64 f, .int .i64 t]]) ∧ l.length ≤ 40 ∧ Own w' w.heap.size g c l ∧ Below w.heap.size w w' := by
  have bz : Below w.heap.size w (w.alloc (.cells #[.int .i64 0, .int .i64 0] 26)) := (Below.refl _ _).alloc (Nat.le_refl _) _
  have R0 := Box.one w 0 0 26
  have hz : (w.alloc (.cells #[.int .i64 0, .int .i64 0] 26)).heap.size = w.heap.size + 1 := by simp
  have hb0 := hb.below bz (Nat.le_refl _)
  go_enter Try.func10, Try.ntmps10
  go_wp2_with fail
  generalize w.alloc (.cells #[.int .i64 0, .int .i64 0] 26) = v at *
  refine (l1New a len cap _ hb0 hl).mono ?_
  rintro x w1 ⟨rfl, h, hw1⟩
  have c1 : Cur w1 v.heap.size := by rw [hw1]; exact cur_new hb0 hl h _
  have b1 : Below w.heap.size w w1 := by rw [hw1]; exact bz.alloc (by omega) _
  have h1 : v.heap.size < w1.heap.size := by rw [hw1]; simp
  have R1 : Box w1 w.heap.size (0, 0) := by rw [hw1]; exact R0.alloc _
  rw [hz] at c1 h1 ⊢
  clear hw1 hb0 bz R0 h
  go_wp2_with fail
  refine (l4Draw _ _ c1).mono ?_
  rintro x w2 ⟨l, g, cp, rfl, hl4, o2, c2, k2⟩
  have b2 : Below w.heap.size w w2 := b1.trans (k2.below (by omega) (by omega))
  have R2 := R1.kept k2 (by omega)
  have hg := (Own.lt o2).1
  clear k2 b1 c1 R1
  go_wp2_with fail
  refine (l4DrawSpan _ _ c2).mono ?_
  rintro x w3 ⟨f, t, rfl, c3, k3⟩
  have o3 : Own w3 w.heap.size g cp l := own_mono (o2.kept k3 h1) (by omega)
  have b3 : Below w.heap.size w w3 := b2.trans (k3.below (by omega) b2.size)
  obtain ⟨⟨r0, r1⟩, r2, r3⟩ := R2.kept k3 (by omega)
  have O3 : Hid (Own _ _ _ _ _) := (o3.setCell (p := ⟨w.heap.size, 0, none⟩) (by show w.heap.size ≠ g; omega) (.int .i64 f)).setCell (p := ⟨w.heap.size, 1, none⟩) (by show w.heap.size ≠ g; omega) (.int .i64 t)
  clear o2 o3 k3 b2 c2 R2
  go_wp2_with fail
  exact bodyPost_ret (v := .tuple #[.slice (some ⟨g, 0, none⟩) l.length cp, .agg #[.int .i64 f, .int .i64 t]]) (by rw [res_tmp_cell rfl]; go_simp) rfl ⟨l, g, cp, f, t, rfl, hl4, O3.out, (b3.setCell (Nat.le_refl _) _).setCell (Nat.le_refl _) _⟩

set_option maxHeartbeats 4000000 in
theorem drawHasAll (a : Option Addr) (len cap : Nat) (w : World) (hb : Bytes w a len) (hl : len ≤ 4096) :
    Calls Try.prog 12 #[.slice a len cap] w fun x w' => ∃ (l : List Sp) (g c : Nat) (f t : Int), x = .returned (.tuple #[.slice (some ⟨g, 0, none⟩) l.length c, .agg #[.int .i64 f, .int .i64 t]]) ∧ l.length ≤ 40 ∧ Own w' w.heap.size g c l ∧ Below w.heap.size w w' := by
  have bz : Below w.heap.size w (w.alloc (.cells #[.int .i64 0, .int .i64 0] 26)) := (Below.refl _ _).alloc (Nat.le_refl _) _
  have R0 := Box.one w 0 0 26
  have hz : (w.alloc (.cells #[.int .i64 0, .int .i64 0] 26)).heap.size = w.heap.size + 1 := by simp
  have hb0 := hb.below bz (Nat.le_refl _)
  have fin : ∀ {wx : World} {l : List Sp} {g cp : Nat} (f t : Int), w.heap.size ≠ g → Own wx w.heap.size g cp l → Below w.heap.size w wx → Own ((wx.setCell ⟨w.heap.size, 0, none⟩ (.int .i64 f)).setCell ⟨w.heap.size, 1, none⟩ (.int .i64 t)) w.heap.size g cp l ∧ Below w.heap.size w ((wx.setCell ⟨w.heap.size, 0, none⟩ (.int .i64 f)).setCell ⟨w.heap.size, 1, none⟩ (.int .i64 t)) :=
    fun f t hne o b => ⟨(o.setCell (p := ⟨w.heap.size, 0, none⟩) hne _).setCell (p := ⟨w.heap.size, 1, none⟩) hne _, (b.setCell (Nat.le_refl _) _).setCell (Nat.le_refl _) _⟩
  have FIN : Hid _ := @fin
  clear fin
  go_enter Try.func12, Try.ntmps12
  go_wp2_with fail
  generalize w.alloc (.cells #[.int .i64 0, .int .i64 0] 26) = v at *
  refine (l1New a len cap _ hb0 hl).mono ?_
  rintro x w1 ⟨rfl, h, hw1⟩
  have c1 : Cur w1 v.heap.size := by rw [hw1]; exact cur_new hb0 hl h _
  have b1 : Below w.heap.size w w1 := by rw [hw1]; exact bz.alloc (by omega) _
  have h1 : v.heap.size < w1.heap.size := by rw [hw1]; simp
  have R1 : Box w1 w.heap.size (0, 0) := by rw [hw1]; exact R0.alloc _
  rw [hz] at c1 h1 ⊢
  clear hw1 hb0 bz R0 h
  go_wp2_with fail
  refine (l4Draw _ _ c1).mono ?_
  rintro x w2 ⟨l, g, cp, rfl, hl4, o2, c2, k2⟩
  have b2 : Below w.heap.size w w2 := b1.trans (k2.below (by omega) (by omega))
  have R2 := R1.kept k2 (by omega)
  have hg := (Own.lt o2).1
  have hng : w.heap.size ≠ g := by omega
  clear k2 b1 c1 R1
  go_wp2_with fail
  refine (l4DrawSpan _ _ c2).mono ?_
  rintro x w3 ⟨f, t, rfl, c3, k3⟩
  have o3 := o2.kept k3 h1
  have b3 : Below w.heap.size w w3 := b2.trans (k3.below (by omega) b2.size)
  have R3 := R2.kept k3 (by omega)
  have hw3 := (Own.lt o3).2
  have R4 := R3.alloc (.cells #[.int .i64 f, .int .i64 t] 26)
  have S4 := Box.one w3 f t 26
  have o4 : Own (w3.alloc (.cells #[.int .i64 f, .int .i64 t] 26)) w.heap.size g cp l := own_mono (World.ownsRow.alloc o3 _) (by omega)
  have c4 := c3.alloc (.cells #[.int .i64 f, .int .i64 t] 26)
  have b4 := b3.alloc b3.size (.cells #[.int .i64 f, .int .i64 t] 26)
  have hRS : ¬ w.heap.size = w3.heap.size := by have := R3.lt; omega
  have hRS' : ¬ w3.heap.size = w.heap.size := by omega
  have hcS : w.heap.size + 1 < w3.heap.size := c3.lt
  have hSg : w3.heap.size ≠ g := by omega
  have HO : Hid (Own _ _ _ _ _) := o4
  have HR : Hid (Box _ _ _) := R4
  have HS : Hid (Box _ _ _) := S4
  clear o2 o3 k3 b2 c2 R2 R3 R4 S4 o4 b3 c3
  have hli : (0 : Int) ≤ (l.length : Int) := by omega
  by_cases hl0 : 0 < l.length
  · have hl0i : (0 : Int) < (l.length : Int) := by omega
    go_wp2_with fail
    refine (l1Once _ _ _ c4).mono ?_
    rintro x w5 ⟨q, rfl, c5, k5⟩
    have o5 : Own w5 w.heap.size g cp l := own_kept2 HO.out k5 (by omega)
    have b5 : Below w.heap.size w w5 := b4.trans (k5.below (by omega) b4.size)
    have R5 := HR.out.kept k5 (by omega)
    have S5 := HS.out.kept k5 (by omega)
    clear k5 c4 b4 HO HR HS
    cases q
    · obtain ⟨⟨r0, r1⟩, r2, r3⟩ := R5
      obtain ⟨⟨s0, s1⟩, s2, s3⟩ := S5
      have FO := FIN.out f t hng o5 b5
      have HFO : Hid _ := FO
      clear o5 b5 FO
      go_wp2_with fail
      go_region
      all_goals (go_wp2_with fail; exact bodyPost_ret (v := .tuple #[.slice (some ⟨g, 0, none⟩) l.length cp, .agg #[.int .i64 f, .int .i64 t]]) (by rw [res_tmp_cell rfl]; go_simp) rfl ⟨l, g, cp, f, t, rfl, hl4, HFO.out.1, HFO.out.2.drew⟩)
    · go_wp2_with fail
      refine (l1Below _ _ _ c5).mono ?_
      rintro x w6 ⟨k, k0, k1, rfl, c6, k6⟩
      have o6 : Own w6 w.heap.size g cp l := own_kept2 o5 k6 (by omega)
      have b6 : Below w.heap.size w w6 := b5.trans (k6.below (by omega) b5.size)
      have R6 := R5.kept k6 (by omega)
      have S6 := S5.kept k6 (by omega)
      clear k6 c5 b5 o5 R5 S5
      obtain ⟨k, rfl⟩ := Int.eq_ofNat_of_zero_le k0
      have hk : k < l.length := by omega
      have i0 : (0 : Int) ≤ (k : Int) := by omega
      have i1 : (k : Int) < (l.length : Int) := by omega
      obtain ⟨d0, d1⟩ := own_two o6 hk
      clear k1
      generalize l.getD k (0, 0) = p at *
      obtain ⟨f', t'⟩ := p
      simp only at d0 d1
      have S7 := S6.put f' t'
      have R7 : Box ((w6.setCell ⟨w3.heap.size, 0, none⟩ (.int .i64 f')).setCell ⟨w3.heap.size, 1, none⟩ (.int .i64 t')) w.heap.size (0, 0) := R6.same ((Below.heap_setCell _ _ _ _ hRS).trans (Below.heap_setCell _ _ _ _ hRS))
      have o7 : Own ((w6.setCell ⟨w3.heap.size, 0, none⟩ (.int .i64 f')).setCell ⟨w3.heap.size, 1, none⟩ (.int .i64 t')) w.heap.size g cp l := (o6.setCell (p := ⟨w3.heap.size, 0, none⟩) hSg _).setCell (p := ⟨w3.heap.size, 1, none⟩) hSg _
      have c7 := cur_set (p := ⟨w3.heap.size, 1, none⟩) (cur_set (p := ⟨w3.heap.size, 0, none⟩) c6 hcS (.int .i64 f')) hcS (.int .i64 t')
      have b7 := (b6.setCell (p := ⟨w3.heap.size, 0, none⟩) (by show w.heap.size ≤ w3.heap.size; omega) (.int .i64 f')).setCell (p := ⟨w3.heap.size, 1, none⟩) (by show w.heap.size ≤ w3.heap.size; omega) (.int .i64 t')
      obtain ⟨⟨s0, s1⟩, s2, s3⟩ := S6
      have H7 : Hid ((Box _ w3.heap.size _ ∧ Box _ w.heap.size _) ∧ Own _ _ _ _ _ ∧ Cur _ _ ∧ Below _ _ _) := ⟨⟨S7, R7⟩, o7, c7, b7⟩
      clear S7 R7 o7 c7 b7 o6 c6 b6 R6
      by_cases hD : (1 : Int) < wrap64 (t' - f')
      · go_wp2_with fail
        generalize (w6.setCell ⟨w3.heap.size, 0, none⟩ (.int .i64 f')).setCell ⟨w3.heap.size, 1, none⟩ (.int .i64 t') = w7 at *
        obtain ⟨⟨S7, R7⟩, o7, c7, b7⟩ := H7.out
        clear H7 s0 s1 s2 s3 d0 d1
        refine (l1Once _ _ _ c7).mono ?_
        rintro x w8 ⟨q, rfl, c8, k8⟩
        have o8 : Own w8 w.heap.size g cp l := own_kept2 o7 k8 (by omega)
        have b8 : Below w.heap.size w w8 := b7.trans (k8.below (by omega) b7.size)
        obtain ⟨⟨r0, r1⟩, r2, r3⟩ := R7.kept k8 (by omega)
        obtain ⟨⟨s0, s1⟩, s2, s3⟩ := S7.kept k8 (by omega)
        clear k8 c7 b7 o7 R7 S7
        cases q
        · have HFO : Hid _ := FIN.out f' t' hng o8 b8
          clear o8 b8
          go_wp2_with fail
          go_region
          all_goals (go_wp2_with fail; exact bodyPost_ret (v := .tuple #[.slice (some ⟨g, 0, none⟩) l.length cp, .agg #[.int .i64 f', .int .i64 t']]) (by rw [res_tmp_cell rfl]; go_simp) rfl ⟨l, g, cp, f', t', rfl, hl4, HFO.out.1, HFO.out.2.drew⟩)
        · have HFO : Hid _ := FIN.out (wrap64 (f' + 1)) t' hng (o8.setCell (p := ⟨w3.heap.size, 0, none⟩) hSg (.int .i64 (wrap64 (f' + 1)))) (b8.setCell (p := ⟨w3.heap.size, 0, none⟩) (by show w.heap.size ≤ w3.heap.size; omega) _)
          clear o8 b8
          go_wp2_with fail
          go_region
          all_goals (go_wp2_with fail; exact bodyPost_ret (v := .tuple #[.slice (some ⟨g, 0, none⟩) l.length cp, .agg #[.int .i64 (wrap64 (f' + 1)), .int .i64 t']]) (by rw [res_tmp_cell rfl]; go_simp) rfl ⟨l, g, cp, wrap64 (f' + 1), t', rfl, hl4, HFO.out.1, HFO.out.2.drew⟩)
      · go_wp2_with fail
        generalize (w6.setCell ⟨w3.heap.size, 0, none⟩ (.int .i64 f')).setCell ⟨w3.heap.size, 1, none⟩ (.int .i64 t') = w7 at *
        obtain ⟨⟨S7, R7⟩, o7, c7, b7⟩ := H7.out
        clear H7 s0 s1 s2 s3 d0 d1
        obtain ⟨⟨r0, r1⟩, r2, r3⟩ := R7
        obtain ⟨⟨s0, s1⟩, s2, s3⟩ := S7
        have HFO : Hid _ := FIN.out f' t' hng o7 b7
        clear c7 b7 o7
        go_region
        all_goals (go_wp2_with fail; first | exact bodyPost_ret (v := .tuple #[.slice (some ⟨g, 0, none⟩) l.length cp, .agg #[.int .i64 f', .int .i64 t']]) (by rw [res_tmp_cell rfl]; go_simp) rfl ⟨l, g, cp, f', t', rfl, hl4, HFO.out.1, HFO.out.2.drew⟩ | exact bodyPost_ret (v := .tuple #[.slice (some ⟨g, 0, none⟩) l.length cp, .agg #[.int .i64 f', .int .i64 t']]) (by rw [res_tmp_cell rfl]; go_simp) rfl ⟨l, g, cp, ⟨f', t', rfl⟩, hl4, HFO.out.1, HFO.out.2.drew⟩)
  · obtain ⟨⟨r0, r1⟩, r2, r3⟩ := HR.out
    obtain ⟨⟨s0, s1⟩, s2, s3⟩ := HS.out
    have FO := FIN.out f t hng HO.out b4
    have HFO : Hid _ := FO
    clear b4 FO HO HR HS
    have hl0i : ¬ (0 : Int) < (l.length : Int) := by omega
    go_wp2_with fail
    go_region
    all_goals (go_wp2_with fail; exact bodyPost_ret (v := .tuple #[.slice (some ⟨g, 0, none⟩) l.length cp, .agg #[.int .i64 f, .int .i64 t]]) (by rw [res_tmp_cell rfl]; go_simp) rfl ⟨l, g, cp, f, t, rfl, hl4, HFO.out.1, HFO.out.2.drew⟩)

end Go.Proofs.Ytjlebhohhhkmfaa.Hole
