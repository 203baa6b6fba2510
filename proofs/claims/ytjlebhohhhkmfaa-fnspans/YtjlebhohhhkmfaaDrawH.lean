/- Contracts of the draws of chapter 4: l4DrawSpan, l4Draw; they return and turn no block but the cursor's. -/
import Derived.Test.YtjlebhohhhkmfaaHoleE
import Derived.Test.YtjlebhohhhkmfaaDrawS
import Derived.Deep.Cut
namespace Go.Proofs.Ytjlebhohhhkmfaa.Hole
open Go.RowKit Draw
set_option linter.unusedVariables false

theorem cur_set {w : World} {c : Nat} (h : Cur w c) {p : Addr} (hp : c < p.block) (v : Value) : Cur (w.setCell p v) c := h.upto fun i hi => Below.heap_setCell _ _ _ _ (by omega)
theorem Box.kept {w w' : World} {k c : Nat} {s : Sp} (h : Box w k s) (hk : Kept c w w') (hne : k ≠ c) : Box w' k s := h.same (hk.block k h.lt hne)
theorem res_cell1 {fn : Func} {p : Tmp} {ty : TypeId} (h : fn.results = #[.cell p ty]) (tmps : Array Value) (P : Program) (w : World) :
    (results fn tmps).run P w = ((asAddr (tmps.getD p undef)).run P w).andThen fun a w₁ => (loadVar ty a).run P w₁ := by
  simp only [results, h]
  simp [Sem.run_bind, Result.andThen]
theorem ends4 (f x : Int) (h0 : 0 ≤ x) (h1 : x < 4) : ∃ v : Int, (#[.int .i64 f, .int .i64 (-1), .int .i64 1000000000, .int .i64 1000000001] : Array Value)[x.toNat]? = some (.int .i64 v) := by
  have h : x = 0 ∨ x = 1 ∨ x = 2 ∨ x = 3 := by omega
  rcases h with rfl | rfl | rfl | rfl <;> exact ⟨_, rfl⟩

set_option maxHeartbeats 2000000 in
theorem l4DrawSpan (c : Nat) (w : World) (h : Cur w c) :
    Calls Try.prog 33 #[.pointer (some ⟨c, 0, none⟩)] w fun x w' => ∃ f t : Int, x = .returned (.agg #[.int .i64 f, .int .i64 t]) ∧ Cur w' c ∧ Kept c w w' := by
  have hlt := h.lt
  have R0 := Box.one w 0 0 26
  have ka : Kept c w (w.alloc (.cells #[.int .i64 0, .int .i64 0] 26)) := (Kept.refl c w).alloc _
  go_enter Try.func33, Try.ntmps33
  go_wp2_with fail
  refine (l1Below _ _ _ (h.alloc _)).mono ?_
  rintro x w1 ⟨f, f0, f1, rfl, c1, k1⟩
  have R1 := R0.kept k1 (by omega)
  have kk1 := ka.trans k1
  have hR1 := R1.lt
  clear R0 ka k1 h
  go_wp2_with fail
  refine (l1Below _ _ _ c1).mono ?_
  rintro x w2 ⟨y, y0, y1, rfl, c2, k2⟩
  have R2 := (R1.kept k2 (by omega)).alloc (.cells #[.int .i64 f, .int .i64 (f + 1 + y)] 26)
  have S2 := Box.one w2 f (f + 1 + y) 26
  have kk2 := (kk1.trans k2).alloc (.cells #[.int .i64 f, .int .i64 (f + 1 + y)] 26)
  have hR2 : w.heap.size < w2.heap.size := Nat.lt_of_lt_of_le hR1 k2.size
  have e1 : IntKind.i64.wrap (f + 1) = f + 1 := by rw [IntKind.wrap_i64]; omega
  have e2 : IntKind.i64.wrap (f + 1 + y) = f + 1 + y := by rw [IntKind.wrap_i64]; omega
  clear R1 kk1 k2 c1
  go_wp2_with fail
  refine (l1Once _ _ _ (c2.alloc _)).mono ?_
  rintro x w3 ⟨q, rfl, c3, k3⟩
  have R3 := R2.kept k3 (by omega)
  have S3 := S2.kept k3 (by omega)
  have kk3 := kk2.trans k3
  have hne : ¬ w.heap.size = w2.heap.size := by omega
  have hne' : ¬ w2.heap.size = w.heap.size := by omega
  have hcw : ¬ w.heap.size = c := by omega
  have hc2 : ¬ w2.heap.size = c := by omega
  have h23 : w2.heap.size < w3.heap.size := S3.lt
  clear R2 S2 kk2 k3 c2
  cases q
  · obtain ⟨⟨r0, r1⟩, r2, r3⟩ := R3
    obtain ⟨⟨s0, s1⟩, s2, s3⟩ := S3
    go_wp2_with fail
    exact bodyPost_ret (v := .agg #[.int .i64 f, .int .i64 (f + 1 + y)]) (by rw [res_cell1 rfl]; go_simp) rfl ⟨f, f + 1 + y, rfl, cur_set (cur_set c3 (by show c < w.heap.size; omega) _) (by show c < w.heap.size; omega) _, (kk3.setCell (.inr (Nat.le_refl _)) _).setCell (.inr (Nat.le_refl _)) _⟩
  · have R4 := R3.alloc (.cells #[.int .i64 f, .int .i64 (-1), .int .i64 1000000000, .int .i64 1000000001] 2)
    have S4 := S3.alloc (.cells #[.int .i64 f, .int .i64 (-1), .int .i64 1000000000, .int .i64 1000000001] 2)
    have kk4 := kk3.alloc (.cells #[.int .i64 f, .int .i64 (-1), .int .i64 1000000000, .int .i64 1000000001] 2)
    clear R3 S3 kk3
    go_wp2_with fail
    refine (l1Below _ _ _ (c3.alloc _)).mono ?_
    rintro x w5 ⟨z, z0, z1, rfl, c5, k5⟩
    have R5 := R4.kept k5 (by omega)
    have S5 := S4.kept k5 (by omega)
    have kk5 := kk4.trans k5
    have z2 : z < 4 := by omega
    obtain ⟨v, hv⟩ := ends4 f z z0 z2
    have hc := (k5.cell (p := ⟨w3.heap.size, z.toNat, none⟩) (by simp) (show w3.heap.size ≠ c by omega)).trans ((World.cell?_alloc_new _ _ _ _).trans hv)
    have HV : Hid _ := hv
    obtain ⟨⟨r0, r1⟩, r2, r3⟩ := R5
    obtain ⟨⟨s0, s1⟩, s2, s3⟩ := S5
    have i4 : z < (4 : Int) := z2
    clear R4 S4 kk4 k5 hv c3 z1
    go_wp2_with fail
    exact bodyPost_ret (v := .agg #[.int .i64 f, .int .i64 v]) (by rw [res_cell1 rfl]; go_simp) rfl ⟨f, v, rfl, cur_set (cur_set (cur_set c5 (by show c < w2.heap.size; omega) _) (by show c < w.heap.size; omega) _) (by show c < w.heap.size; omega) _, ((kk5.setCell (.inr (by show w.heap.size ≤ w2.heap.size; omega)) _).setCell (.inr (Nat.le_refl _)) _).setCell (.inr (Nat.le_refl _)) _⟩

theorem addStep_len (st : List Sp × Bool × Sp) (x : Sp) : (addStep st x).1.length + (if (addStep st x).2.1 then 0 else 1) ≤ st.1.length + (if st.2.1 then 0 else 1) + 1 := by
  obtain ⟨out, put, s⟩ := st
  unfold addStep
  dsimp only
  split
  · cases put <;> simp
  · split
    · cases put <;> simp
    · cases put <;> simp
theorem add_len (l : List Sp) (s : Sp) : (addL l s).length ≤ l.length + 1 := by
  have h : ∀ (l : List Sp) (st : List Sp × Bool × Sp), (l.foldl addStep st).1.length + (if (l.foldl addStep st).2.1 then 0 else 1) ≤ st.1.length + (if st.2.1 then 0 else 1) + l.length := by
    intro l
    induction l with
    | nil => intro st; exact Nat.le_refl _
    | cons x l ih =>
      intro st
      have h1 := ih (addStep st x)
      have h2 := addStep_len st x
      rw [List.foldl_cons, List.length_cons]
      omega
  have := h l ([], false, s)
  unfold addL addAll
  split
  · rename_i e
    rw [e] at this
    simp at this
    omega
  · rename_i e
    simp only [Bool.not_eq_true] at e
    rw [e] at this
    simp at this ⊢
    omega
theorem Own.kept {w w' : World} {c B g cap : Nat} {l : List Sp} (h : Own w B g cap l) (k : Kept c w w') (hc : c < B) : Own w' B g cap l := own_kept h k hc

set_option maxHeartbeats 4000000 in
theorem l4Draw (c : Nat) (w : World) (h : Cur w c) :
    Calls Try.prog 32 #[.pointer (some ⟨c, 0, none⟩)] w fun x w' => ∃ (l : List Sp) (g cap : Nat), x = .returned (.slice (some ⟨g, 0, none⟩) l.length cap) ∧ l.length ≤ 40 ∧ Own w' w.heap.size g cap l ∧ Cur w' c ∧ Kept c w w' := by
  have hlt := h.lt
  obtain ⟨i, hi, hz0, hz1, hz2⟩ := info_parts infoSpan
  have o0 := own_nil w
  have k0 : Kept c w (w.alloc (.cells #[] 26)) := (Kept.refl c w).alloc _
  go_enter Try.func32, Try.ntmps32
  go_wp2_with fail
  refine (l1Below _ _ _ (h.alloc _)).mono ?_
  rintro e w1 ⟨n, n0, n1, rfl, c1, q1⟩
  have o1 : Hid (Own w1 w.heap.size w.heap.size 0 []) := o0.kept q1 hlt
  have k1 := k0.trans q1
  clear o0 k0 q1 h
  go_wp2_with fail
  go_loopw [3, 4] (fun v nv wr => ∃ (l : List Sp) (g cap : Nat) (m : Int), 0 ≤ m ∧ (l.length : Int) + m ≤ 5 ∧ v = .slice (some ⟨g, 0, none⟩) l.length cap ∧ nv = .int .i64 m ∧ Hid (Own wr w.heap.size g cap l) ∧ Cur wr c ∧ Kept c w wr) (fun _ nv _ => (intOf nv).toNat)
  case atStart => exact ⟨[], w.heap.size, 0, n, n0, by simp; omega, rfl, rfl, o1, c1, k1⟩
  case round =>
    clear o1 c1 k1
    obtain ⟨l, g, cap, m, m0, hm5, rfl, rfl, hown, cr, kr⟩ := hrel
    by_cases hm : 0 < m
    · go_wp2_with fail
      refine (l4DrawSpan _ _ cr).mono ?_
      rintro e w2 ⟨f, t, rfl, c2, q2⟩
      have o2 : Hid (Own w2 w.heap.size g cap l) := hown.out.kept q2 hlt
      have k2 := kr.trans q2
      clear q2 hown cr kr
      go_wp2_with fail
      refine (l4Span f t _).mono ?_
      rintro e w3 ⟨rfl, b3⟩
      have b23 : Below w2.heap.size w2 w3 := ((Below.refl _ _).alloc (Nat.le_refl _) _).trans (b3.mono (by simp))
      obtain ⟨d0, d1⟩ := box2 b3
      have o3 : Hid (Own w3 w.heap.size g cap l) := o2.out.later b23
      have c3 := c2.below b23 (Nat.le_refl _)
      have k3 := k2.trans (Kept.ofBelow b23 (Nat.le_refl _))
      clear b3 b23 o2 c2 k2
      cases hsp : spB (f, t)
      · go_wp2_with fail
        go_roundw
        case rel => exact ⟨l, g, cap, m - 1, by omega, by omega, rfl, rfl, o3, c3, k3⟩
        case measure => simp [intOf]; omega
      · go_wp2_with fail
        refine (specAdd _ _ _ l f t _ rfl o3.out.spans (by omega)).mono ?_
        rintro e w4 ⟨g4, cap4, rfl, o4, b4⟩
        have hal := add_len l (f, t)
        have z3 : w.heap.size ≤ w3.heap.size := k3.size
        have o4' : Hid (Own w4 w.heap.size g4 cap4 (addL l (f, t))) := own_mono o4 z3
        have c4 := c3.below b4 (Nat.le_refl _)
        have k4 := k3.trans (Kept.ofBelow b4 (Nat.le_refl _))
        clear o4 b4 o3 c3 k3
        generalize addL l (f, t) = l4 at *
        go_wp2_with fail
        go_roundw
        case rel => exact ⟨l4, g4, cap4, m - 1, by omega, by omega, rfl, rfl, o4', c4, k4⟩
        case measure => simp [intOf]; omega
    · have hl5 : l.length ≤ 5 := by omega
      clear hm5 n0 n1
      go_wp2_with fail
      refine (l1Once _ _ _ cr).mono ?_
      rintro e w2 ⟨q, rfl, c2, q2⟩
      have o2 : Hid (Own w2 w.heap.size g cap l) := hown.out.kept q2 hlt
      have k2 := kr.trans q2
      clear q2 hown cr kr
      cases q
      · have hlT : l.length ≤ 6 := by omega
        have oT := o2
        have cT := c2
        have kT := k2
        clear o2 c2 k2
        go_wp2_with fail
        refine (l1Once _ _ _ cT).mono ?_
        rintro e w5 ⟨q5, rfl, c5, p5⟩
        have o5 : Hid (Own w5 w.heap.size g cap l) := oT.out.kept p5 hlt
        have k5 := kT.trans p5
        clear p5 oT cT kT
        cases q5
        · go_wp2_with fail
          go_ret
          exact ⟨l, g, cap, rfl, by omega, o5.out, c5, k5⟩
        · have o6 : Hid (Own (w5.alloc (.cells #[] 26)) w.heap.size w5.heap.size 0 []) := own_mono (own_nil w5) k5.size
          have c6 := c5.alloc (.cells #[] 26)
          have k6 := k5.alloc (.cells #[] 26)
          clear o5 c5 k5
          go_wp2_with fail
          go_loopw [3, 6] (fun v iv wr => ∃ (l : List Sp) (g cap : Nat) (j : Nat), j ≤ 31 ∧ l.length = j ∧ v = .slice (some ⟨g, 0, none⟩) l.length cap ∧ iv = .int .i64 (j : Int) ∧ Hid (Own wr w.heap.size g cap l) ∧ Cur wr c ∧ Kept c w wr) (fun _ iv _ => 31 - (intOf iv).toNat)
          case atStart => exact ⟨[], w5.heap.size, 0, 0, by omega, rfl, rfl, rfl, o6, c6, k6⟩
          case round =>
            clear o6 c6 k6
            obtain ⟨l7, g7, cap7, j, j1, hlj, rfl, rfl, o7, c7, k7⟩ := hrel
            have HLJ : Hid _ := hlj
            clear hlj
            go_wp2_with fail
            refine (l1Below _ _ _ c7).mono ?_
            rintro e w8 ⟨y, y0, y1, rfl, c8, p8⟩
            have o8 := o7.out.kept p8 hlt
            have k8 := k7.trans p8
            clear p8 o7 c7 k7
            have y2 : y < 2 := by omega
            have e1 : IntKind.i64.wrap (30 + y) = 30 + y := by rw [IntKind.wrap_i64]; omega
            have e2 : IntKind.i64.wrap (3 * (j : Int)) = 3 * (j : Int) := by rw [IntKind.wrap_i64]; omega
            have e3 : IntKind.i64.wrap (3 * (j : Int) + 1) = 3 * (j : Int) + 1 := by rw [IntKind.wrap_i64]; omega
            have e4 : IntKind.i64.wrap ((j : Int) + 1) = (j : Int) + 1 := by rw [IntKind.wrap_i64]; omega
            by_cases hj : (j : Int) < 30 + y
            · have n1 : l7.length + 1 ≤ maxLen := by have := HLJ.out; unfold maxLen; omega
              have n2 : (l7.length + 1) * 16 ≤ 140737488355328 := by have := HLJ.out; omega
              have n3 : w.heap.size ≤ (w8.alloc (.cells #[.int .i64 (3 * (j : Int)), .int .i64 (3 * (j : Int) + 1)] 26)).heap.size := by have := k8.size; simp; omega
              go_wp2_with (at_builtin; refine wpList_append_lies _ (by rfl) _ _ 24 (by rfl) w.heap.size 26 i (.agg #[.int .i64 0, .int .i64 0]) 2 16 Try.underlying24 hi hz0 hz1 hz2 rfl (by decide) _ _ _ (by rfl) (World.ownsRow.alloc o8 _) ⟨w8.heap.size, 0, none⟩ 1 1 [.int .i64 (3 * (j : Int)), .int .i64 (3 * (j : Int) + 1)] (by rfl) rfl news1 (two_cells _ _) (by decide) n1 n2 n3 (w8.heap.size + 1) (by simp) ?_; intro g9 cap9 w9 o9 hgr9 hat9 hlt9)
              have o9' : Hid (Own w9 w.heap.size g9 cap9 (l7 ++ [(3 * (j : Int), 3 * (j : Int) + 1)])) := own_app o9
              have hg7 := (Own.lt o8).1
              have c9 := (c8.alloc _).grownBy hgr9 (by omega)
              have k9 := (k8.alloc _).grownBy hgr9 hg7
              clear o9 hgr9 hat9 hlt9 o8 c8 k8
              go_wp2_with fail
              go_roundw
              case rel => exact ⟨l7 ++ [(3 * (j : Int), 3 * (j : Int) + 1)], g9, cap9, j + 1, by omega, by simp; exact HLJ.out, by simp, by simp, o9', c9, k9⟩
              case measure => simp [intOf]; omega
            · clear e2 e3 e4
              go_wp2_with fail
              go_ret
              exact ⟨l7, g7, cap7, rfl, by have := HLJ.out; omega, o8, c8, k8⟩
      · go_wp2_with fail
        refine (l4DrawSpan _ _ c2).mono ?_
        rintro e w3 ⟨f, t, rfl, c3, q3⟩
        have o3 := o2.out.kept q3 hlt
        have k3 := k2.trans q3
        clear q3 o2 c2 k2
        have n1 : l.length + 1 ≤ maxLen := by unfold maxLen; omega
        have n2 : (l.length + 1) * 16 ≤ 140737488355328 := by omega
        have n3 : w.heap.size ≤ (w3.alloc (.cells #[.int .i64 f, .int .i64 t] 26)).heap.size := by have := k3.size; simp; omega
        go_wp2_with (at_builtin; refine wpList_append_lies _ (by rfl) _ _ 24 (by rfl) w.heap.size 26 i (.agg #[.int .i64 0, .int .i64 0]) 2 16 Try.underlying24 hi hz0 hz1 hz2 rfl (by decide) _ _ _ (by rfl) (World.ownsRow.alloc o3 _) ⟨w3.heap.size, 0, none⟩ 1 1 [.int .i64 f, .int .i64 t] (by rfl) rfl news1 (two_cells _ _) (by decide) n1 n2 n3 (w3.heap.size + 1) (by simp) ?_; intro g4 cap4 w4 o4 hgr4 hat4 hlt4)
        have oT : Hid (Own w4 w.heap.size g4 cap4 (l ++ [(f, t)])) := own_app o4
        have hg3 := (Own.lt o3).1
        have cT := (c3.alloc _).grownBy hgr4 (by omega)
        have kT := (k3.alloc _).grownBy hgr4 hg3
        have hll : (l ++ [(f, t)]).length = l.length + 1 := by simp
        have hlT : (l ++ [(f, t)]).length ≤ 6 := by omega
        rw [← hll]
        clear o4 hgr4 hat4 hlt4 o3 c3 k3 n1 n2 n3 hll
        generalize l ++ [(f, t)] = l4 at *
        go_wp2_with fail
        refine (l1Once _ _ _ cT).mono ?_
        rintro e w5 ⟨q5, rfl, c5, p5⟩
        have o5 : Hid (Own w5 w.heap.size g4 cap4 l4) := oT.out.kept p5 hlt
        have k5 := kT.trans p5
        clear p5 oT cT kT
        cases q5
        · go_wp2_with fail
          go_ret
          exact ⟨l4, g4, cap4, rfl, by omega, o5.out, c5, k5⟩
        · have o6 : Hid (Own (w5.alloc (.cells #[] 26)) w.heap.size w5.heap.size 0 []) := own_mono (own_nil w5) k5.size
          have c6 := c5.alloc (.cells #[] 26)
          have k6 := k5.alloc (.cells #[] 26)
          clear o5 c5 k5
          go_wp2_with fail
          go_loopw [3, 6] (fun v iv wr => ∃ (l : List Sp) (g cap : Nat) (j : Nat), j ≤ 31 ∧ l.length = j ∧ v = .slice (some ⟨g, 0, none⟩) l.length cap ∧ iv = .int .i64 (j : Int) ∧ Hid (Own wr w.heap.size g cap l) ∧ Cur wr c ∧ Kept c w wr) (fun _ iv _ => 31 - (intOf iv).toNat)
          case atStart => exact ⟨[], w5.heap.size, 0, 0, by omega, rfl, rfl, rfl, o6, c6, k6⟩
          case round =>
            clear o6 c6 k6
            obtain ⟨l7, g7, cap7, j, j1, hlj, rfl, rfl, o7, c7, k7⟩ := hrel
            have HLJ : Hid _ := hlj
            clear hlj
            go_wp2_with fail
            refine (l1Below _ _ _ c7).mono ?_
            rintro e w8 ⟨y, y0, y1, rfl, c8, p8⟩
            have o8 := o7.out.kept p8 hlt
            have k8 := k7.trans p8
            clear p8 o7 c7 k7
            have y2 : y < 2 := by omega
            have e1 : IntKind.i64.wrap (30 + y) = 30 + y := by rw [IntKind.wrap_i64]; omega
            have e2 : IntKind.i64.wrap (3 * (j : Int)) = 3 * (j : Int) := by rw [IntKind.wrap_i64]; omega
            have e3 : IntKind.i64.wrap (3 * (j : Int) + 1) = 3 * (j : Int) + 1 := by rw [IntKind.wrap_i64]; omega
            have e4 : IntKind.i64.wrap ((j : Int) + 1) = (j : Int) + 1 := by rw [IntKind.wrap_i64]; omega
            by_cases hj : (j : Int) < 30 + y
            · have n1 : l7.length + 1 ≤ maxLen := by have := HLJ.out; unfold maxLen; omega
              have n2 : (l7.length + 1) * 16 ≤ 140737488355328 := by have := HLJ.out; omega
              have n3 : w.heap.size ≤ (w8.alloc (.cells #[.int .i64 (3 * (j : Int)), .int .i64 (3 * (j : Int) + 1)] 26)).heap.size := by have := k8.size; simp; omega
              go_wp2_with (at_builtin; refine wpList_append_lies _ (by rfl) _ _ 24 (by rfl) w.heap.size 26 i (.agg #[.int .i64 0, .int .i64 0]) 2 16 Try.underlying24 hi hz0 hz1 hz2 rfl (by decide) _ _ _ (by rfl) (World.ownsRow.alloc o8 _) ⟨w8.heap.size, 0, none⟩ 1 1 [.int .i64 (3 * (j : Int)), .int .i64 (3 * (j : Int) + 1)] (by rfl) rfl news1 (two_cells _ _) (by decide) n1 n2 n3 (w8.heap.size + 1) (by simp) ?_; intro g9 cap9 w9 o9 hgr9 hat9 hlt9)
              have o9' : Hid (Own w9 w.heap.size g9 cap9 (l7 ++ [(3 * (j : Int), 3 * (j : Int) + 1)])) := own_app o9
              have hg7 := (Own.lt o8).1
              have c9 := (c8.alloc _).grownBy hgr9 (by omega)
              have k9 := (k8.alloc _).grownBy hgr9 hg7
              clear o9 hgr9 hat9 hlt9 o8 c8 k8
              go_wp2_with fail
              go_roundw
              case rel => exact ⟨l7 ++ [(3 * (j : Int), 3 * (j : Int) + 1)], g9, cap9, j + 1, by omega, by simp; exact HLJ.out, by simp, by simp, o9', c9, k9⟩
              case measure => simp [intOf]; omega
            · clear e2 e3 e4
              go_wp2_with fail
              go_ret
              exact ⟨l7, g7, cap7, rfl, by have := HLJ.out; omega, o8, c8, k8⟩

end Go.Proofs.Ytjlebhohhhkmfaa.Hole
