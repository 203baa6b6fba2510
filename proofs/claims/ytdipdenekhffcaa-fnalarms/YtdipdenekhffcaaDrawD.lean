/- Draws of chapter 8: l8DrawAlarm, l8Draw, DrawSetAlarm, DrawRingBy, DrawStopAlarms; they return and turn no block but the cursor's; at most 4096 bytes. -/
import Derived.Test.YtdipdenekhffcaaAlmD
import Derived.Test.YtdipdenekhffcaaDrawS
import Derived.Test.YtdipdenekhffcaaLawA
import Derived.Deep.CutRange
namespace Go.Proofs.Ytdipdenekhffcaa.Alm
open Go.RowKit RowG
set_option linter.unusedVariables false
set_option linter.unusedSimpArgs false

theorem cur_grown {w w' : World} {c r : Nat} (h : Draw.Cur w c) (g : w.grownBy w' (some r)) (hr : c < r) (hlt : c < w.heap.size) : Draw.Cur w' c :=
  h.upto fun i hi => g.block i (by omega) (by simp; omega)
theorem kept_set {w w0 : World} {c : Nat} (h : Draw.Kept c w0 w) {p : Addr} (hp : w0.heap.size ≤ p.block) (u : Value) : Draw.Kept c w0 (w.setCell p u) := h.setCell (.inr hp) u
theorem cur_setC {w : World} {c : Nat} (h : Draw.Cur w c) {p : Addr} (hp : c < p.block) (v : Value) : Draw.Cur (w.setCell p v) c := h.upto fun i hi => Below.heap_setCell _ _ _ _ (by omega)

set_option maxHeartbeats 4000000 in
theorem l8DrawAlarm (c : Nat) (w : World) (h : Draw.Cur w c) :
    Calls Try.prog 33 #[.pointer (some ⟨c, 0, none⟩)] w fun x w' => ∃ f t : Int, x = .returned (.agg #[.int .i64 f, .int .i64 t]) ∧ Draw.Cur w' c ∧ Draw.Kept c w w' := by
  have hlt := h.lt
  have v0 : Var 26 (w.alloc (.cells #[.int .i64 0, .int .i64 0] 26)) w.heap.size [.int .i64 0, .int .i64 0] := Var.new w _
  have k0 : Draw.Kept c w (w.alloc (.cells #[.int .i64 0, .int .i64 0] 26)) := (Draw.Kept.refl c w).alloc _
  go_enter Try.func33, Try.ntmps33
  go_wp2_with fail
  refine (Draw.l1Below _ _ _ (h.alloc _)).mono ?_
  rintro x w1 ⟨f, f0, f1, rfl, c1, q1⟩
  have v1 := v0.kept q1 (by omega)
  have k1 := k0.trans q1
  clear v0 k0 q1 h
  go_wp2_with fail
  refine (Draw.l1Below _ _ _ c1).mono ?_
  rintro x w2 ⟨t, t0, t1, rfl, c2, q2⟩
  have v2 := (v1.kept q2 (by omega)).alloc (.cells #[.int .i64 f, .int .i64 t] 26)
  have k2 := (k1.trans q2).alloc (.cells #[.int .i64 f, .int .i64 t] 26)
  have c2 := c2.alloc (.cells #[.int .i64 f, .int .i64 t] 26)
  have u2 : Var 26 (w2.alloc (.cells #[.int .i64 f, .int .i64 t] 26)) w2.heap.size [.int .i64 f, .int .i64 t] := Var.new w2 _
  have hs2 : w.heap.size < w2.heap.size := Nat.lt_of_lt_of_le v1.lt q2.size
  clear v1 k1 q2 c1
  go_wp2_with fail
  refine (Draw.l1Once _ _ _ c2).mono ?_
  rintro x w3 ⟨b, rfl, c3, q3⟩
  have v3 := v2.kept q3 (by omega)
  have u3 := u2.kept q3 (by omega)
  have k3 := k2.trans q3
  clear v2 u2 k2 q3 c2
  have fin : ∀ (w4 : World) (f : Int), Var 26 w4 w.heap.size [.int .i64 0, .int .i64 0] → Draw.Cur w4 c → Draw.Kept c w w4 → Draw.Cur ((w4.setCell ⟨w.heap.size, 0, none⟩ (.int .i64 f)).setCell ⟨w.heap.size, 1, none⟩ (.int .i64 t)) c ∧ Draw.Kept c w ((w4.setCell ⟨w.heap.size, 0, none⟩ (.int .i64 f)).setCell ⟨w.heap.size, 1, none⟩ (.int .i64 t)) ∧ Var 26 ((w4.setCell ⟨w.heap.size, 0, none⟩ (.int .i64 f)).setCell ⟨w.heap.size, 1, none⟩ (.int .i64 t)) w.heap.size [.int .i64 f, .int .i64 t] := fun w4 f v4 c4 k4 =>
    ⟨cur_setC (cur_setC c4 (by show c < w.heap.size; omega) _) (by show c < w.heap.size; omega) _, kept_set (kept_set k4 (Nat.le_refl _) _) (Nat.le_refl _) _, (v4.set 0 _).set 1 _⟩
  have FIN : Hid _ := fin
  clear fin
  have hne : ¬ w.heap.size = w2.heap.size := by omega
  have hne' : ¬ w2.heap.size = w.heap.size := by omega
  cases b
  · obtain ⟨cE, kE, vE⟩ := FIN.out w3 f v3 c3 k3
    have a0 := v3.cell (i := 0) rfl
    have a1 := v3.cell (i := 1) rfl
    have g0 := v3.free 0
    have g1 := v3.free 1
    have s0 := u3.cell (i := 0) rfl
    have s1 := u3.cell (i := 1) rfl
    have d0 := vE.cell (i := 0) rfl
    have d1 := vE.cell (i := 1) rfl
    clear v3 u3 c3 k3 vE
    go_wp2_with fail
    exact bodyPost_ret (v := .agg #[.int .i64 f, .int .i64 t]) (by rw [results_cell1 rfl]; go_simp) rfl ⟨f, t, rfl, cE, kE⟩
  · go_wp2_with fail
    refine (Draw.l1DrawPlace _ _ c3).mono ?_
    rintro x w4 ⟨p, rfl, c4, q4⟩
    have v4 := (v3.kept q4 (by omega)).other (p := ⟨w2.heap.size, 0, none⟩) hne (.int .i64 p)
    have z4 := u3.kept q4 (by omega)
    have u4 := z4.set 0 (.int .i64 p)
    have k4 := kept_set (k3.trans q4) (p := ⟨w2.heap.size, 0, none⟩) (by show w.heap.size ≤ w2.heap.size; omega) (.int .i64 p)
    have c4 := cur_setC c4 (p := ⟨w2.heap.size, 0, none⟩) (by show c < w2.heap.size; omega) (.int .i64 p)
    obtain ⟨cE, kE, vE⟩ := FIN.out _ p v4 c4 k4
    have b0 := z4.cell (i := 0) rfl
    have b1 := z4.free 0
    have a0 := v4.cell (i := 0) rfl
    have a1 := v4.cell (i := 1) rfl
    have g0 := v4.free 0
    have g1 := v4.free 1
    have s0 := u4.cell (i := 0) rfl
    have s1 := u4.cell (i := 1) rfl
    have d0 := vE.cell (i := 0) rfl
    have d1 := vE.cell (i := 1) rfl
    clear v3 u3 c3 k3 vE v4 z4 u4 q4
    go_wp2_with fail
    exact bodyPost_ret (v := .agg #[.int .i64 p, .int .i64 t]) (by rw [results_cell1 rfl]; go_simp) rfl ⟨p, t, rfl, cE, kE⟩

theorem set_len (l : List Al) (a : Al) : (setL l a).length ≤ l.length + 1 := by
  unfold setL
  split
  · split
    · rw [(ins_perm a l).length_eq]; simp
    · omega
  · simp
theorem own_kc {w w' : World} {B g cap c : Nat} {l : List Al} (h : E.Own 26 w B (some ⟨g, 0, none⟩) cap l) (k : Draw.Kept c w w') (hc : c < B) : E.Own 26 w' B (some ⟨g, 0, none⟩) cap l :=
  h.kept k (fun x hx => by cases hx; have := (h.lt _ rfl).1; dsimp only at this ⊢; omega)
theorem kept_gr {w0 w w' : World} {c g : Nat} (h : Draw.Kept c w0 w) (gr : w.grownBy w' (some g)) (hg : w0.heap.size ≤ g) : Draw.Kept c w0 w' := kept_grown h gr (fun x hx => by cases hx; exact .inl hg)

set_option maxRecDepth 10000 in
set_option maxHeartbeats 4000000 in
theorem l8Draw (c : Nat) (w : World) (h : Draw.Cur w c) :
    Calls Try.prog 32 #[.pointer (some ⟨c, 0, none⟩)] w fun x w' => ∃ (l : List Al) (g cap : Nat), x = .returned (.slice (some ⟨g, 0, none⟩) l.length cap) ∧ l.length ≤ 40 ∧ Own w' w.heap.size g cap l ∧ Draw.Cur w' c ∧ Draw.Kept c w w' := by
  have hlt := h.lt
  have o0 := own_empty w
  have k0 : Draw.Kept c w (w.alloc (.cells #[] 26)) := (Draw.Kept.refl c w).alloc _
  go_enter Try.func32, Try.ntmps32
  go_wp2_with fail
  refine (Draw.l1Below _ _ _ (h.alloc _)).mono ?_
  rintro e w1 ⟨n, n0, n1, rfl, c1, q1⟩
  have o1 := own_kc o0 q1 hlt
  have k1 := k0.trans q1
  clear o0 k0 q1 h
  go_wp2_with fail
  go_loopw [3, 4] (fun v nv wr => ∃ (l : List Al) (g cap : Nat) (m : Int), 0 ≤ m ∧ (l.length : Int) + m ≤ 8 ∧ v = .slice (some ⟨g, 0, none⟩) l.length cap ∧ nv = .int .i64 m ∧ E.Own 26 wr w.heap.size (some ⟨g, 0, none⟩) cap l ∧ Draw.Cur wr c ∧ Draw.Kept c w wr) (fun _ nv _ => (intOf nv).toNat)
  case atStart => exact ⟨[], w.heap.size, 0, n, n0, by simp; omega, rfl, rfl, o1, c1, k1⟩
  case round =>
    clear o1 c1 k1
    obtain ⟨l, g, cap, m, m0, hm5, rfl, rfl, o1, c1, k1⟩ := hrel
    by_cases hm : 0 < m
    · go_wp2_with fail
      refine (l8DrawAlarm _ _ c1).mono ?_
      rintro e w2 ⟨f, t, rfl, c2, q2⟩
      have o2 := own_kc o1 q2 hlt
      have k2 := k1.trans q2
      clear q2 o1 c1 k1
      go_wp2_with fail
      refine (specSetAlarm _ _ _ l f t _ rfl (el_own o2).alarms (by omega) o2.cap (fun e => by cases e)).mono ?_
      rintro e w4 ⟨g4, cap4, rfl, o4, b4⟩
      have hal := set_len l (f, t)
      have o4 := o4.el.mono k2.size
      have c4 := c2.below b4 (Nat.le_refl _)
      have k4 := k2.trans (Draw.Kept.ofBelow b4 (Nat.le_refl _))
      clear b4 o2 c2 k2
      generalize setL l (f, t) = l4 at *
      generalize setB l (f, t) = b4 at *
      go_wp2_with fail
      go_roundw
      case rel => exact ⟨l4, g4, cap4, m - 1, by omega, by omega, rfl, rfl, o4, c4, k4⟩
      case measure => simp [intOf]; omega
    · have hl8 : l.length ≤ 8 := by omega
      clear hm5 n0 n1
      go_wp2_with fail
      refine (Draw.l1Once _ _ _ c1).mono ?_
      rintro e w2 ⟨q, rfl, c2, q2⟩
      have o2 := own_kc o1 q2 hlt
      have k2 := k1.trans q2
      clear q2 o1 c1 k1
      go_upto_if 21 with (fail)
      go_cut [3] from 22 (fun v wr => ∃ (l : List Al) (g cap : Nat), l.length ≤ 9 ∧ v = .slice (some ⟨g, 0, none⟩) l.length cap ∧ E.Own 26 wr w.heap.size (some ⟨g, 0, none⟩) cap l ∧ Draw.Cur wr c ∧ Draw.Kept c w wr)
      case first =>
        cases q
        · go_wp2_with fail
          go_meet
          exact ⟨l, g, cap, by omega, rfl, o2, c2, k2⟩
        · go_wp2_with fail
          refine (l8DrawAlarm _ _ c2).mono ?_
          rintro e w3 ⟨f, t, rfl, c3, q3⟩
          have o3 := (own_kc o2 q3 hlt).alloc (.cells #[.int .i64 f, .int .i64 t] 26)
          have k3 := (k2.trans q3).alloc (.cells #[.int .i64 f, .int .i64 t] 26)
          have c3 := c3.alloc (.cells #[.int .i64 f, .int .i64 t] 26)
          have L3 : E.Lies (w3.alloc (.cells #[.int .i64 f, .int .i64 t] 26)) (some ⟨w3.heap.size, 0, none⟩) [(f, t)] := El.lies_new rfl
          have hg : w.heap.size ≤ g := own_lo o3
          have hz : l.length + [(f, t)].length ≤ 4194304 := by simp; omega
          clear q3 o2 c2 k2
          go_wp2_with (at_builtin; refine wpList_appS ty (by decide) (by rfl) _ _ (by rfl) w.heap.size g cap _ l [(f, t)] rfl (by rfl) o3 k3.size (some ⟨w3.heap.size, 0, none⟩) 1 1 rfl (by rfl) L3 (fun e => by cases e) hz ?_; intro g4 c4 w4 o4 gr4)
          have hlen : (l ++ [(f, t)]).length = l.length + 1 := by simp
          have k4 := kept_gr k3 gr4 hg
          have c5 := cur_grown c3 gr4 (by omega) c3.lt
          go_meet
          exact ⟨l ++ [(f, t)], g4, c4, by omega, by rw [hlen], o4, c5, k4⟩
      case rest =>
        clear o2 c2 k2 hl8
        obtain ⟨l, g, cap, hl9, rfl, o2, c2, k2⟩ := hcut
        go_wp2_with fail
        refine (Draw.l1Once _ _ _ c2).mono ?_
        rintro e w5 ⟨q5, rfl, c5, p5⟩
        have o5 := own_kc o2 p5 hlt
        have k5 := k2.trans p5
        clear p5 o2 c2 k2
        cases q5
        · go_wp2_with fail
          go_ret
          exact ⟨l, g, cap, rfl, by omega, o5, c5, k5⟩
        · have o6 := (own_empty w5).mono k5.size
          have c6 := c5.alloc (.cells #[] 26)
          have k6 := k5.alloc (.cells #[] 26)
          clear o5 c5 k5
          go_wp2_with fail
          go_loopw [3, 5] (fun v iv wr => ∃ (l : List Al) (g cap : Nat) (j : Nat), j ≤ 21 ∧ Hid (l.length = j) ∧ v = .slice (some ⟨g, 0, none⟩) l.length cap ∧ iv = .int .i64 (j : Int) ∧ E.Own 26 wr w.heap.size (some ⟨g, 0, none⟩) cap l ∧ Draw.Cur wr c ∧ Draw.Kept c w wr) (fun _ iv _ => 21 - (intOf iv).toNat)
          case atStart => exact ⟨[], w5.heap.size, 0, 0, by omega, by show _ = _; rfl, rfl, rfl, o6, c6, k6⟩
          case round =>
            clear o6 c6 k6
            obtain ⟨l7, g7, cap7, j, j1, HLJ, rfl, rfl, o7, c7, k7⟩ := hrel
            go_wp2_with fail
            refine (Draw.l1Below _ _ _ c7).mono ?_
            rintro e w8 ⟨y, y0, y1, rfl, c8, p8⟩
            have y2 : y < 2 := by omega
            have e1 : IntKind.i64.wrap (20 + y) = 20 + y := by rw [IntKind.wrap_i64]; omega
            have e4 : IntKind.i64.wrap ((j : Int) + 1) = (j : Int) + 1 := by rw [IntKind.wrap_i64]; omega
            have o8 := own_kc o7 p8 hlt
            have k8 := k7.trans p8
            clear p8 o7 c7 k7
            by_cases hj : (j : Int) < 20 + y
            · have hz : l7.length + [((j : Int), Int.tmod (j : Int) 3)].length ≤ 4194304 := by have := HLJ.out; simp; omega
              have o9 := o8.alloc (.cells #[.int .i64 (j : Int), .int .i64 (Int.tmod (j : Int) 3)] 26)
              have k9 := k8.alloc (.cells #[.int .i64 (j : Int), .int .i64 (Int.tmod (j : Int) 3)] 26)
              have c9 := c8.alloc (.cells #[.int .i64 (j : Int), .int .i64 (Int.tmod (j : Int) 3)] 26)
              have L9 : E.Lies (w8.alloc (.cells #[.int .i64 (j : Int), .int .i64 (Int.tmod (j : Int) 3)] 26)) (some ⟨w8.heap.size, 0, none⟩) [((j : Int), Int.tmod (j : Int) 3)] := El.lies_new rfl
              have hg : w.heap.size ≤ g7 := own_lo o9
              clear o8 k8 c8
              go_wp2_with (at_builtin; refine wpList_appS ty (by decide) (by rfl) _ _ (by rfl) w.heap.size g7 cap7 _ l7 [((j : Int), Int.tmod (j : Int) 3)] rfl (by rfl) o9 k9.size (some ⟨w8.heap.size, 0, none⟩) 1 1 rfl (by rfl) L9 (fun e => by cases e) hz ?_; intro gA cA wA oA grA)
              have kA := kept_gr k9 grA hg
              have cA' := cur_grown c9 grA (by omega) c9.lt
              have HL2 : Hid ((l7 ++ [((j : Int), Int.tmod (j : Int) 3)]).length = j + 1) := by show _ = _; have := HLJ.out; simp; omega
              have hlen : (l7 ++ [((j : Int), Int.tmod (j : Int) 3)]).length = l7.length + 1 := by simp
              go_roundw
              case rel => exact ⟨l7 ++ [((j : Int), Int.tmod (j : Int) 3)], gA, cA, j + 1, by omega, HL2, by rw [hlen], by simp, oA, cA', kA⟩
              case measure => simp [intOf]; omega
            · go_wp2_with fail
              go_ret
              exact ⟨l7, g7, cap7, rfl, by have := HLJ.out; omega, o8, c8, k8⟩

end Go.Proofs.Ytdipdenekhffcaa.Alm
