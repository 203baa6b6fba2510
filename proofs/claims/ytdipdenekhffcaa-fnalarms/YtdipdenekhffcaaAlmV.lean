/- Contract of container/heap's down over the program's heap of alarms (chapter 8); lists of at most 2^21 alarms. -/
import Derived.Test.YtdipdenekhffcaaAlmU
namespace Go.Proofs.Ytdipdenekhffcaa.Alm
open Go.RowKit RowG
set_option linter.unusedVariables false
set_option linter.unusedSimpArgs false

theorem wLessI {B g c n : Nat} {l : List Al} {i j : Nat} {x y : Int} {w : World} (hn : n = l.length) (ho : E.Own 26 w B (some ⟨g, 0, none⟩) c l) (hl : l.length ≤ 2097152) (hi : i < l.length) (hj : j < l.length) (hx : x = (i : Int)) (hy : y = (j : Int)) :
    Calls Try.prog 80 #[.slice (some ⟨g, 0, none⟩) n c, .int .i64 x, .int .i64 y] w fun x w' => x = .returned (.bool (ltB (at' l i) (at' l j))) ∧ Below w.heap.size w w' := by
  subst hx hy
  exact wLess B g c n l i j w hn ho hl hi hj
theorem wSwapI {B g c n : Nat} {l : List Al} {i j : Nat} {x y : Int} {w : World} (hn : n = l.length) (ho : E.Own 26 w B (some ⟨g, 0, none⟩) c l) (hl : l.length ≤ 2097152) (hi : i < l.length) (hj : j < l.length) (hx : x = (i : Int)) (hy : y = (j : Int)) :
    Calls Try.prog 83 #[.slice (some ⟨g, 0, none⟩) n c, .int .i64 x, .int .i64 y] w fun x w' => x = .returned (.tuple #[]) ∧ E.Own 26 w' B (some ⟨g, 0, none⟩) c (sw l i j) ∧ Draw.Kept g w w' := by
  subst hx hy
  exact wSwap B g c n l i j w hn ho hl hi hj
/-- Behind n all is as it was. -/
def Tail (n : Nat) (m l : List Al) : Prop := ∀ k, n ≤ k → at' m k = at' l k
theorem Tail.sw {n i j : Nat} {m l : List Al} (h : Tail n m l) (hi : i < n) (hj : j < n) (hn : n ≤ m.length) : Tail n (sw m i j) l := by
  intro k hk
  rw [sw_at (by omega) (by omega), if_neg (by omega), if_neg (by omega)]
  exact h k hk
theorem kids {i k : Nat} (h : (k - 1) / 2 = i) (k0 : 0 < k) : k = 2 * i + 1 ∨ k = 2 * i + 2 := by omega
/-- No child of i is sooner than the one at j. -/
def Least (m : List Al) (n i j : Nat) : Prop := ∀ k, 0 < k → k < n → (k - 1) / 2 = i → ltB (at' m k) (at' m j) = false
theorem least_left {m : List Al} {n i : Nat} (h : 2 * i + 2 < n → ltB (at' m (2 * i + 2)) (at' m (2 * i + 1)) = false) : Least m n i (2 * i + 1) := by
  intro k k0 kn kp
  rcases kids kp k0 with rfl | rfl
  · exact lt_irr _
  · exact h kn
theorem least_right {m : List Al} {n i : Nat} (h : ltB (at' m (2 * i + 2)) (at' m (2 * i + 1)) = true) : Least m n i (2 * i + 2) := by
  intro k k0 kn kp
  rcases kids kp k0 with rfl | rfl
  · exact lt_asym h
  · exact lt_irr _
theorem least_stop {m : List Al} {n i j : Nat} (hd : Dn m n i) (h : Least m n i j) (hc : ltB (at' m j) (at' m i) = false) : Heap m n :=
  hd.stop (fun q => nlt_trans hc (h _ (by omega) q (by omega))) (fun q => nlt_trans hc (h _ (by omega) q (by omega)))

set_option maxRecDepth 10000 in
set_option maxHeartbeats 8000000 in
theorem heapDown (B v g c n : Nat) (l : List Al) (w : World) (h : Wt w B v g c l) (hl : l.length ≤ 2097152) (hn : n ≤ l.length) (h0 : 0 < l.length) (hd : Dn l n 0) :
    Calls Try.prog 62 #[.iface 57 (.pointer (some ⟨v, 0, none⟩)), .int .i64 0, .int .i64 (n : Int)] w fun x w' => ∃ l' b, x = .returned (.bool b) ∧ l'.length = l.length ∧ Wt w' B v g c l' ∧ Heap l' n ∧ Tail n l' l ∧ l'.Perm l ∧ Tw v g w w' := by
  go_enter Try.func62, Try.ntmps62
  go_wp2_with fail
  go_loopw [7, 8, 9, 10] (fun iv _ _ _ wr => ∃ (i : Nat) (m : List Al), iv = .int .i64 i ∧ i < m.length ∧ Hid (m.length = l.length) ∧ Hid (Dn m n i) ∧ Hid (Tail n m l) ∧ Hid (m.Perm l) ∧ Wt wr B v g c m ∧ Tw v g w wr) (fun iv _ _ _ _ => l.length - (intOf iv).toNat)
  case atStart => exact ⟨0, l, rfl, h0, by show _ = _; rfl, hd, fun _ _ => rfl, List.Perm.refl _, h, Tw.refl _ _ _⟩
  case round =>
    clear h hd h0
    obtain ⟨i, m, rfl, hi, hml, hd, ht, hp, h, tw⟩ := hrel
    have hm2 : m.length ≤ 2097152 := by have := hml.out; omega
    have hnm : n ≤ m.length := by have := hml.out; omega
    by_cases h1 : 2 * i + 1 < n
    · have g1 : ¬ (n : Int) ≤ 2 * (i : Int) + 1 := by omega
      have g2 : ¬ 2 * (i : Int) + 1 < 0 := by omega
      have hM1 : (method 205 57 (.pointer (some ⟨v, 0, none⟩)) "Less").run Try.prog wr = .ok (80, .slice (some ⟨g, 0, none⟩) m.length c) wr := mVal rowLess _ (h.var.cell (i := 0) rfl)
      by_cases h2 : 2 * i + 2 < n
      · have g3 : 2 * (i : Int) + 1 + 1 < (n : Int) := by omega
        go_wp2_with fail
        refine (wLessI (i := 2 * i + 2) (j := 2 * i + 1) rfl h.own hm2 (by omega) (by omega) (by omega) (by omega)).mono ?_
        rintro x w1 ⟨rfl, b1⟩
        have hW := h.later b1
        have tW : Tw v g w w1 := tw.trans (Tw.ofBelow b1)
        clear h tw b1 hM1
        cases hc : ltB (at' m (2 * i + 2)) (at' m (2 * i + 1))
        · have HL : Hid (Least m n i (2 * i + 1)) := least_left (fun _ => hc)
          clear hc
          have hM3 : (method 205 57 (.pointer (some ⟨v, 0, none⟩)) "Less").run Try.prog w1 = .ok (80, .slice (some ⟨g, 0, none⟩) m.length c) w1 := mVal rowLess _ (hW.var.cell (i := 0) rfl)
          go_wp2_with fail
          refine (wLessI (i := 2 * i + 1) (j := i) rfl hW.own hm2 (by omega) hi (by omega) rfl).mono ?_
          rintro x w2 ⟨rfl, b2⟩
          have h2W := hW.later b2
          have t2 : Tw v g w w2 := tW.trans (Tw.ofBelow b2)
          clear hW tW b2 hM3
          cases hc2 : ltB (at' m (2 * i + 1)) (at' m i)
          · have HH : Hid (Heap m n) := least_stop hd.out HL.out hc2
            clear hd HL hc2
            go_wp2_with fail
            go_ret
            exact ⟨m, _, rfl, hml.out, h2W, HH.out, ht.out, hp.out, t2⟩
          · have HD : Hid (Dn (sw m i (2 * i + 1)) n (2 * i + 1)) := hd.out.step hnm (by omega) (by omega) (by omega) hc2 HL.out
            have HT : Hid (Tail n (sw m i (2 * i + 1)) l) := ht.out.sw (by omega) (by omega) hnm
            have HP : Hid ((sw m i (2 * i + 1)).Perm l) := (sw_perm hi (by omega)).trans hp.out
            have hM4 : (method 205 57 (.pointer (some ⟨v, 0, none⟩)) "Swap").run Try.prog w2 = .ok (83, .slice (some ⟨g, 0, none⟩) m.length c) w2 := mVal rowSwap _ (h2W.var.cell (i := 0) rfl)
            clear hd HL hc2 ht hp
            go_wp2_with fail
            refine (wSwapI (i := i) (j := 2 * i + 1) rfl h2W.own hm2 hi (by omega) rfl (by omega)).mono ?_
            rintro x w3 ⟨rfl, o3, k3⟩
            have h3 := h2W.kept k3 o3 (sw_len _ _ _)
            have t3 : Tw v g w w3 := t2.trans (Tw.ofKept k3)
            clear h2W t2 k3 o3 hM4
            go_wp2_with fail
            go_roundw
            case rel => exact ⟨2 * i + 1, sw m i (2 * i + 1), by first | rfl | (congr 1; omega), by rw [sw_len]; omega, by show _ = _; rw [sw_len]; exact hml.out, HD, HT, HP, h3, t3⟩
            case measure => have := hml.out; simp [intOf]; omega
        · have HL : Hid (Least m n i (2 * i + 2)) := least_right hc
          clear hc
          have hM3 : (method 205 57 (.pointer (some ⟨v, 0, none⟩)) "Less").run Try.prog w1 = .ok (80, .slice (some ⟨g, 0, none⟩) m.length c) w1 := mVal rowLess _ (hW.var.cell (i := 0) rfl)
          go_wp2_with fail
          refine (wLessI (i := 2 * i + 2) (j := i) rfl hW.own hm2 (by omega) hi (by omega) rfl).mono ?_
          rintro x w2 ⟨rfl, b2⟩
          have h2W := hW.later b2
          have t2 : Tw v g w w2 := tW.trans (Tw.ofBelow b2)
          clear hW tW b2 hM3
          cases hc2 : ltB (at' m (2 * i + 2)) (at' m i)
          · have HH : Hid (Heap m n) := least_stop hd.out HL.out hc2
            clear hd HL hc2
            go_wp2_with fail
            go_ret
            exact ⟨m, _, rfl, hml.out, h2W, HH.out, ht.out, hp.out, t2⟩
          · have HD : Hid (Dn (sw m i (2 * i + 2)) n (2 * i + 2)) := hd.out.step hnm (by omega) (by omega) (by omega) hc2 HL.out
            have HT : Hid (Tail n (sw m i (2 * i + 2)) l) := ht.out.sw (by omega) (by omega) hnm
            have HP : Hid ((sw m i (2 * i + 2)).Perm l) := (sw_perm hi (by omega)).trans hp.out
            have hM4 : (method 205 57 (.pointer (some ⟨v, 0, none⟩)) "Swap").run Try.prog w2 = .ok (83, .slice (some ⟨g, 0, none⟩) m.length c) w2 := mVal rowSwap _ (h2W.var.cell (i := 0) rfl)
            clear hd HL hc2 ht hp
            go_wp2_with fail
            refine (wSwapI (i := i) (j := 2 * i + 2) rfl h2W.own hm2 hi (by omega) rfl (by omega)).mono ?_
            rintro x w3 ⟨rfl, o3, k3⟩
            have h3 := h2W.kept k3 o3 (sw_len _ _ _)
            have t3 : Tw v g w w3 := t2.trans (Tw.ofKept k3)
            clear h2W t2 k3 o3 hM4
            go_wp2_with fail
            go_roundw
            case rel => exact ⟨2 * i + 2, sw m i (2 * i + 2), by first | rfl | (congr 1; omega), by rw [sw_len]; omega, by show _ = _; rw [sw_len]; exact hml.out, HD, HT, HP, h3, t3⟩
            case measure => have := hml.out; simp [intOf]; omega
      · have g3 : ¬ 2 * (i : Int) + 1 + 1 < (n : Int) := by omega
        have HL : Hid (Least m n i (2 * i + 1)) := least_left (fun q => absurd q h2)
        have hW := h
        have tW := tw
        clear h tw hM1
        have hM3 : (method 205 57 (.pointer (some ⟨v, 0, none⟩)) "Less").run Try.prog wr = .ok (80, .slice (some ⟨g, 0, none⟩) m.length c) wr := mVal rowLess _ (hW.var.cell (i := 0) rfl)
        go_wp2_with fail
        refine (wLessI (i := 2 * i + 1) (j := i) rfl hW.own hm2 (by omega) hi (by omega) rfl).mono ?_
        rintro x w2 ⟨rfl, b2⟩
        have h2W := hW.later b2
        have t2 : Tw v g w w2 := tW.trans (Tw.ofBelow b2)
        clear hW tW b2 hM3
        cases hc2 : ltB (at' m (2 * i + 1)) (at' m i)
        · have HH : Hid (Heap m n) := least_stop hd.out HL.out hc2
          clear hd HL hc2
          go_wp2_with fail
          go_ret
          exact ⟨m, _, rfl, hml.out, h2W, HH.out, ht.out, hp.out, t2⟩
        · have HD : Hid (Dn (sw m i (2 * i + 1)) n (2 * i + 1)) := hd.out.step hnm (by omega) (by omega) (by omega) hc2 HL.out
          have HT : Hid (Tail n (sw m i (2 * i + 1)) l) := ht.out.sw (by omega) (by omega) hnm
          have HP : Hid ((sw m i (2 * i + 1)).Perm l) := (sw_perm hi (by omega)).trans hp.out
          have hM4 : (method 205 57 (.pointer (some ⟨v, 0, none⟩)) "Swap").run Try.prog w2 = .ok (83, .slice (some ⟨g, 0, none⟩) m.length c) w2 := mVal rowSwap _ (h2W.var.cell (i := 0) rfl)
          clear hd HL hc2 ht hp
          go_wp2_with fail
          refine (wSwapI (i := i) (j := 2 * i + 1) rfl h2W.own hm2 hi (by omega) rfl (by omega)).mono ?_
          rintro x w3 ⟨rfl, o3, k3⟩
          have h3 := h2W.kept k3 o3 (sw_len _ _ _)
          have t3 : Tw v g w w3 := t2.trans (Tw.ofKept k3)
          clear h2W t2 k3 o3 hM4
          go_wp2_with fail
          go_roundw
          case rel => exact ⟨2 * i + 1, sw m i (2 * i + 1), by first | rfl | (congr 1; omega), by rw [sw_len]; omega, by show _ = _; rw [sw_len]; exact hml.out, HD, HT, HP, h3, t3⟩
          case measure => have := hml.out; simp [intOf]; omega
    · have g1 : (n : Int) ≤ 2 * (i : Int) + 1 := by omega
      have HH : Hid (Heap m n) := hd.out.stop (fun q => absurd q h1) (fun q => absurd q (by omega))
      clear hd
      go_wp2_with fail
      go_ret
      exact ⟨m, _, rfl, hml.out, h, HH.out, ht.out, hp.out, tw⟩

end Go.Proofs.Ytdipdenekhffcaa.Alm
