/- Contract of slices.DeleteFunc as the program's StopAlarms uses it, and of StopAlarms (chapter 8); lists of at most 2^21 alarms. -/
import Derived.Test.YtdipdenekhffcaaAlmQ
namespace Go.Proofs.Ytdipdenekhffcaa.Alm
open Go.RowKit RowG
set_option linter.unusedVariables false
set_option linter.unusedSimpArgs false

theorem set_take {m : List Al} {i : Nat} (hi : i < m.length) (x : Al) : (m.set i x).take (i + 1) = m.take i ++ [x] := by
  rw [List.take_succ_eq_append_getElem (by simpa using hi), List.take_set_of_le (by omega)]
  simp
theorem at_drop {m l : List Al} {j : Nat} (h : m.drop j = l.drop j) : at' m j = at' l j := by
  have := congrArg (fun z => z[0]?) h
  simp only [List.getElem?_drop, Nat.add_zero] at this
  unfold at'
  rw [List.getD_eq_getElem?_getD, List.getD_eq_getElem?_getD, this]
theorem drop_more {m l : List Al} {j : Nat} (h : m.drop j = l.drop j) : m.drop (j + 1) = l.drop (j + 1) := by
  rw [← List.drop_drop, h, List.drop_drop]
theorem set_drop {m : List Al} {i j : Nat} (h : i < j) (x : Al) : (m.set i x).drop j = m.drop j := by
  rw [List.drop_set_of_lt h]

/-- All but those of who. -/
def restL (who : Int) (l : List Al) : List Al := l.filter (fun a => decide (a.2 ≠ who))

set_option maxRecDepth 10000 in
set_option maxHeartbeats 4000000 in
theorem deleteFunc (B g c n : Nat) (l : List Al) (who : Int) (kw : Nat) (w : World) (hn : n = l.length) (ho : E.Own 26 w B (some ⟨g, 0, none⟩) c l) (hl : l.length ≤ 2097152) (hk : w.cell? ⟨kw, 0, none⟩ = some (.int .i64 who)) (hkg : kw ≠ g) :
    Calls Try.prog 46 #[.slice (some ⟨g, 0, none⟩) n c, .func (.func 47) #[] #[.pointer (some ⟨kw, 0, none⟩)]] w fun x w' => x = .returned (.slice (some ⟨g, 0, none⟩) (restL who l).length c) ∧ E.Own 26 w' B (some ⟨g, 0, none⟩) c (restL who l) ∧ Draw.Kept g w w' := by
  subst hn
  have hcap := ho.cap
  go_enter Try.func46, Try.ntmps46
  go_wp2_with fail
  refine (indexFunc B g c _ l who kw _ rfl ho hl hk).mono ?_
  rintro x w1 ⟨r, rfl, b1, hr⟩
  have o1 := ho.later b1
  have k1 : Draw.Kept g w w1 := Draw.Kept.ofBelow b1 (Nat.le_refl _)
  clear ho b1
  rcases hr with ⟨rfl, hall⟩ | ⟨k, rfl, hkl, hkw, hlo⟩
  · have HF : Hid (restL who l = l) := first_none hall
    clear hall
    go_wp2_with fail
    go_ret
    exact ⟨by rw [HF.out]; rfl, by rw [HF.out]; exact o1, k1⟩
  · have HF : Hid (l.take k = (l.take (k + 1)).filter (fun a => decide (a.2 ≠ who))) := by
      show _ = _
      rw [filter_step hkl, first_take hlo (by omega)]
      simp [hkw]
    clear hkw hlo
    have e1 : ((k : Int) == -1) = false := by rw [beq_eq_false_iff_ne]; omega
    go_wp2_with fail
    go_loopw [5, 6, 7] (fun iv jv _ wr => ∃ (i j : Nat) (m : List Al), iv = .int .i64 i ∧ jv = .int .i64 j ∧ i < j ∧ j ≤ l.length ∧ m.length = l.length ∧ Hid (m.take i = (l.take j).filter (fun a => decide (a.2 ≠ who))) ∧ Hid (m.drop j = l.drop j) ∧ E.Own 26 wr B (some ⟨g, 0, none⟩) c m ∧ Draw.Kept g w wr) (fun _ jv _ _ => l.length - (intOf jv).toNat)
    case atStart => exact ⟨k, k + 1, l, rfl, by go_num, by omega, by omega, rfl, HF, by show _ = _; rfl, o1, k1⟩
    case round =>
      clear o1 k1 HF e1 hkl
      obtain ⟨i, j, m, rfl, rfl, hij, hj, hml, htk, hdr, o1, k1⟩ := hrel
      by_cases hlt : j < l.length
      · have i0 : (0 : Int) ≤ (j : Int) := by omega
        have i1 : (j : Int) < (l.length : Int) := by omega
        have i2 : (0 : Int) ≤ (i : Int) := by omega
        have i3 : (i : Int) < (l.length : Int) := by omega
        have hkl : kw < w.heap.size := Draw.lt_of_cell hk
        have hc1 : wr.cell? ⟨kw, 0, none⟩ = some (.int .i64 who) := (k1.cell (p := ⟨kw, 0, none⟩) hkl hkg).trans hk
        obtain ⟨⟨d0, d1⟩, _, _⟩ := (el_own o1).at (k := j) (by omega)
        rw [getD_at, at_drop hdr.out] at d0 d1
        have HT : Hid _ := filter_step hlt (fun a => decide (a.2 ≠ who))
        have HD : Hid (m.drop (j + 1) = l.drop (j + 1)) := drop_more hdr.out
        clear hdr
        generalize at' l j = s at *
        obtain ⟨f, t⟩ := s
        simp only at d0 d1
        have v2 : Var 26 (wr.alloc (.cells #[.int .i64 f, .int .i64 t] 26)) wr.heap.size [.int .i64 f, .int .i64 t] := Var.new wr _
        have o2 := o1.alloc (.cells #[.int .i64 f, .int .i64 t] 26)
        have k2 := k1.alloc (.cells #[.int .i64 f, .int .i64 t] 26)
        have hc2 := alloc_cell hc1 (.cells #[.int .i64 f, .int .i64 t] 26)
        have hgl : g < wr.heap.size := (o1.lt _ rfl).2
        go_wp2_with fail
        refine (stop1 f t who kw _ hc2).mono ?_
        rintro x w3 ⟨rfl, b3⟩
        have o3 := o2.later b3
        have v3 := v2.later b3
        have k3 : Draw.Kept g w w3 := k2.trans (Draw.Kept.ofBelow b3 (Nat.le_refl _))
        clear o1 k1 o2 v2 k2 b3 hc1 hc2 d0 d1
        by_cases e : t = who
        · have e' : (t == who) = true := by simpa using e
          have HF : Hid (m.take i = (l.take (j + 1)).filter (fun a => decide (a.2 ≠ who))) := by show _ = _; rw [HT.out, htk.out]; simp [e]
          clear HT htk
          go_wp2_with fail
          go_roundw
          case rel => exact ⟨i, j + 1, m, rfl, by go_num, by omega, by omega, hml, HF, HD, o3, k3⟩
          case measure => simp [intOf]; omega
        · have e' : (t == who) = false := by simpa using e
          have HF : Hid ((m.set i (f, t)).take (i + 1) = (l.take (j + 1)).filter (fun a => decide (a.2 ≠ who))) := by show _ = _; rw [HT.out, ← htk.out, set_take (by omega)]; simp [e]
          have HD2 : Hid ((m.set i (f, t)).drop (j + 1) = l.drop (j + 1)) := by show _ = _; rw [set_drop (by omega)]; exact HD.out
          clear HT htk HD
          have s0 := v3.cell (i := 0) rfl
          have s1 := v3.cell (i := 1) rfl
          obtain ⟨⟨c0, c1⟩, f0, f1⟩ := (el_own o3).at (k := i) (by omega)
          have o4 := (el_own o3).put i (by omega) f t
          have k4 := setCell2_kept k3 (i * 2) (i * 2 + 1) (.int .i64 f) (.int .i64 t)
          have O4 : Hid (Own _ _ _ _ _) := o4
          clear o3 o4
          generalize (m.getD i (0, 0)).1 = y0 at *
          generalize (m.getD i (0, 0)).2 = y1 at *
          go_wp2_with fail
          go_roundw
          case rel => exact ⟨i + 1, j + 1, m.set i (f, t), by go_num, by go_num, by omega, by omega, by simpa using hml, HF, HD2, O4.out, k4⟩
          case measure => simp [intOf]; omega
      · have hjl : l.take j = l := List.take_of_length_le (by omega)
        have i1 : ¬ (j : Int) < (l.length : Int) := by omega
        have HF : Hid (restL who l = m.take i) := by show _ = _; rw [htk.out, hjl]; rfl
        have hci : ¬ c = i := by omega
        have hc0 : ¬ c = 0 := by omega
        have j0 : (0 : Int) ≤ (i : Int) := by omega
        have j1 : (i : Int) ≤ (l.length : Int) := by omega
        have j2 : (i : Int) ≤ (c : Int) := by omega
        have hcl := fun ty => run_clear o1 i (l.length - i) (c - i) ty (by omega) (by omega)
        have o2 := own_cells (Builtin.zeroCells #[Value.int .i64 0, .int .i64 0] (l.length - i)).toList (i * 2) wr (own_take o1 i) (by rw [List.length_take]; omega)
        have k2 := kept_cells (Builtin.zeroCells #[Value.int .i64 0, .int .i64 0] (l.length - i)).toList (i * 2) wr k1
        have hlen : (m.take i).length = i := by rw [List.length_take]; omega
        have HL : Hid _ := hlen
        clear hjl htk hdr o1 k1 hlen
        generalize wr.setCells g (i * 2) (Builtin.zeroCells #[Value.int .i64 0, .int .i64 0] (l.length - i)).toList = W at *
        go_wp2_with fail
        go_ret
        exact ⟨by rw [HF.out, HL.out]; rfl, by rw [HF.out]; exact o2, k2⟩

set_option maxHeartbeats 2000000 in
theorem implStopAlarms (a : Option Addr) (n cap : Nat) (l : List Al) (who : Int) (w : World) (hn : n = l.length) (h : Alarms w a l) (hl : l.length ≤ 2097152) (ha : a = none → cap = 0) :
    Calls Try.prog 14 #[.slice a n cap, .int .i64 who] w fun x w' => ∃ g c, x = .returned (.slice (some ⟨g, 0, none⟩) (stopL l who).length c) ∧ Own w' w.heap.size g c (stopL l who) ∧ Below w.heap.size w w' := by
  subst hn
  have v0 : Var 2 (w.alloc (.cells #[.int .i64 who] 2)) w.heap.size [.int .i64 who] := Var.new w _
  have b0 : Below w.heap.size w (w.alloc (.cells #[.int .i64 who] 2)) := (Below.refl _ _).alloc (Nat.le_refl _) _
  go_enter Try.func14, Try.ntmps14
  go_wp2_with fail
  refine (implAlarmsOk _ _ _ l _ rfl (h.same b0) hl).mono ?_
  rintro x w1 ⟨rfl, B1⟩
  have b1 := b0.trans (B1.mono b0.size)
  have v1 := v0.later B1
  clear b0 v0 B1
  cases hok : alarmsB l
  · have e : stopL l who = [] := by simp [stopL, hok]
    have o1 := (own_empty w1).mono b1.size
    go_wp2_with fail
    go_ret
    exact ⟨_, 0, by rw [e]; rfl, by rw [e]; exact o1, b1.alloc b1.size _⟩
  · have HE : Hid (stopL l who = restL who l) := by show _ = _; unfold stopL; rw [if_pos hok]; rfl
    clear hok
    go_wp2_with fail
    refine (ownAlarms _ _ _ l _ rfl (h.same b1) hl ha).mono ?_
    rintro x w2 ⟨g, c, rfl, o2, B2⟩
    have b2 := b1.trans (B2.mono b1.size)
    have v2 := v1.later B2
    have hg : w1.heap.size ≤ g := (o2.lt).1
    have hne : w.heap.size ≠ g := by have := v1.lt; omega
    go_wp2_with fail
    refine (deleteFunc _ g c _ l who w.heap.size _ rfl o2 hl (v2.cell (i := 0) rfl) hne).mono ?_
    rintro x w3 ⟨rfl, o3, k3⟩
    have b3 := b2.trans (k3.below (by have := b1.size; omega) b2.size)
    rw [← HE.out] at o3 ⊢
    go_wp2_with fail
    go_ret
    exact ⟨g, c, rfl, o3.mono b1.size, b3⟩

end Go.Proofs.Ytdipdenekhffcaa.Alm
