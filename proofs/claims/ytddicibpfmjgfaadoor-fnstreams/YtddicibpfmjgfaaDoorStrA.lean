/- Streams (chapter 15): contracts of the specification's l15Grow, l15Read, l15Tell, through a pointer into whatever block; texts of at most 2^21 bytes. -/
import Derived.Test.YtddicibpfmjgfaaDoorWin
import Derived.Test.YtddicibpfmjgfaaDoorTakA
import Derived.Test.YtddicibpfmjgfaaDoorGivB
import Derived.Test.YtddicibpfmjgfaaDoorFrame
import Derived.Laws.Strings
namespace Go.Proofs.YtddicibpfmjgfaaDoor.Str
open Go.RowKit RowG
set_option linter.unusedVariables false
set_option linter.unusedSimpArgs false

theorem beq_text (x y : ByteArray) : (x.toList == y.toList) = decide (x = y) := by
  rw [ByteArray.toList_eq, ByteArray.toList_eq]
  by_cases e : x = y
  · rw [e]
    simp
  · rw [decide_eq_false e]
    refine beq_eq_false_iff_ne.2 fun q => e ?_
    cases x
    cases y
    congr 1
    exact Array.toList_inj.1 q
structure Sm where
  tx : ByteArray
  rd : Int
  en : Bool
  dn : Bool
  sn : Bool
abbrev Sm.c (s : Sm) : List Value := [.string s.tx, .int .i64 s.rd, .bool s.en, .bool s.dn, .bool s.sn]
abbrev Sm.v (s : Sm) : Value := .agg #[.string s.tx, .int .i64 s.rd, .bool s.en, .bool s.dn, .bool s.sn]
def growB (s : Sm) (b : ByteArray) : Bool := !(s.en || decide (2000 < (s.tx.size : Int) + b.size))
def growS (s : Sm) (b : ByteArray) : Sm := if growB s b then { s with tx := s.tx ++ b } else s
def readB (s : Sm) (b : ByteArray) : Bool := !(decide ((s.tx.size : Int) < s.rd + b.size) || decide (s.tx.extract s.rd.toNat (s.rd + b.size).toNat ≠ b))
def readS (s : Sm) (b : ByteArray) : Sm := if readB s b then { s with rd := s.rd + b.size } else s
def tellB (s : Sm) (seen : Bool) : Bool := s.en && !(seen && (s.sn || decide (s.rd < (s.tx.size : Int)))) && !(!seen && s.dn)
def tellS (s : Sm) (seen : Bool) : Sm := if tellB s seen then (if seen then { s with sn := true } else { s with dn := true }) else s

set_option maxRecDepth 10000 in
set_option maxHeartbeats 4000000 in
theorem l15Grow {T : TypeId} {pre post : List Value} {ow : Nat} (k : Nat) (s : Sm) (b : ByteArray) (w : World) (hv : Win T pre post ow w k s.c) (hs : s.tx.size ≤ 2097152) (hb : b.size ≤ 2097152) :
    Calls Tryd.prog 41 #[.pointer (some ⟨k, ow, none⟩), .string b] w fun x w' => x = .returned (.bool (growB s b)) ∧ Win T pre post ow w' k (growS s b).c ∧ Draw.Kept k w w' := by
  have hmix := Tak.mix
  have HG : Hid (growS s b = if growB s b then { s with tx := s.tx ++ b } else s) := rfl
  have HB : Hid (growB s b = !(s.en || decide (2000 < (s.tx.size : Int) + b.size))) := rfl
  generalize growS s b = S' at *
  generalize growB s b = B' at *
  have e0 := hv.cell0 rfl
  have e2 := hv.cell (i := 2) rfl
  have f0 := hv.free0
  have v1 : Hid _ := hv.set0 (.string (s.tx ++ b))
  have k1 : Hid _ := (Draw.Kept.refl k w).setCell (p := ⟨k, ow, none⟩) (.inl rfl) (.string (s.tx ++ b))
  have HV : Hid (Win T pre post ow w k s.c) := hv
  clear hv
  obtain ⟨tx, rd, en, dn, sn⟩ := s
  dsimp only at *
  cases en
  · by_cases hz : (2000 : Int) < (tx.size : Int) + b.size
    · have hzd : decide ((2000 : Int) < (tx.size : Int) + b.size) = true := decide_eq_true hz
      have hB : B' = false := by rw [HB.out, hzd]; rfl
      subst hB
      have hS : S' = ⟨tx, rd, false, dn, sn⟩ := HG.out
      subst hS
      go_enter Tryd.func41, Tryd.ntmps41
      go_wp2_with fail
      go_ret
      exact ⟨rfl, HV.out, Draw.Kept.refl _ _⟩
    · have hzd : decide ((2000 : Int) < (tx.size : Int) + b.size) = false := decide_eq_false hz
      have hB : B' = true := by rw [HB.out, hzd]; rfl
      subst hB
      have hS : S' = ⟨tx ++ b, rd, false, dn, sn⟩ := HG.out
      subst hS
      go_enter Tryd.func41, Tryd.ntmps41
      go_wp2_with fail
      go_ret
      exact ⟨rfl, v1.out, k1.out⟩
  · have hB : B' = false := by rw [HB.out]; rfl
    subst hB
    have hS : S' = ⟨tx, rd, true, dn, sn⟩ := HG.out
    subst hS
    go_enter Tryd.func41, Tryd.ntmps41
    go_wp2_with fail
    go_ret
    exact ⟨rfl, HV.out, Draw.Kept.refl _ _⟩

set_option maxRecDepth 10000 in
set_option maxHeartbeats 4000000 in
theorem l15Tell {T : TypeId} {pre post : List Value} {ow : Nat} (k : Nat) (s : Sm) (seen : Bool) (w : World) (hv : Win T pre post ow w k s.c) (hs : s.tx.size ≤ 2097152) :
    Calls Tryd.prog 42 #[.pointer (some ⟨k, ow, none⟩), .bool seen] w fun x w' => x = .returned (.bool (tellB s seen)) ∧ Win T pre post ow w' k (tellS s seen).c ∧ Draw.Kept k w w' := by
  have hmix := Tak.mix
  have HG : Hid (tellS s seen = if tellB s seen then (if seen then { s with sn := true } else { s with dn := true }) else s) := rfl
  have HB : Hid (tellB s seen = (s.en && !(seen && (s.sn || decide (s.rd < (s.tx.size : Int)))) && !(!seen && s.dn))) := rfl
  generalize tellS s seen = S' at *
  generalize tellB s seen = B' at *
  have e0 := hv.cell0 rfl
  have e1 := hv.cell (i := 1) rfl
  have e2 := hv.cell (i := 2) rfl
  have e3 := hv.cell (i := 3) rfl
  have e4 := hv.cell (i := 4) rfl
  have HV : Hid (Win T pre post ow w k s.c) := hv
  clear hv
  obtain ⟨tx, rd, en, dn, sn⟩ := s
  dsimp only at *
  have d0 := Draw.Later.cell e0
  have d1 := Draw.Later.cell e1
  have d2 := Draw.Later.cell e2
  have d3 := Draw.Later.cell e3
  have d4 := Draw.Later.cell e4
  clear e0 e1 e2 e3 e4
  obtain ⟨u, hu⟩ : ∃ u, decide (rd < (tx.size : Int)) = u := ⟨_, rfl⟩
  rw [hu] at HB
  cases en
  case false =>
    have hB : B' = false := by rw [HB.out]; rfl
    subst hB
    have hS : S' = ⟨tx, rd, false, dn, sn⟩ := HG.out
    subst hS
    go_enter Tryd.func42, Tryd.ntmps42
    go_wp2_with fail
    refine Draw.wp_region_later hmix (by kernel_rfl) ?_
    repeat (go_big_quiet_step (fail))
    refine wpQuiet_nil ?_
    intro wq hw'
    obtain ⟨q9, hq9⟩ := hw'
    have hBq := q9.h
    rw [← hq9] at hBq
    clear hq9 q9
    have hvq := HV.out.later hBq
    have kq : Draw.Kept k w wq := Draw.Kept.ofBelow hBq (Nat.le_refl _)
    go_wp2_with fail
    go_ret
    exact ⟨rfl, hvq, kq⟩
  cases seen
  case false =>
    cases dn
    · have hB : B' = true := by rw [HB.out]; rfl
      subst hB
      have hS : S' = ⟨tx, rd, true, true, sn⟩ := HG.out
      subst hS
      go_enter Tryd.func42, Tryd.ntmps42
      go_wp2_with fail
      refine Draw.wp_region_later hmix (by kernel_rfl) ?_
      repeat (go_big_quiet_step (fail))
      refine wpQuiet_nil ?_
      intro wq hw'
      obtain ⟨q9, hq9⟩ := hw'
      have hBq := q9.h
      rw [← hq9] at hBq
      clear hq9 q9
      have hvq := HV.out.later hBq
      have kq : Draw.Kept k w wq := Draw.Kept.ofBelow hBq (Nat.le_refl _)
      have fq := hvq.free 3
      have cq := hvq.cell (i := 3) rfl
      have vq : Hid _ := hvq.set 3 (.bool true)
      have kq' : Hid _ := kq.setCell (p := ⟨k, ow + 3, none⟩) (.inl rfl) (.bool true)
      clear hvq kq
      go_wp2_with fail
      go_ret
      exact ⟨rfl, vq.out, kq'.out⟩
    · have hB : B' = false := by rw [HB.out]; rfl
      subst hB
      have hS : S' = ⟨tx, rd, true, true, sn⟩ := HG.out
      subst hS
      go_enter Tryd.func42, Tryd.ntmps42
      go_wp2_with fail
      refine Draw.wp_region_later hmix (by kernel_rfl) ?_
      repeat (go_big_quiet_step (fail))
      refine wpQuiet_nil ?_
      intro wq hw'
      obtain ⟨q9, hq9⟩ := hw'
      have hBq := q9.h
      rw [← hq9] at hBq
      clear hq9 q9
      have hvq := HV.out.later hBq
      have kq : Draw.Kept k w wq := Draw.Kept.ofBelow hBq (Nat.le_refl _)
      go_wp2_with fail
      go_ret
      exact ⟨rfl, hvq, kq⟩
  cases sn
  case true =>
    have hB : B' = false := by rw [HB.out]; rfl
    subst hB
    have hS : S' = ⟨tx, rd, true, dn, true⟩ := HG.out
    subst hS
    go_enter Tryd.func42, Tryd.ntmps42
    go_wp2_with fail
    refine Draw.wp_region_later hmix (by kernel_rfl) ?_
    repeat (go_big_quiet_step (fail))
    refine wpQuiet_nil ?_
    intro wq hw'
    obtain ⟨q9, hq9⟩ := hw'
    have hBq := q9.h
    rw [← hq9] at hBq
    clear hq9 q9
    have hvq := HV.out.later hBq
    have kq : Draw.Kept k w wq := Draw.Kept.ofBelow hBq (Nat.le_refl _)
    go_wp2_with fail
    go_ret
    exact ⟨rfl, hvq, kq⟩
  cases u
  · have hB : B' = true := by rw [HB.out]; rfl
    subst hB
    have hS : S' = ⟨tx, rd, true, dn, true⟩ := HG.out
    subst hS
    have hu' : ¬ rd < (tx.size : Int) := of_decide_eq_false hu
    go_enter Tryd.func42, Tryd.ntmps42
    go_wp2_with fail
    refine Draw.wp_region_later hmix (by kernel_rfl) ?_
    repeat (go_big_quiet_step (fail))
    refine wpQuiet_nil ?_
    intro wq hw'
    obtain ⟨q9, hq9⟩ := hw'
    have hBq := q9.h
    rw [← hq9] at hBq
    clear hq9 q9
    have hvq := HV.out.later hBq
    have kq : Draw.Kept k w wq := Draw.Kept.ofBelow hBq (Nat.le_refl _)
    have fq := hvq.free 4
    have cq := hvq.cell (i := 4) rfl
    have vq : Hid _ := hvq.set 4 (.bool true)
    have kq' : Hid _ := kq.setCell (p := ⟨k, ow + 4, none⟩) (.inl rfl) (.bool true)
    clear hvq kq
    go_wp2_with fail
    go_ret
    exact ⟨rfl, vq.out, kq'.out⟩
  · have hB : B' = false := by rw [HB.out]; rfl
    subst hB
    have hS : S' = ⟨tx, rd, true, dn, false⟩ := HG.out
    subst hS
    have hu' : rd < (tx.size : Int) := of_decide_eq_true hu
    go_enter Tryd.func42, Tryd.ntmps42
    go_wp2_with fail
    refine Draw.wp_region_later hmix (by kernel_rfl) ?_
    repeat (go_big_quiet_step (fail))
    refine wpQuiet_nil ?_
    intro wq hw'
    obtain ⟨q9, hq9⟩ := hw'
    have hBq := q9.h
    rw [← hq9] at hBq
    clear hq9 q9
    have hvq := HV.out.later hBq
    have kq : Draw.Kept k w wq := Draw.Kept.ofBelow hBq (Nat.le_refl _)
    go_wp2_with fail
    go_ret
    exact ⟨rfl, hvq, kq⟩

set_option maxRecDepth 10000 in
set_option maxHeartbeats 4000000 in
theorem l15Read {T : TypeId} {pre post : List Value} {ow : Nat} (k : Nat) (s : Sm) (b : ByteArray) (w : World) (hv : Win T pre post ow w k s.c) (hs : s.tx.size ≤ 2097152) (hb : b.size ≤ 2097152) (hr : 0 ≤ s.rd ∧ s.rd ≤ (s.tx.size : Int)) :
    Calls Tryd.prog 39 #[.pointer (some ⟨k, ow, none⟩), .string b] w fun x w' => x = .returned (.bool (readB s b)) ∧ Win T pre post ow w' k (readS s b).c ∧ Draw.Kept k w w' := by
  have hmix := Tak.mix
  have HG : Hid (readS s b = if readB s b then { s with rd := s.rd + b.size } else s) := rfl
  have HB : Hid (readB s b = !(decide ((s.tx.size : Int) < s.rd + b.size) || decide (s.tx.extract s.rd.toNat (s.rd + b.size).toNat ≠ b))) := rfl
  generalize readS s b = S' at *
  generalize readB s b = B' at *
  have e0 := hv.cell0 rfl
  have e1 := hv.cell (i := 1) rfl
  have HV : Hid (Win T pre post ow w k s.c) := hv
  clear hv
  obtain ⟨tx, rd, en, dn, sn⟩ := s
  dsimp only at *
  obtain ⟨r, rfl⟩ : ∃ r : Nat, rd = (r : Int) := ⟨rd.toNat, by omega⟩
  have d0 := Draw.Later.cell e0
  have d1 := Draw.Later.cell e1
  by_cases hz : (tx.size : Int) < (r : Int) + b.size
  · have hzd : decide ((tx.size : Int) < (r : Int) + b.size) = true := decide_eq_true hz
    have hB : B' = false := by rw [HB.out, hzd]; rfl
    subst hB
    have hS : S' = ⟨tx, r, en, dn, sn⟩ := HG.out
    subst hS
    go_enter Tryd.func39, Tryd.ntmps39
    go_wp2_with fail
    refine Draw.wp_region_later hmix (by kernel_rfl) ?_
    repeat (go_big_quiet_step (fail))
    refine wpQuiet_nil ?_
    intro wq hw'
    obtain ⟨q9, hq9⟩ := hw'
    have hBq := q9.h
    rw [← hq9] at hBq
    clear hq9 q9
    have hvq := HV.out.later hBq
    have kq : Draw.Kept k w wq := Draw.Kept.ofBelow hBq (Nat.le_refl _)
    go_wp2_with fail
    go_ret
    exact ⟨rfl, hvq, kq⟩
  · have hzd : decide ((tx.size : Int) < (r : Int) + b.size) = false := decide_eq_false hz
    rw [hzd, Bool.false_or, show ((r : Int)).toNat = r by omega, show ((r : Int) + (b.size : Int)).toNat = r + b.size by omega] at HB
    have i0 : (r : Int) + (b.size : Int) ≤ (tx.size : Int) := by omega
    have i1 : (r : Int) ≤ (r : Int) + (b.size : Int) := by omega
    have i2 : (0 : Int) ≤ (r : Int) := by omega
    go_enter Tryd.func39, Tryd.ntmps39
    go_wp2_with fail
    refine Draw.wp_region_later hmix (by kernel_rfl) ?_
    repeat (go_big_quiet_step (fail))
    refine wpQuiet_nil ?_
    intro wq hw'
    obtain ⟨q9, hq9⟩ := hw'
    have hBq := q9.h
    rw [← hq9] at hBq
    clear hq9 q9
    have hvq := HV.out.later hBq
    have kq : Draw.Kept k w wq := Draw.Kept.ofBelow hBq (Nat.le_refl _)
    have hc := beq_text (tx.extract r (r + b.size)) b
    by_cases hq : tx.extract r (r + b.size) = b
    · rw [decide_eq_true hq] at hc
      have hB : B' = true := by rw [HB.out, hq]; simp
      subst hB
      have hS : S' = ⟨tx, (r : Int) + (b.size : Int), en, dn, sn⟩ := HG.out
      subst hS
      have fq := hvq.free 1
      have cq := hvq.cell (i := 1) rfl
      have vq : Hid _ := hvq.set 1 (.int .i64 ((r : Int) + (b.size : Int)))
      have kq' : Hid _ := kq.setCell (p := ⟨k, ow + 1, none⟩) (.inl rfl) (.int .i64 ((r : Int) + (b.size : Int)))
      clear hvq kq
      rw [hc]
      clear hc hq
      go_wp2_with fail
      go_ret
      exact ⟨rfl, vq.out, kq'.out⟩
    · rw [decide_eq_false hq] at hc
      have hB : B' = false := by rw [HB.out]; simp [hq]
      subst hB
      have hS : S' = ⟨tx, (r : Int), en, dn, sn⟩ := HG.out
      subst hS
      rw [hc]
      clear hc hq
      go_wp2_with fail
      go_ret
      exact ⟨rfl, hvq, kq⟩

end Go.Proofs.YtddicibpfmjgfaaDoor.Str
