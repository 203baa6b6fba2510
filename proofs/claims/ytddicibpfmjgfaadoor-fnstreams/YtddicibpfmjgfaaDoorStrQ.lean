/- Chapter 15, the program: grown, readOn, atItsEnd, toldOfEnd, and Grew, WasRead, Ended, TellEnd, which answer as the specification. Made by tools/gen/genstrp.py. -/
import Derived.Test.YtddicibpfmjgfaaDoorStrP
import Derived.Test.YtddicibpfmjgfaaDoorStrE
namespace Go.Proofs.YtddicibpfmjgfaaDoor.Str
open Go.RowKit RowG
set_option linter.unusedVariables false
set_option linter.unusedSimpArgs false

/-- What an inner function leaves: a stream and an error of which answered makes f. -/
def Inn (f : Sm × Bool) (w : World) (x : Ending) (w' : World) : Prop := ∃ (r : Sm) (e : Value), x = .returned (.tuple #[r.v, e]) ∧ Ans r e f w' ∧ Below w.heap.size w w'
theorem Inn.mk {f : Sm × Bool} {w w' : World} {r : Sm} {e : Value} (h : ∀ w', Below w.heap.size w w' → Ans r e f w') (b : Below w.heap.size w w') : Inn f w (.returned (.tuple #[r.v, e])) w' := ⟨r, e, rfl, h w' b, b⟩

set_option maxRecDepth 10000 in
set_option maxHeartbeats 4000000 in
theorem grown_wrong (s : Sm) (b : ByteArray) (w : World) (aW : Addr) (H : Hnd w) (SW : Sen 0 aW w) (hs : s.tx.size ≤ 2097152) (hok : s.ok = false) :
    Calls Tryd.prog 35 #[s.v, .string b] w (Inn (zeroS, false) w) := by
  have hG := fun w' => implStreamOk s w' hs
  rw [hok] at hG
  clear hok
  obtain ⟨tx, rd, en, dn, sn⟩ := s
  dsimp only [Sm.v, Sm.c] at *
  have v1 : Var 25 ((w.alloc (.cells #[.string tx, .int .i64 rd, .bool en, .bool dn, .bool sn] 25)).alloc (.cells #[.string ⟨#[]⟩, .int .i64 0, .bool false, .bool false, .bool false] 25)) w.heap.size [.string tx, .int .i64 rd, .bool en, .bool dn, .bool sn] := (Var.new w [.string tx, .int .i64 rd, .bool en, .bool dn, .bool sn]).alloc _
  have v2 : Var 25 ((w.alloc (.cells #[.string tx, .int .i64 rd, .bool en, .bool dn, .bool sn] 25)).alloc (.cells #[.string ⟨#[]⟩, .int .i64 0, .bool false, .bool false, .bool false] 25)) (w.heap.size + 1) [.string ⟨#[]⟩, .int .i64 0, .bool false, .bool false, .bool false] := by
    have := Var.new (T := 25) (w.alloc (.cells #[.string tx, .int .i64 rd, .bool en, .bool dn, .bool sn] 25)) [.string ⟨#[]⟩, .int .i64 0, .bool false, .bool false, .bool false]
    simpa using this
  have b1 : Below w.heap.size w ((w.alloc (.cells #[.string tx, .int .i64 rd, .bool en, .bool dn, .bool sn] 25)).alloc (.cells #[.string ⟨#[]⟩, .int .i64 0, .bool false, .bool false, .bool false] 25)) := ((Below.refl _ _).alloc (Nat.le_refl _) _).alloc (by simp) _
  go_enter Tryd.func35, Tryd.ntmps35
  go_wp2_with fail
  generalize ((w.alloc (.cells #[.string tx, .int .i64 rd, .bool en, .bool dn, .bool sn] 25)).alloc (.cells #[.string ⟨#[]⟩, .int .i64 0, .bool false, .bool false, .bool false] 25)) = V at *
  refine (hG _).mono ?_
  rintro x w1 ⟨rfl, b2⟩
  have x1 := v1.later b2
  have x2 := v2.later b2
  have B2 := b1.trans (b2.mono b1.size)
  clear v1 v2 b1 b2 hG
  have e0 := x1.cell (i := 0) rfl
  have e1 := x1.cell (i := 1) rfl
  have e2 := x1.cell (i := 2) rfl
  have e3 := x1.cell (i := 3) rfl
  have e4 := x1.cell (i := 4) rfl
  have c0 := (SW.below B2 (Nat.le_refl _)).cell
  go_wp2_with fail
  refine (implRefuse ⟨tx, rd, en, dn, sn⟩ aW _).mono ?_
  rintro x w2 ⟨rfl, b3⟩
  simp only [Err.refV, Err.refC, Sm.c, Sm.v, List.cons_append, List.nil_append]
  have y2 := x2.later b3
  have B3 := B2.trans (b3.mono B2.size)
  clear c0 b3
  have r0 := y2.cell (i := 0) rfl
  have r1 := y2.cell (i := 1) rfl
  have r2 := y2.cell (i := 2) rfl
  have r3 := y2.cell (i := 3) rfl
  have r4 := y2.cell (i := 4) rfl
  have q0 := y2.free 0
  have q1 := y2.free 1
  have q2 := y2.free 2
  have q3 := y2.free 3
  have q4 := y2.free 4
  go_wp2_with fail
  refine bodyPost_ret (v := .tuple #[.agg #[.string ⟨#[]⟩, .int .i64 0, .bool false, .bool false, .bool false], .iface 66 (.agg #[.string tx, .int .i64 rd, .bool en, .bool dn, .bool sn, .iface 104 (.pointer (some aW))])]) (by rw [Tak.res_cell_tmp rfl]; go_simp; try rfl) rfl (Inn.mk (r := zeroS) (e := Err.refV ⟨tx, rd, en, dn, sn⟩ aW) (fun w' q => ans_wrong zeroS _ _ _ (H.below q (Nat.le_refl _)) (SW.below q (Nat.le_refl _))) ?_)
  iterate 5 (refine Below.setCell ?_ (by dsimp only; omega) _)
  exact B3

set_option maxRecDepth 10000 in
set_option maxHeartbeats 4000000 in
theorem grown_ended (s : Sm) (b : ByteArray) (w : World) (aW : Addr) (H : Hnd w) (SW : Sen 0 aW w) (aX : Addr) (SX : Sen 2 aX w) (hne : aX ≠ aW) (hs : s.tx.size ≤ 2097152) (hok : s.ok = true) (he : s.en = true) :
    Calls Tryd.prog 35 #[s.v, .string b] w (Inn (s, false) w) := by
  have hG := fun w' => implStreamOk s w' hs
  rw [hok] at hG
  clear hok
  obtain ⟨tx, rd, en, dn, sn⟩ := s
  dsimp only at he
  subst he
  dsimp only [Sm.v, Sm.c] at *
  have v1 : Var 25 ((w.alloc (.cells #[.string tx, .int .i64 rd, .bool true, .bool dn, .bool sn] 25)).alloc (.cells #[.string ⟨#[]⟩, .int .i64 0, .bool false, .bool false, .bool false] 25)) w.heap.size [.string tx, .int .i64 rd, .bool true, .bool dn, .bool sn] := (Var.new w [.string tx, .int .i64 rd, .bool true, .bool dn, .bool sn]).alloc _
  have v2 : Var 25 ((w.alloc (.cells #[.string tx, .int .i64 rd, .bool true, .bool dn, .bool sn] 25)).alloc (.cells #[.string ⟨#[]⟩, .int .i64 0, .bool false, .bool false, .bool false] 25)) (w.heap.size + 1) [.string ⟨#[]⟩, .int .i64 0, .bool false, .bool false, .bool false] := by
    have := Var.new (T := 25) (w.alloc (.cells #[.string tx, .int .i64 rd, .bool true, .bool dn, .bool sn] 25)) [.string ⟨#[]⟩, .int .i64 0, .bool false, .bool false, .bool false]
    simpa using this
  have b1 : Below w.heap.size w ((w.alloc (.cells #[.string tx, .int .i64 rd, .bool true, .bool dn, .bool sn] 25)).alloc (.cells #[.string ⟨#[]⟩, .int .i64 0, .bool false, .bool false, .bool false] 25)) := ((Below.refl _ _).alloc (Nat.le_refl _) _).alloc (by simp) _
  go_enter Tryd.func35, Tryd.ntmps35
  go_wp2_with fail
  generalize ((w.alloc (.cells #[.string tx, .int .i64 rd, .bool true, .bool dn, .bool sn] 25)).alloc (.cells #[.string ⟨#[]⟩, .int .i64 0, .bool false, .bool false, .bool false] 25)) = V at *
  refine (hG _).mono ?_
  rintro x w1 ⟨rfl, b2⟩
  have x1 := v1.later b2
  have x2 := v2.later b2
  have B2 := b1.trans (b2.mono b1.size)
  clear v1 v2 b1 b2 hG
  have e0 := x1.cell (i := 0) rfl
  have e1 := x1.cell (i := 1) rfl
  have e2 := x1.cell (i := 2) rfl
  have e3 := x1.cell (i := 3) rfl
  have e4 := x1.cell (i := 4) rfl
  have c0 := (SX.below B2 (Nat.le_refl _)).cell
  go_wp2_with fail
  refine (implRefuse ⟨tx, rd, true, dn, sn⟩ aX _).mono ?_
  rintro x w2 ⟨rfl, b3⟩
  simp only [Err.refV, Err.refC, Sm.c, Sm.v, List.cons_append, List.nil_append]
  have y2 := x2.later b3
  have B3 := B2.trans (b3.mono B2.size)
  clear c0 b3
  have r0 := y2.cell (i := 0) rfl
  have r1 := y2.cell (i := 1) rfl
  have r2 := y2.cell (i := 2) rfl
  have r3 := y2.cell (i := 3) rfl
  have r4 := y2.cell (i := 4) rfl
  have q0 := y2.free 0
  have q1 := y2.free 1
  have q2 := y2.free 2
  have q3 := y2.free 3
  have q4 := y2.free 4
  go_wp2_with fail
  refine bodyPost_ret (v := .tuple #[.agg #[.string ⟨#[]⟩, .int .i64 0, .bool false, .bool false, .bool false], .iface 66 (.agg #[.string tx, .int .i64 rd, .bool true, .bool dn, .bool sn, .iface 104 (.pointer (some aX))])]) (by rw [Tak.res_cell_tmp rfl]; go_simp; try rfl) rfl (Inn.mk (r := zeroS) (e := Err.refV ⟨tx, rd, true, dn, sn⟩ aX) (fun w' q => ans_ref zeroS _ _ _ _ (H.below q (Nat.le_refl _)) (SW.below q (Nat.le_refl _)) (SX.below q (Nat.le_refl _)) hne) ?_)
  iterate 5 (refine Below.setCell ?_ (by dsimp only; omega) _)
  exact B3

set_option maxRecDepth 10000 in
set_option maxHeartbeats 4000000 in
theorem grown_long (s : Sm) (b : ByteArray) (w : World) (aW : Addr) (H : Hnd w) (SW : Sen 0 aW w) (aX : Addr) (SX : Sen 3 aX w) (hne : aX ≠ aW) (hs : s.tx.size ≤ 2097152) (hb : b.size ≤ 2097152) (hok : s.ok = true) (he : s.en = false) (hl : 2000 < (s.tx.size : Int) + b.size) :
    Calls Tryd.prog 35 #[s.v, .string b] w (Inn (s, false) w) := by
  have hG := fun w' => implStreamOk s w' hs
  rw [hok] at hG
  clear hok
  obtain ⟨tx, rd, en, dn, sn⟩ := s
  dsimp only at he hl
  subst he
  have hl' : (2000 : Int) - (tx.size : Int) < (b.size : Int) := by omega
  dsimp only [Sm.v, Sm.c] at *
  have v1 : Var 25 ((w.alloc (.cells #[.string tx, .int .i64 rd, .bool false, .bool dn, .bool sn] 25)).alloc (.cells #[.string ⟨#[]⟩, .int .i64 0, .bool false, .bool false, .bool false] 25)) w.heap.size [.string tx, .int .i64 rd, .bool false, .bool dn, .bool sn] := (Var.new w [.string tx, .int .i64 rd, .bool false, .bool dn, .bool sn]).alloc _
  have v2 : Var 25 ((w.alloc (.cells #[.string tx, .int .i64 rd, .bool false, .bool dn, .bool sn] 25)).alloc (.cells #[.string ⟨#[]⟩, .int .i64 0, .bool false, .bool false, .bool false] 25)) (w.heap.size + 1) [.string ⟨#[]⟩, .int .i64 0, .bool false, .bool false, .bool false] := by
    have := Var.new (T := 25) (w.alloc (.cells #[.string tx, .int .i64 rd, .bool false, .bool dn, .bool sn] 25)) [.string ⟨#[]⟩, .int .i64 0, .bool false, .bool false, .bool false]
    simpa using this
  have b1 : Below w.heap.size w ((w.alloc (.cells #[.string tx, .int .i64 rd, .bool false, .bool dn, .bool sn] 25)).alloc (.cells #[.string ⟨#[]⟩, .int .i64 0, .bool false, .bool false, .bool false] 25)) := ((Below.refl _ _).alloc (Nat.le_refl _) _).alloc (by simp) _
  go_enter Tryd.func35, Tryd.ntmps35
  go_wp2_with fail
  generalize ((w.alloc (.cells #[.string tx, .int .i64 rd, .bool false, .bool dn, .bool sn] 25)).alloc (.cells #[.string ⟨#[]⟩, .int .i64 0, .bool false, .bool false, .bool false] 25)) = V at *
  refine (hG _).mono ?_
  rintro x w1 ⟨rfl, b2⟩
  have x1 := v1.later b2
  have x2 := v2.later b2
  have B2 := b1.trans (b2.mono b1.size)
  clear v1 v2 b1 b2 hG
  have e0 := x1.cell (i := 0) rfl
  have e1 := x1.cell (i := 1) rfl
  have e2 := x1.cell (i := 2) rfl
  have e3 := x1.cell (i := 3) rfl
  have e4 := x1.cell (i := 4) rfl
  have c0 := (SX.below B2 (Nat.le_refl _)).cell
  go_wp2_with fail
  refine (implRefuse ⟨tx, rd, false, dn, sn⟩ aX _).mono ?_
  rintro x w2 ⟨rfl, b3⟩
  simp only [Err.refV, Err.refC, Sm.c, Sm.v, List.cons_append, List.nil_append]
  have y2 := x2.later b3
  have B3 := B2.trans (b3.mono B2.size)
  clear c0 b3
  have r0 := y2.cell (i := 0) rfl
  have r1 := y2.cell (i := 1) rfl
  have r2 := y2.cell (i := 2) rfl
  have r3 := y2.cell (i := 3) rfl
  have r4 := y2.cell (i := 4) rfl
  have q0 := y2.free 0
  have q1 := y2.free 1
  have q2 := y2.free 2
  have q3 := y2.free 3
  have q4 := y2.free 4
  go_wp2_with fail
  refine bodyPost_ret (v := .tuple #[.agg #[.string ⟨#[]⟩, .int .i64 0, .bool false, .bool false, .bool false], .iface 66 (.agg #[.string tx, .int .i64 rd, .bool false, .bool dn, .bool sn, .iface 104 (.pointer (some aX))])]) (by rw [Tak.res_cell_tmp rfl]; go_simp; try rfl) rfl (Inn.mk (r := zeroS) (e := Err.refV ⟨tx, rd, false, dn, sn⟩ aX) (fun w' q => ans_ref zeroS _ _ _ _ (H.below q (Nat.le_refl _)) (SW.below q (Nat.le_refl _)) (SX.below q (Nat.le_refl _)) hne) ?_)
  iterate 5 (refine Below.setCell ?_ (by dsimp only; omega) _)
  exact B3

set_option maxRecDepth 10000 in
set_option maxHeartbeats 4000000 in
theorem grown_fine (s : Sm) (b : ByteArray) (w : World) (aW : Addr) (H : Hnd w) (SW : Sen 0 aW w) (hs : s.tx.size ≤ 2097152) (hb : b.size ≤ 2097152) (hok : s.ok = true) (he : s.en = false) (hl : (s.tx.size : Int) + b.size ≤ 2000) :
    Calls Tryd.prog 35 #[s.v, .string b] w (Inn ({ s with tx := s.tx ++ b }, true) w) := by
  have hG := fun w' => implStreamOk s w' hs
  rw [hok] at hG
  clear hok
  obtain ⟨tx, rd, en, dn, sn⟩ := s
  dsimp only at he hl
  subst he
  have hl' : ¬ (2000 : Int) - (tx.size : Int) < (b.size : Int) := by omega
  dsimp only [Sm.v, Sm.c] at *
  have v1 : Var 25 ((w.alloc (.cells #[.string tx, .int .i64 rd, .bool false, .bool dn, .bool sn] 25)).alloc (.cells #[.string ⟨#[]⟩, .int .i64 0, .bool false, .bool false, .bool false] 25)) w.heap.size [.string tx, .int .i64 rd, .bool false, .bool dn, .bool sn] := (Var.new w [.string tx, .int .i64 rd, .bool false, .bool dn, .bool sn]).alloc _
  have v2 : Var 25 ((w.alloc (.cells #[.string tx, .int .i64 rd, .bool false, .bool dn, .bool sn] 25)).alloc (.cells #[.string ⟨#[]⟩, .int .i64 0, .bool false, .bool false, .bool false] 25)) (w.heap.size + 1) [.string ⟨#[]⟩, .int .i64 0, .bool false, .bool false, .bool false] := by
    have := Var.new (T := 25) (w.alloc (.cells #[.string tx, .int .i64 rd, .bool false, .bool dn, .bool sn] 25)) [.string ⟨#[]⟩, .int .i64 0, .bool false, .bool false, .bool false]
    simpa using this
  have b1 : Below w.heap.size w ((w.alloc (.cells #[.string tx, .int .i64 rd, .bool false, .bool dn, .bool sn] 25)).alloc (.cells #[.string ⟨#[]⟩, .int .i64 0, .bool false, .bool false, .bool false] 25)) := ((Below.refl _ _).alloc (Nat.le_refl _) _).alloc (by simp) _
  go_enter Tryd.func35, Tryd.ntmps35
  go_wp2_with fail
  generalize ((w.alloc (.cells #[.string tx, .int .i64 rd, .bool false, .bool dn, .bool sn] 25)).alloc (.cells #[.string ⟨#[]⟩, .int .i64 0, .bool false, .bool false, .bool false] 25)) = V at *
  refine (hG _).mono ?_
  rintro x w1 ⟨rfl, b2⟩
  have x1 := v1.later b2
  have x2 := v2.later b2
  have B2 := b1.trans (b2.mono b1.size)
  clear v1 v2 b1 b2 hG
  have e0 := x1.cell (i := 0) rfl
  have e1 := x1.cell (i := 1) rfl
  have e2 := x1.cell (i := 2) rfl
  have e3 := x1.cell (i := 3) rfl
  have e4 := x1.cell (i := 4) rfl
  have f0 := x1.free 0
  have z1 := x1.set 0 (.string (tx ++ b))
  have z2 := x2.other (p := ⟨w.heap.size, 0, none⟩) (by dsimp only; omega) (.string (tx ++ b))
  have B4 := B2.setCell (p := ⟨w.heap.size, 0, none⟩) (Nat.le_refl _) (.string (tx ++ b))
  go_upto_region 8 with (fail)
  generalize (w1.setCell ⟨w.heap.size, 0, none⟩ (.string (tx ++ b))) = V4 at *
  clear e0 e1 e2 e3 e4 f0 x1 x2 B2
  have e0 := z1.cell (i := 0) rfl
  have e1 := z1.cell (i := 1) rfl
  have e2 := z1.cell (i := 2) rfl
  have e3 := z1.cell (i := 3) rfl
  have e4 := z1.cell (i := 4) rfl
  have r0 := z2.cell (i := 0) rfl
  have r1 := z2.cell (i := 1) rfl
  have r2 := z2.cell (i := 2) rfl
  have r3 := z2.cell (i := 3) rfl
  have r4 := z2.cell (i := 4) rfl
  have q0 := z2.free 0
  have q1 := z2.free 1
  have q2 := z2.free 2
  have q3 := z2.free 3
  have q4 := z2.free 4
  go_wp2_with fail
  refine bodyPost_ret (v := .tuple #[.agg #[.string (tx ++ b), .int .i64 rd, .bool false, .bool dn, .bool sn], .nilIface]) (by rw [Tak.res_cell_tmp rfl]; go_simp; try rfl) rfl (Inn.mk (r := ⟨tx ++ b, rd, false, dn, sn⟩) (e := .nilIface) (fun w' q => ans_ok _ _) ?_)
  iterate 5 (refine Below.setCell ?_ (by dsimp only; omega) _)
  exact B4

theorem implGrown (s : Sm) (b : ByteArray) (w : World) (aW aE aL : Addr) (H : Hnd w) (SW : Sen 0 aW w) (SE : Sen 2 aE w) (SL : Sen 3 aL w) (nE : aE ≠ aW) (nL : aL ≠ aW) (hs : s.tx.size ≤ 2097152) (hb : b.size ≤ 2097152) :
    Calls Tryd.prog 35 #[s.v, .string b] w (Inn (grewS s b) w) := by
  cases hok : s.ok
  · have e : grewS s b = (zeroS, false) := by simp [grewS, hok]
    rw [e]
    exact grown_wrong s b w aW H SW hs hok
  cases he : s.en
  case true =>
    have e : grewS s b = (s, false) := by simp [grewS, hok, growS, growB, he]
    rw [e]
    exact grown_ended s b w aW H SW aE SE nE hs hok he
  by_cases hl : 2000 < (s.tx.size : Int) + b.size
  · have e : grewS s b = (s, false) := by simp [grewS, hok, growS, growB, he, hl]
    rw [e]
    exact grown_long s b w aW H SW aL SL nL hs hb hok he hl
  · have e : grewS s b = ({ s with tx := s.tx ++ b }, true) := by simp [grewS, hok, growS, growB, he, hl]
    rw [e]
    exact grown_fine s b w aW H SW hs hb hok he (by omega)

set_option maxRecDepth 10000 in
set_option maxHeartbeats 4000000 in
theorem atItsEnd_wrong (s : Sm) (w : World) (aW : Addr) (H : Hnd w) (SW : Sen 0 aW w) (hs : s.tx.size ≤ 2097152) (hok : s.ok = false) :
    Calls Tryd.prog 37 #[s.v] w (Inn (zeroS, false) w) := by
  have hG := fun w' => implStreamOk s w' hs
  rw [hok] at hG
  clear hok
  obtain ⟨tx, rd, en, dn, sn⟩ := s
  dsimp only [Sm.v, Sm.c] at *
  have v1 : Var 25 ((w.alloc (.cells #[.string tx, .int .i64 rd, .bool en, .bool dn, .bool sn] 25)).alloc (.cells #[.string ⟨#[]⟩, .int .i64 0, .bool false, .bool false, .bool false] 25)) w.heap.size [.string tx, .int .i64 rd, .bool en, .bool dn, .bool sn] := (Var.new w [.string tx, .int .i64 rd, .bool en, .bool dn, .bool sn]).alloc _
  have v2 : Var 25 ((w.alloc (.cells #[.string tx, .int .i64 rd, .bool en, .bool dn, .bool sn] 25)).alloc (.cells #[.string ⟨#[]⟩, .int .i64 0, .bool false, .bool false, .bool false] 25)) (w.heap.size + 1) [.string ⟨#[]⟩, .int .i64 0, .bool false, .bool false, .bool false] := by
    have := Var.new (T := 25) (w.alloc (.cells #[.string tx, .int .i64 rd, .bool en, .bool dn, .bool sn] 25)) [.string ⟨#[]⟩, .int .i64 0, .bool false, .bool false, .bool false]
    simpa using this
  have b1 : Below w.heap.size w ((w.alloc (.cells #[.string tx, .int .i64 rd, .bool en, .bool dn, .bool sn] 25)).alloc (.cells #[.string ⟨#[]⟩, .int .i64 0, .bool false, .bool false, .bool false] 25)) := ((Below.refl _ _).alloc (Nat.le_refl _) _).alloc (by simp) _
  go_enter Tryd.func37, Tryd.ntmps37
  go_wp2_with fail
  generalize ((w.alloc (.cells #[.string tx, .int .i64 rd, .bool en, .bool dn, .bool sn] 25)).alloc (.cells #[.string ⟨#[]⟩, .int .i64 0, .bool false, .bool false, .bool false] 25)) = V at *
  refine (hG _).mono ?_
  rintro x w1 ⟨rfl, b2⟩
  have x1 := v1.later b2
  have x2 := v2.later b2
  have B2 := b1.trans (b2.mono b1.size)
  clear v1 v2 b1 b2 hG
  have e0 := x1.cell (i := 0) rfl
  have e1 := x1.cell (i := 1) rfl
  have e2 := x1.cell (i := 2) rfl
  have e3 := x1.cell (i := 3) rfl
  have e4 := x1.cell (i := 4) rfl
  have c0 := (SW.below B2 (Nat.le_refl _)).cell
  go_wp2_with fail
  refine (implRefuse ⟨tx, rd, en, dn, sn⟩ aW _).mono ?_
  rintro x w2 ⟨rfl, b3⟩
  simp only [Err.refV, Err.refC, Sm.c, Sm.v, List.cons_append, List.nil_append]
  have y2 := x2.later b3
  have B3 := B2.trans (b3.mono B2.size)
  clear c0 b3
  have r0 := y2.cell (i := 0) rfl
  have r1 := y2.cell (i := 1) rfl
  have r2 := y2.cell (i := 2) rfl
  have r3 := y2.cell (i := 3) rfl
  have r4 := y2.cell (i := 4) rfl
  have q0 := y2.free 0
  have q1 := y2.free 1
  have q2 := y2.free 2
  have q3 := y2.free 3
  have q4 := y2.free 4
  go_wp2_with fail
  refine bodyPost_ret (v := .tuple #[.agg #[.string ⟨#[]⟩, .int .i64 0, .bool false, .bool false, .bool false], .iface 66 (.agg #[.string tx, .int .i64 rd, .bool en, .bool dn, .bool sn, .iface 104 (.pointer (some aW))])]) (by rw [Tak.res_cell_tmp rfl]; go_simp; try rfl) rfl (Inn.mk (r := zeroS) (e := Err.refV ⟨tx, rd, en, dn, sn⟩ aW) (fun w' q => ans_wrong zeroS _ _ _ (H.below q (Nat.le_refl _)) (SW.below q (Nat.le_refl _))) ?_)
  iterate 5 (refine Below.setCell ?_ (by dsimp only; omega) _)
  exact B3

set_option maxRecDepth 10000 in
set_option maxHeartbeats 4000000 in
theorem atItsEnd_ended (s : Sm) (w : World) (aW : Addr) (H : Hnd w) (SW : Sen 0 aW w) (aX : Addr) (SX : Sen 2 aX w) (hne : aX ≠ aW) (hs : s.tx.size ≤ 2097152) (hok : s.ok = true) (he : s.en = true) :
    Calls Tryd.prog 37 #[s.v] w (Inn (s, false) w) := by
  have hG := fun w' => implStreamOk s w' hs
  rw [hok] at hG
  clear hok
  obtain ⟨tx, rd, en, dn, sn⟩ := s
  dsimp only at he
  subst he
  dsimp only [Sm.v, Sm.c] at *
  have v1 : Var 25 ((w.alloc (.cells #[.string tx, .int .i64 rd, .bool true, .bool dn, .bool sn] 25)).alloc (.cells #[.string ⟨#[]⟩, .int .i64 0, .bool false, .bool false, .bool false] 25)) w.heap.size [.string tx, .int .i64 rd, .bool true, .bool dn, .bool sn] := (Var.new w [.string tx, .int .i64 rd, .bool true, .bool dn, .bool sn]).alloc _
  have v2 : Var 25 ((w.alloc (.cells #[.string tx, .int .i64 rd, .bool true, .bool dn, .bool sn] 25)).alloc (.cells #[.string ⟨#[]⟩, .int .i64 0, .bool false, .bool false, .bool false] 25)) (w.heap.size + 1) [.string ⟨#[]⟩, .int .i64 0, .bool false, .bool false, .bool false] := by
    have := Var.new (T := 25) (w.alloc (.cells #[.string tx, .int .i64 rd, .bool true, .bool dn, .bool sn] 25)) [.string ⟨#[]⟩, .int .i64 0, .bool false, .bool false, .bool false]
    simpa using this
  have b1 : Below w.heap.size w ((w.alloc (.cells #[.string tx, .int .i64 rd, .bool true, .bool dn, .bool sn] 25)).alloc (.cells #[.string ⟨#[]⟩, .int .i64 0, .bool false, .bool false, .bool false] 25)) := ((Below.refl _ _).alloc (Nat.le_refl _) _).alloc (by simp) _
  go_enter Tryd.func37, Tryd.ntmps37
  go_wp2_with fail
  generalize ((w.alloc (.cells #[.string tx, .int .i64 rd, .bool true, .bool dn, .bool sn] 25)).alloc (.cells #[.string ⟨#[]⟩, .int .i64 0, .bool false, .bool false, .bool false] 25)) = V at *
  refine (hG _).mono ?_
  rintro x w1 ⟨rfl, b2⟩
  have x1 := v1.later b2
  have x2 := v2.later b2
  have B2 := b1.trans (b2.mono b1.size)
  clear v1 v2 b1 b2 hG
  have e0 := x1.cell (i := 0) rfl
  have e1 := x1.cell (i := 1) rfl
  have e2 := x1.cell (i := 2) rfl
  have e3 := x1.cell (i := 3) rfl
  have e4 := x1.cell (i := 4) rfl
  have c0 := (SX.below B2 (Nat.le_refl _)).cell
  go_wp2_with fail
  refine (implRefuse ⟨tx, rd, true, dn, sn⟩ aX _).mono ?_
  rintro x w2 ⟨rfl, b3⟩
  simp only [Err.refV, Err.refC, Sm.c, Sm.v, List.cons_append, List.nil_append]
  have y2 := x2.later b3
  have B3 := B2.trans (b3.mono B2.size)
  clear c0 b3
  have r0 := y2.cell (i := 0) rfl
  have r1 := y2.cell (i := 1) rfl
  have r2 := y2.cell (i := 2) rfl
  have r3 := y2.cell (i := 3) rfl
  have r4 := y2.cell (i := 4) rfl
  have q0 := y2.free 0
  have q1 := y2.free 1
  have q2 := y2.free 2
  have q3 := y2.free 3
  have q4 := y2.free 4
  go_wp2_with fail
  refine bodyPost_ret (v := .tuple #[.agg #[.string ⟨#[]⟩, .int .i64 0, .bool false, .bool false, .bool false], .iface 66 (.agg #[.string tx, .int .i64 rd, .bool true, .bool dn, .bool sn, .iface 104 (.pointer (some aX))])]) (by rw [Tak.res_cell_tmp rfl]; go_simp; try rfl) rfl (Inn.mk (r := zeroS) (e := Err.refV ⟨tx, rd, true, dn, sn⟩ aX) (fun w' q => ans_ref zeroS _ _ _ _ (H.below q (Nat.le_refl _)) (SW.below q (Nat.le_refl _)) (SX.below q (Nat.le_refl _)) hne) ?_)
  iterate 5 (refine Below.setCell ?_ (by dsimp only; omega) _)
  exact B3

set_option maxRecDepth 10000 in
set_option maxHeartbeats 4000000 in
theorem atItsEnd_fine (s : Sm) (w : World) (aW : Addr) (H : Hnd w) (SW : Sen 0 aW w) (hs : s.tx.size ≤ 2097152) (hok : s.ok = true) (he : s.en = false) :
    Calls Tryd.prog 37 #[s.v] w (Inn ({ s with en := true }, true) w) := by
  have hG := fun w' => implStreamOk s w' hs
  rw [hok] at hG
  clear hok
  obtain ⟨tx, rd, en, dn, sn⟩ := s
  dsimp only at he
  subst he
  dsimp only [Sm.v, Sm.c] at *
  have v1 : Var 25 ((w.alloc (.cells #[.string tx, .int .i64 rd, .bool false, .bool dn, .bool sn] 25)).alloc (.cells #[.string ⟨#[]⟩, .int .i64 0, .bool false, .bool false, .bool false] 25)) w.heap.size [.string tx, .int .i64 rd, .bool false, .bool dn, .bool sn] := (Var.new w [.string tx, .int .i64 rd, .bool false, .bool dn, .bool sn]).alloc _
  have v2 : Var 25 ((w.alloc (.cells #[.string tx, .int .i64 rd, .bool false, .bool dn, .bool sn] 25)).alloc (.cells #[.string ⟨#[]⟩, .int .i64 0, .bool false, .bool false, .bool false] 25)) (w.heap.size + 1) [.string ⟨#[]⟩, .int .i64 0, .bool false, .bool false, .bool false] := by
    have := Var.new (T := 25) (w.alloc (.cells #[.string tx, .int .i64 rd, .bool false, .bool dn, .bool sn] 25)) [.string ⟨#[]⟩, .int .i64 0, .bool false, .bool false, .bool false]
    simpa using this
  have b1 : Below w.heap.size w ((w.alloc (.cells #[.string tx, .int .i64 rd, .bool false, .bool dn, .bool sn] 25)).alloc (.cells #[.string ⟨#[]⟩, .int .i64 0, .bool false, .bool false, .bool false] 25)) := ((Below.refl _ _).alloc (Nat.le_refl _) _).alloc (by simp) _
  go_enter Tryd.func37, Tryd.ntmps37
  go_wp2_with fail
  generalize ((w.alloc (.cells #[.string tx, .int .i64 rd, .bool false, .bool dn, .bool sn] 25)).alloc (.cells #[.string ⟨#[]⟩, .int .i64 0, .bool false, .bool false, .bool false] 25)) = V at *
  refine (hG _).mono ?_
  rintro x w1 ⟨rfl, b2⟩
  have x1 := v1.later b2
  have x2 := v2.later b2
  have B2 := b1.trans (b2.mono b1.size)
  clear v1 v2 b1 b2 hG
  have e0 := x1.cell (i := 0) rfl
  have e1 := x1.cell (i := 1) rfl
  have e2 := x1.cell (i := 2) rfl
  have e3 := x1.cell (i := 3) rfl
  have e4 := x1.cell (i := 4) rfl
  have f2 := x1.free 2
  have z1 := x1.set 2 (.bool true)
  have z2 := x2.other (p := ⟨w.heap.size, 2, none⟩) (by dsimp only; omega) (.bool true)
  have B4 := B2.setCell (p := ⟨w.heap.size, 2, none⟩) (Nat.le_refl _) (.bool true)
  go_upto_region 6 with (fail)
  generalize (w1.setCell ⟨w.heap.size, 2, none⟩ (.bool true)) = V4 at *
  clear e0 e1 e2 e3 e4 f2 x1 x2 B2
  have e0 := z1.cell (i := 0) rfl
  have e1 := z1.cell (i := 1) rfl
  have e2 := z1.cell (i := 2) rfl
  have e3 := z1.cell (i := 3) rfl
  have e4 := z1.cell (i := 4) rfl
  have r0 := z2.cell (i := 0) rfl
  have r1 := z2.cell (i := 1) rfl
  have r2 := z2.cell (i := 2) rfl
  have r3 := z2.cell (i := 3) rfl
  have r4 := z2.cell (i := 4) rfl
  have q0 := z2.free 0
  have q1 := z2.free 1
  have q2 := z2.free 2
  have q3 := z2.free 3
  have q4 := z2.free 4
  go_wp2_with fail
  refine bodyPost_ret (v := .tuple #[.agg #[.string tx, .int .i64 rd, .bool true, .bool dn, .bool sn], .nilIface]) (by rw [Tak.res_cell_tmp rfl]; go_simp; try rfl) rfl (Inn.mk (r := ⟨tx, rd, true, dn, sn⟩) (e := .nilIface) (fun w' q => ans_ok _ _) ?_)
  iterate 5 (refine Below.setCell ?_ (by dsimp only; omega) _)
  exact B4

theorem implAtItsEnd (s : Sm) (w : World) (aW aE : Addr) (H : Hnd w) (SW : Sen 0 aW w) (SE : Sen 2 aE w) (nE : aE ≠ aW) (hs : s.tx.size ≤ 2097152) :
    Calls Tryd.prog 37 #[s.v] w (Inn (endS s) w) := by
  cases hok : s.ok
  · have e : endS s = (zeroS, false) := by simp [endS, hok]
    rw [e]
    exact atItsEnd_wrong s w aW H SW hs hok
  cases he : s.en
  case true =>
    have e : endS s = (s, false) := by cases s; simp_all [endS]
    rw [e]
    exact atItsEnd_ended s w aW H SW aE SE nE hs hok he
  · have e : endS s = ({ s with en := true }, true) := by simp [endS, hok, he]
    rw [e]
    exact atItsEnd_fine s w aW H SW hs hok he

set_option maxRecDepth 10000 in
set_option maxHeartbeats 4000000 in
theorem hasPrefixL (x y : ByteArray) (w : World) (hx : x.size ≤ 2097152) (hy : y.size ≤ 2097152) :
    Calls Tryd.prog 54 #[.string x, .string y] w fun e w' => e = .returned (.bool (decide (y.size ≤ x.size ∧ x.extract 0 y.size = y))) ∧ w' = w := by
  by_cases h : y.size ≤ x.size
  · have h' : (y.size : Int) ≤ (x.size : Int) := by omega
    have hc := beq_text (x.extract 0 y.size) y
    have e : decide (y.size ≤ x.size ∧ x.extract 0 y.size = y) = decide (x.extract 0 y.size = y) := by simp [h]
    rw [e, ← hc]
    clear e hc
    go_enter Tryd.func54, Tryd.ntmps54
    go_wp2_with fail
    go_ret
    exact ⟨rfl, rfl⟩
  · have h' : ¬ (y.size : Int) ≤ (x.size : Int) := by omega
    rw [decide_eq_false (fun q => h q.1)]
    go_enter Tryd.func54, Tryd.ntmps54
    go_wp2_with fail
    go_ret
    exact ⟨rfl, rfl⟩

theorem hasPrefix (x y : ByteArray) (w : World) (hx : x.size ≤ 2097152) (hy : y.size ≤ 2097152) :
    Calls Tryd.prog 47 #[.string x, .string y] w fun e w' => e = .returned (.bool (decide (y.size ≤ x.size ∧ x.extract 0 y.size = y))) ∧ w' = w := by
  have h := fun w' => hasPrefixL x y w' hx hy
  generalize decide (y.size ≤ x.size ∧ x.extract 0 y.size = y) = b at *
  go_enter Tryd.func47, Tryd.ntmps47
  go_wp2_with fail
  refine (h _).mono ?_
  rintro e w1 ⟨rfl, rfl⟩
  go_wp2_with fail
  go_ret
  exact ⟨rfl, rfl⟩

set_option maxRecDepth 10000 in
set_option maxHeartbeats 4000000 in
theorem readOn_wrong (s : Sm) (b : ByteArray) (w : World) (aW : Addr) (H : Hnd w) (SW : Sen 0 aW w) (hs : s.tx.size ≤ 2097152) (hok : s.ok = false) :
    Calls Tryd.prog 34 #[s.v, .string b] w (Inn (zeroS, false) w) := by
  have hG := fun w' => implStreamOk s w' hs
  rw [hok] at hG
  clear hok
  obtain ⟨tx, rd, en, dn, sn⟩ := s
  dsimp only [Sm.v, Sm.c] at *
  have v1 : Var 25 ((w.alloc (.cells #[.string tx, .int .i64 rd, .bool en, .bool dn, .bool sn] 25)).alloc (.cells #[.string ⟨#[]⟩, .int .i64 0, .bool false, .bool false, .bool false] 25)) w.heap.size [.string tx, .int .i64 rd, .bool en, .bool dn, .bool sn] := (Var.new w [.string tx, .int .i64 rd, .bool en, .bool dn, .bool sn]).alloc _
  have v2 : Var 25 ((w.alloc (.cells #[.string tx, .int .i64 rd, .bool en, .bool dn, .bool sn] 25)).alloc (.cells #[.string ⟨#[]⟩, .int .i64 0, .bool false, .bool false, .bool false] 25)) (w.heap.size + 1) [.string ⟨#[]⟩, .int .i64 0, .bool false, .bool false, .bool false] := by
    have := Var.new (T := 25) (w.alloc (.cells #[.string tx, .int .i64 rd, .bool en, .bool dn, .bool sn] 25)) [.string ⟨#[]⟩, .int .i64 0, .bool false, .bool false, .bool false]
    simpa using this
  have b1 : Below w.heap.size w ((w.alloc (.cells #[.string tx, .int .i64 rd, .bool en, .bool dn, .bool sn] 25)).alloc (.cells #[.string ⟨#[]⟩, .int .i64 0, .bool false, .bool false, .bool false] 25)) := ((Below.refl _ _).alloc (Nat.le_refl _) _).alloc (by simp) _
  go_enter Tryd.func34, Tryd.ntmps34
  go_wp2_with fail
  generalize ((w.alloc (.cells #[.string tx, .int .i64 rd, .bool en, .bool dn, .bool sn] 25)).alloc (.cells #[.string ⟨#[]⟩, .int .i64 0, .bool false, .bool false, .bool false] 25)) = V at *
  refine (hG _).mono ?_
  rintro x w1 ⟨rfl, b2⟩
  have x1 := v1.later b2
  have x2 := v2.later b2
  have B2 := b1.trans (b2.mono b1.size)
  clear v1 v2 b1 b2 hG
  have e0 := x1.cell (i := 0) rfl
  have e1 := x1.cell (i := 1) rfl
  have e2 := x1.cell (i := 2) rfl
  have e3 := x1.cell (i := 3) rfl
  have e4 := x1.cell (i := 4) rfl
  have c0 := (SW.below B2 (Nat.le_refl _)).cell
  go_wp2_with fail
  refine (implRefuse ⟨tx, rd, en, dn, sn⟩ aW _).mono ?_
  rintro x w2 ⟨rfl, b3⟩
  simp only [Err.refV, Err.refC, Sm.c, Sm.v, List.cons_append, List.nil_append]
  have y2 := x2.later b3
  have B3 := B2.trans (b3.mono B2.size)
  clear c0 b3
  have r0 := y2.cell (i := 0) rfl
  have r1 := y2.cell (i := 1) rfl
  have r2 := y2.cell (i := 2) rfl
  have r3 := y2.cell (i := 3) rfl
  have r4 := y2.cell (i := 4) rfl
  have q0 := y2.free 0
  have q1 := y2.free 1
  have q2 := y2.free 2
  have q3 := y2.free 3
  have q4 := y2.free 4
  go_wp2_with fail
  refine bodyPost_ret (v := .tuple #[.agg #[.string ⟨#[]⟩, .int .i64 0, .bool false, .bool false, .bool false], .iface 66 (.agg #[.string tx, .int .i64 rd, .bool en, .bool dn, .bool sn, .iface 104 (.pointer (some aW))])]) (by rw [Tak.res_cell_tmp rfl]; go_simp; try rfl) rfl (Inn.mk (r := zeroS) (e := Err.refV ⟨tx, rd, en, dn, sn⟩ aW) (fun w' q => ans_wrong zeroS _ _ _ (H.below q (Nat.le_refl _)) (SW.below q (Nat.le_refl _))) ?_)
  iterate 5 (refine Below.setCell ?_ (by dsimp only; omega) _)
  exact B3

set_option maxRecDepth 10000 in
set_option maxHeartbeats 4000000 in
theorem readOn_other (s : Sm) (b : ByteArray) (w : World) (aW : Addr) (H : Hnd w) (SW : Sen 0 aW w) (aX : Addr) (SX : Sen 1 aX w) (hne : aX ≠ aW) (hs : s.tx.size ≤ 2097152) (hb : b.size ≤ 2097152) (hok : s.ok = true) (hp : ¬ (b.size ≤ (s.tx.extract s.rd.toNat s.tx.size).size ∧ (s.tx.extract s.rd.toNat s.tx.size).extract 0 b.size = b)) :
    Calls Tryd.prog 34 #[s.v, .string b] w (Inn (s, false) w) := by
  have hG := fun w' => implStreamOk s w' hs
  rw [hok] at hG
  obtain ⟨hr0, hr1⟩ := ok_in hok
  have hlen := ok_len hok
  clear hok
  have hP := fun w' => hasPrefix (s.tx.extract s.rd.toNat s.tx.size) b w' (by rw [ByteArray.size_extract]; omega) hb
  rw [decide_eq_false hp] at hP
  clear hp
  obtain ⟨tx, rd, en, dn, sn⟩ := s
  dsimp only at *
  obtain ⟨r, rfl⟩ : ∃ r : Nat, rd = (r : Int) := ⟨rd.toNat, by omega⟩
  rw [show ((r : Int)).toNat = r by omega] at hP
  dsimp only [Sm.v, Sm.c] at *
  have v1 : Var 25 ((w.alloc (.cells #[.string tx, .int .i64 (r : Int), .bool en, .bool dn, .bool sn] 25)).alloc (.cells #[.string ⟨#[]⟩, .int .i64 0, .bool false, .bool false, .bool false] 25)) w.heap.size [.string tx, .int .i64 (r : Int), .bool en, .bool dn, .bool sn] := (Var.new w [.string tx, .int .i64 (r : Int), .bool en, .bool dn, .bool sn]).alloc _
  have v2 : Var 25 ((w.alloc (.cells #[.string tx, .int .i64 (r : Int), .bool en, .bool dn, .bool sn] 25)).alloc (.cells #[.string ⟨#[]⟩, .int .i64 0, .bool false, .bool false, .bool false] 25)) (w.heap.size + 1) [.string ⟨#[]⟩, .int .i64 0, .bool false, .bool false, .bool false] := by
    have := Var.new (T := 25) (w.alloc (.cells #[.string tx, .int .i64 (r : Int), .bool en, .bool dn, .bool sn] 25)) [.string ⟨#[]⟩, .int .i64 0, .bool false, .bool false, .bool false]
    simpa using this
  have b1 : Below w.heap.size w ((w.alloc (.cells #[.string tx, .int .i64 (r : Int), .bool en, .bool dn, .bool sn] 25)).alloc (.cells #[.string ⟨#[]⟩, .int .i64 0, .bool false, .bool false, .bool false] 25)) := ((Below.refl _ _).alloc (Nat.le_refl _) _).alloc (by simp) _
  go_enter Tryd.func34, Tryd.ntmps34
  go_wp2_with fail
  generalize ((w.alloc (.cells #[.string tx, .int .i64 (r : Int), .bool en, .bool dn, .bool sn] 25)).alloc (.cells #[.string ⟨#[]⟩, .int .i64 0, .bool false, .bool false, .bool false] 25)) = V at *
  refine (hG _).mono ?_
  rintro x w1 ⟨rfl, b2⟩
  have x1 := v1.later b2
  have x2 := v2.later b2
  have B2 := b1.trans (b2.mono b1.size)
  clear v1 v2 b1 b2 hG
  have e0 := x1.cell (i := 0) rfl
  have e1 := x1.cell (i := 1) rfl
  have e2 := x1.cell (i := 2) rfl
  have e3 := x1.cell (i := 3) rfl
  have e4 := x1.cell (i := 4) rfl
  go_wp2_with fail
  refine (hP _).mono ?_
  rintro x w3 ⟨rfl, rfl⟩
  clear hP e0 e1 e2 e3 e4
  have e0 := x1.cell (i := 0) rfl
  have e1 := x1.cell (i := 1) rfl
  have e2 := x1.cell (i := 2) rfl
  have e3 := x1.cell (i := 3) rfl
  have e4 := x1.cell (i := 4) rfl
  have c0 := (SX.below B2 (Nat.le_refl _)).cell
  go_wp2_with fail
  refine (implRefuse ⟨tx, (r : Int), en, dn, sn⟩ aX _).mono ?_
  rintro x w2 ⟨rfl, b3⟩
  simp only [Err.refV, Err.refC, Sm.c, Sm.v, List.cons_append, List.nil_append]
  have y2 := x2.later b3
  have B3 := B2.trans (b3.mono B2.size)
  clear c0 b3
  have r0 := y2.cell (i := 0) rfl
  have r1 := y2.cell (i := 1) rfl
  have r2 := y2.cell (i := 2) rfl
  have r3 := y2.cell (i := 3) rfl
  have r4 := y2.cell (i := 4) rfl
  have q0 := y2.free 0
  have q1 := y2.free 1
  have q2 := y2.free 2
  have q3 := y2.free 3
  have q4 := y2.free 4
  go_wp2_with fail
  refine bodyPost_ret (v := .tuple #[.agg #[.string ⟨#[]⟩, .int .i64 0, .bool false, .bool false, .bool false], .iface 66 (.agg #[.string tx, .int .i64 (r : Int), .bool en, .bool dn, .bool sn, .iface 104 (.pointer (some aX))])]) (by rw [Tak.res_cell_tmp rfl]; go_simp; try rfl) rfl (Inn.mk (r := zeroS) (e := Err.refV ⟨tx, (r : Int), en, dn, sn⟩ aX) (fun w' q => ans_ref zeroS _ _ _ _ (H.below q (Nat.le_refl _)) (SW.below q (Nat.le_refl _)) (SX.below q (Nat.le_refl _)) hne) ?_)
  iterate 5 (refine Below.setCell ?_ (by dsimp only; omega) _)
  exact B3

set_option maxRecDepth 10000 in
set_option maxHeartbeats 4000000 in
theorem readOn_fine (s : Sm) (b : ByteArray) (w : World) (aW : Addr) (H : Hnd w) (SW : Sen 0 aW w) (hs : s.tx.size ≤ 2097152) (hb : b.size ≤ 2097152) (hok : s.ok = true) (hp : (b.size ≤ (s.tx.extract s.rd.toNat s.tx.size).size ∧ (s.tx.extract s.rd.toNat s.tx.size).extract 0 b.size = b)) :
    Calls Tryd.prog 34 #[s.v, .string b] w (Inn ({ s with rd := s.rd + b.size }, true) w) := by
  have hG := fun w' => implStreamOk s w' hs
  rw [hok] at hG
  obtain ⟨hr0, hr1⟩ := ok_in hok
  have hlen := ok_len hok
  clear hok
  have hP := fun w' => hasPrefix (s.tx.extract s.rd.toNat s.tx.size) b w' (by rw [ByteArray.size_extract]; omega) hb
  rw [decide_eq_true hp] at hP
  clear hp
  obtain ⟨tx, rd, en, dn, sn⟩ := s
  dsimp only at *
  obtain ⟨r, rfl⟩ : ∃ r : Nat, rd = (r : Int) := ⟨rd.toNat, by omega⟩
  rw [show ((r : Int)).toNat = r by omega] at hP
  have hbs : (r : Int) + (b.size : Int) ≤ 2097152 * 2 := by omega
  dsimp only [Sm.v, Sm.c] at *
  have v1 : Var 25 ((w.alloc (.cells #[.string tx, .int .i64 (r : Int), .bool en, .bool dn, .bool sn] 25)).alloc (.cells #[.string ⟨#[]⟩, .int .i64 0, .bool false, .bool false, .bool false] 25)) w.heap.size [.string tx, .int .i64 (r : Int), .bool en, .bool dn, .bool sn] := (Var.new w [.string tx, .int .i64 (r : Int), .bool en, .bool dn, .bool sn]).alloc _
  have v2 : Var 25 ((w.alloc (.cells #[.string tx, .int .i64 (r : Int), .bool en, .bool dn, .bool sn] 25)).alloc (.cells #[.string ⟨#[]⟩, .int .i64 0, .bool false, .bool false, .bool false] 25)) (w.heap.size + 1) [.string ⟨#[]⟩, .int .i64 0, .bool false, .bool false, .bool false] := by
    have := Var.new (T := 25) (w.alloc (.cells #[.string tx, .int .i64 (r : Int), .bool en, .bool dn, .bool sn] 25)) [.string ⟨#[]⟩, .int .i64 0, .bool false, .bool false, .bool false]
    simpa using this
  have b1 : Below w.heap.size w ((w.alloc (.cells #[.string tx, .int .i64 (r : Int), .bool en, .bool dn, .bool sn] 25)).alloc (.cells #[.string ⟨#[]⟩, .int .i64 0, .bool false, .bool false, .bool false] 25)) := ((Below.refl _ _).alloc (Nat.le_refl _) _).alloc (by simp) _
  go_enter Tryd.func34, Tryd.ntmps34
  go_wp2_with fail
  generalize ((w.alloc (.cells #[.string tx, .int .i64 (r : Int), .bool en, .bool dn, .bool sn] 25)).alloc (.cells #[.string ⟨#[]⟩, .int .i64 0, .bool false, .bool false, .bool false] 25)) = V at *
  refine (hG _).mono ?_
  rintro x w1 ⟨rfl, b2⟩
  have x1 := v1.later b2
  have x2 := v2.later b2
  have B2 := b1.trans (b2.mono b1.size)
  clear v1 v2 b1 b2 hG
  have e0 := x1.cell (i := 0) rfl
  have e1 := x1.cell (i := 1) rfl
  have e2 := x1.cell (i := 2) rfl
  have e3 := x1.cell (i := 3) rfl
  have e4 := x1.cell (i := 4) rfl
  go_wp2_with fail
  refine (hP _).mono ?_
  rintro x w3 ⟨rfl, rfl⟩
  clear hP e0 e1 e2 e3 e4
  have e0 := x1.cell (i := 0) rfl
  have e1 := x1.cell (i := 1) rfl
  have e2 := x1.cell (i := 2) rfl
  have e3 := x1.cell (i := 3) rfl
  have e4 := x1.cell (i := 4) rfl
  have f1 := x1.free 1
  have z1 := x1.set 1 (.int .i64 ((r : Int) + (b.size : Int)))
  have z2 := x2.other (p := ⟨w.heap.size, 1, none⟩) (by dsimp only; omega) (.int .i64 ((r : Int) + (b.size : Int)))
  have B4 := B2.setCell (p := ⟨w.heap.size, 1, none⟩) (Nat.le_refl _) (.int .i64 ((r : Int) + (b.size : Int)))
  go_upto_region 6 with (fail)
  generalize (w3.setCell ⟨w.heap.size, 1, none⟩ (.int .i64 ((r : Int) + (b.size : Int)))) = V4 at *
  clear e0 e1 e2 e3 e4 f1 x1 x2 B2
  have e0 := z1.cell (i := 0) rfl
  have e1 := z1.cell (i := 1) rfl
  have e2 := z1.cell (i := 2) rfl
  have e3 := z1.cell (i := 3) rfl
  have e4 := z1.cell (i := 4) rfl
  have r0 := z2.cell (i := 0) rfl
  have r1 := z2.cell (i := 1) rfl
  have r2 := z2.cell (i := 2) rfl
  have r3 := z2.cell (i := 3) rfl
  have r4 := z2.cell (i := 4) rfl
  have q0 := z2.free 0
  have q1 := z2.free 1
  have q2 := z2.free 2
  have q3 := z2.free 3
  have q4 := z2.free 4
  go_wp2_with fail
  refine bodyPost_ret (v := .tuple #[.agg #[.string tx, .int .i64 ((r : Int) + (b.size : Int)), .bool en, .bool dn, .bool sn], .nilIface]) (by rw [Tak.res_cell_tmp rfl]; go_simp; try rfl) rfl (Inn.mk (r := ⟨tx, (r : Int) + (b.size : Int), en, dn, sn⟩) (e := .nilIface) (fun w' q => ans_ok _ _) ?_)
  iterate 5 (refine Below.setCell ?_ (by dsimp only; omega) _)
  exact B4

theorem prefix_iff (tx b : ByteArray) (r : Nat) (hr : r ≤ tx.size) : (b.size ≤ (tx.extract r tx.size).size ∧ (tx.extract r tx.size).extract 0 b.size = b) ↔ (r + b.size ≤ tx.size ∧ tx.extract r (r + b.size) = b) := by
  rw [ByteArray.size_extract, Nat.min_self]
  constructor
  · rintro ⟨h1, h2⟩
    refine ⟨by omega, ?_⟩
    rw [ByteArray.extract_extract, Nat.add_zero, Nat.min_eq_left (by omega)] at h2
    exact h2
  · rintro ⟨h1, h2⟩
    refine ⟨by omega, ?_⟩
    rw [ByteArray.extract_extract, Nat.add_zero, Nat.min_eq_left (by omega)]
    exact h2

theorem implReadOn (s : Sm) (b : ByteArray) (w : World) (aW aO : Addr) (H : Hnd w) (SW : Sen 0 aW w) (SO : Sen 1 aO w) (nO : aO ≠ aW) (hs : s.tx.size ≤ 2097152) (hb : b.size ≤ 2097152) :
    Calls Tryd.prog 34 #[s.v, .string b] w (Inn (wasS s b) w) := by
  cases hok : s.ok
  · have e : wasS s b = (zeroS, false) := by simp [wasS, hok]
    rw [e]
    exact readOn_wrong s b w aW H SW hs hok
  obtain ⟨h0, h1⟩ := ok_in hok
  have hi := prefix_iff s.tx b s.rd.toNat (by omega)
  by_cases hp : b.size ≤ (s.tx.extract s.rd.toNat s.tx.size).size ∧ (s.tx.extract s.rd.toNat s.tx.size).extract 0 b.size = b
  · have e : wasS s b = ({ s with rd := s.rd + b.size }, true) := by
      obtain ⟨q1, q2⟩ := hi.1 hp
      have hB : readB s b = true := by
        rw [readB, show (s.rd + (b.size : Int)).toNat = s.rd.toNat + b.size by omega, q2, decide_eq_false (show ¬ (s.tx.size : Int) < s.rd + b.size by omega)]
        simp
      simp [wasS, hok, readS, hB]
    rw [e]
    exact readOn_fine s b w aW H SW hs hb hok hp
  · have e : wasS s b = (s, false) := by
      have hB : readB s b = false := by
        rw [readB]
        by_cases q1 : (s.tx.size : Int) < s.rd + b.size
        · rw [decide_eq_true q1]; rfl
        · rw [decide_eq_false q1, show (s.rd + (b.size : Int)).toNat = s.rd.toNat + b.size by omega, decide_eq_true (show s.tx.extract s.rd.toNat (s.rd.toNat + b.size) ≠ b from fun q2 => hp (hi.2 ⟨by omega, q2⟩))]
          rfl
      simp [wasS, hok, readS, hB]
    rw [e]
    exact readOn_other s b w aW H SW aO SO nO hs hb hok hp

set_option maxRecDepth 10000 in
set_option maxHeartbeats 4000000 in
theorem toldOfEnd_wrong (s : Sm) (seen : Bool) (w : World) (aW : Addr) (H : Hnd w) (SW : Sen 0 aW w) (hs : s.tx.size ≤ 2097152) (hok : s.ok = false) :
    Calls Tryd.prog 38 #[s.v, .bool seen] w (Inn (zeroS, false) w) := by
  have hG := fun w' => implStreamOk s w' hs
  rw [hok] at hG
  clear hok
  obtain ⟨tx, rd, en, dn, sn⟩ := s
  dsimp only [Sm.v, Sm.c] at *
  have v1 : Var 25 ((w.alloc (.cells #[.string tx, .int .i64 rd, .bool en, .bool dn, .bool sn] 25)).alloc (.cells #[.string ⟨#[]⟩, .int .i64 0, .bool false, .bool false, .bool false] 25)) w.heap.size [.string tx, .int .i64 rd, .bool en, .bool dn, .bool sn] := (Var.new w [.string tx, .int .i64 rd, .bool en, .bool dn, .bool sn]).alloc _
  have v2 : Var 25 ((w.alloc (.cells #[.string tx, .int .i64 rd, .bool en, .bool dn, .bool sn] 25)).alloc (.cells #[.string ⟨#[]⟩, .int .i64 0, .bool false, .bool false, .bool false] 25)) (w.heap.size + 1) [.string ⟨#[]⟩, .int .i64 0, .bool false, .bool false, .bool false] := by
    have := Var.new (T := 25) (w.alloc (.cells #[.string tx, .int .i64 rd, .bool en, .bool dn, .bool sn] 25)) [.string ⟨#[]⟩, .int .i64 0, .bool false, .bool false, .bool false]
    simpa using this
  have b1 : Below w.heap.size w ((w.alloc (.cells #[.string tx, .int .i64 rd, .bool en, .bool dn, .bool sn] 25)).alloc (.cells #[.string ⟨#[]⟩, .int .i64 0, .bool false, .bool false, .bool false] 25)) := ((Below.refl _ _).alloc (Nat.le_refl _) _).alloc (by simp) _
  go_enter Tryd.func38, Tryd.ntmps38
  go_wp2_with fail
  generalize ((w.alloc (.cells #[.string tx, .int .i64 rd, .bool en, .bool dn, .bool sn] 25)).alloc (.cells #[.string ⟨#[]⟩, .int .i64 0, .bool false, .bool false, .bool false] 25)) = V at *
  refine (hG _).mono ?_
  rintro x w1 ⟨rfl, b2⟩
  have x1 := v1.later b2
  have x2 := v2.later b2
  have B2 := b1.trans (b2.mono b1.size)
  clear v1 v2 b1 b2 hG
  have e0 := x1.cell (i := 0) rfl
  have e1 := x1.cell (i := 1) rfl
  have e2 := x1.cell (i := 2) rfl
  have e3 := x1.cell (i := 3) rfl
  have e4 := x1.cell (i := 4) rfl
  have c0 := (SW.below B2 (Nat.le_refl _)).cell
  go_wp2_with fail
  refine (implRefuse ⟨tx, rd, en, dn, sn⟩ aW _).mono ?_
  rintro x w2 ⟨rfl, b3⟩
  simp only [Err.refV, Err.refC, Sm.c, Sm.v, List.cons_append, List.nil_append]
  have y2 := x2.later b3
  have B3 := B2.trans (b3.mono B2.size)
  clear c0 b3
  have r0 := y2.cell (i := 0) rfl
  have r1 := y2.cell (i := 1) rfl
  have r2 := y2.cell (i := 2) rfl
  have r3 := y2.cell (i := 3) rfl
  have r4 := y2.cell (i := 4) rfl
  have q0 := y2.free 0
  have q1 := y2.free 1
  have q2 := y2.free 2
  have q3 := y2.free 3
  have q4 := y2.free 4
  go_wp2_with fail
  refine bodyPost_ret (v := .tuple #[.agg #[.string ⟨#[]⟩, .int .i64 0, .bool false, .bool false, .bool false], .iface 66 (.agg #[.string tx, .int .i64 rd, .bool en, .bool dn, .bool sn, .iface 104 (.pointer (some aW))])]) (by rw [Tak.res_cell_tmp rfl]; go_simp; try rfl) rfl (Inn.mk (r := zeroS) (e := Err.refV ⟨tx, rd, en, dn, sn⟩ aW) (fun w' q => ans_wrong zeroS _ _ _ (H.below q (Nat.le_refl _)) (SW.below q (Nat.le_refl _))) ?_)
  iterate 5 (refine Below.setCell ?_ (by dsimp only; omega) _)
  exact B3

set_option maxRecDepth 10000 in
set_option maxHeartbeats 4000000 in
theorem toldOfEnd_already_seen (s : Sm) (w : World) (aW : Addr) (H : Hnd w) (SW : Sen 0 aW w) (aX : Addr) (SX : Sen 4 aX w) (hne : aX ≠ aW) (hs : s.tx.size ≤ 2097152) (hok : s.ok = true) (hf : s.sn = true) :
    Calls Tryd.prog 38 #[s.v, .bool true] w (Inn (s, false) w) := by
  have hG := fun w' => implStreamOk s w' hs
  rw [hok] at hG
  clear hok
  obtain ⟨tx, rd, en, dn, sn⟩ := s
  dsimp only at hf
  subst hf
  dsimp only [Sm.v, Sm.c] at *
  have v1 : Var 25 ((w.alloc (.cells #[.string tx, .int .i64 rd, .bool en, .bool dn, .bool true] 25)).alloc (.cells #[.string ⟨#[]⟩, .int .i64 0, .bool false, .bool false, .bool false] 25)) w.heap.size [.string tx, .int .i64 rd, .bool en, .bool dn, .bool true] := (Var.new w [.string tx, .int .i64 rd, .bool en, .bool dn, .bool true]).alloc _
  have v2 : Var 25 ((w.alloc (.cells #[.string tx, .int .i64 rd, .bool en, .bool dn, .bool true] 25)).alloc (.cells #[.string ⟨#[]⟩, .int .i64 0, .bool false, .bool false, .bool false] 25)) (w.heap.size + 1) [.string ⟨#[]⟩, .int .i64 0, .bool false, .bool false, .bool false] := by
    have := Var.new (T := 25) (w.alloc (.cells #[.string tx, .int .i64 rd, .bool en, .bool dn, .bool true] 25)) [.string ⟨#[]⟩, .int .i64 0, .bool false, .bool false, .bool false]
    simpa using this
  have b1 : Below w.heap.size w ((w.alloc (.cells #[.string tx, .int .i64 rd, .bool en, .bool dn, .bool true] 25)).alloc (.cells #[.string ⟨#[]⟩, .int .i64 0, .bool false, .bool false, .bool false] 25)) := ((Below.refl _ _).alloc (Nat.le_refl _) _).alloc (by simp) _
  go_enter Tryd.func38, Tryd.ntmps38
  go_wp2_with fail
  generalize ((w.alloc (.cells #[.string tx, .int .i64 rd, .bool en, .bool dn, .bool true] 25)).alloc (.cells #[.string ⟨#[]⟩, .int .i64 0, .bool false, .bool false, .bool false] 25)) = V at *
  refine (hG _).mono ?_
  rintro x w1 ⟨rfl, b2⟩
  have x1 := v1.later b2
  have x2 := v2.later b2
  have B2 := b1.trans (b2.mono b1.size)
  clear v1 v2 b1 b2 hG
  have hBk := B2.size
  have hl1 := x1.lt
  have hl2 := x2.lt
  have e0 := x1.cell (i := 0) rfl
  have e1 := x1.cell (i := 1) rfl
  have e2 := x1.cell (i := 2) rfl
  have e3 := x1.cell (i := 3) rfl
  have e4 := x1.cell (i := 4) rfl
  have z1 : Var 25 (w1.alloc (.cells #[.string tx, .int .i64 rd, .bool en, .bool dn, .bool true] 25)) w.heap.size [.string tx, .int .i64 rd, .bool en, .bool dn, .bool true] := x1.alloc _
  have z2 : Var 25 (w1.alloc (.cells #[.string tx, .int .i64 rd, .bool en, .bool dn, .bool true] 25)) (w.heap.size + 1) [.string ⟨#[]⟩, .int .i64 0, .bool false, .bool false, .bool false] := x2.alloc _
  have z3 : Var 25 (w1.alloc (.cells #[.string tx, .int .i64 rd, .bool en, .bool dn, .bool true] 25)) w1.heap.size [.string tx, .int .i64 rd, .bool en, .bool dn, .bool true] := Var.new w1 _
  have B4 : Below w.heap.size w (w1.alloc (.cells #[.string tx, .int .i64 rd, .bool en, .bool dn, .bool true] 25)) := B2.alloc B2.size _
  go_upto_region 7 with (fail)
  generalize (w1.alloc (.cells #[.string tx, .int .i64 rd, .bool en, .bool dn, .bool true] 25)) = V4 at *
  clear x1 x2 B2 e0 e1 e2 e3 e4
  generalize w1.heap.size = k3 at *
  have hE : (Op.equalIn 10000 25 (.agg #[.string tx, .int .i64 rd, .bool en, .bool dn, .bool true]) (.agg #[.string tx, .int .i64 rd, .bool en, .bool dn, .bool true])).run Tryd.prog V4 = .ok true V4 := by
    rw [eqStreamV]
    simp
  have m0 := z3.cell (i := 0) rfl
  have m1 := z3.cell (i := 1) rfl
  have m2 := z3.cell (i := 2) rfl
  have m3 := z3.cell (i := 3) rfl
  have m4 := z3.cell (i := 4) rfl
  have e0 := z1.cell (i := 0) rfl
  have e1 := z1.cell (i := 1) rfl
  have e2 := z1.cell (i := 2) rfl
  have e3 := z1.cell (i := 3) rfl
  have e4 := z1.cell (i := 4) rfl
  have c0 := (SX.below B4 (Nat.le_refl _)).cell
  go_wp2_with fail
  refine (implRefuse ⟨tx, rd, en, dn, true⟩ aX _).mono ?_
  rintro x w2 ⟨rfl, b3⟩
  simp only [Err.refV, Err.refC, Sm.c, Sm.v, List.cons_append, List.nil_append]
  have y2 := z2.later b3
  have B3 := B4.trans (b3.mono B4.size)
  clear c0 b3
  have r0 := y2.cell (i := 0) rfl
  have r1 := y2.cell (i := 1) rfl
  have r2 := y2.cell (i := 2) rfl
  have r3 := y2.cell (i := 3) rfl
  have r4 := y2.cell (i := 4) rfl
  have q0 := y2.free 0
  have q1 := y2.free 1
  have q2 := y2.free 2
  have q3 := y2.free 3
  have q4 := y2.free 4
  go_wp2_with fail
  refine bodyPost_ret (v := .tuple #[.agg #[.string ⟨#[]⟩, .int .i64 0, .bool false, .bool false, .bool false], .iface 66 (.agg #[.string tx, .int .i64 rd, .bool en, .bool dn, .bool true, .iface 104 (.pointer (some aX))])]) (by rw [Tak.res_cell_tmp rfl]; go_simp; try rfl) rfl (Inn.mk (r := zeroS) (e := Err.refV ⟨tx, rd, en, dn, true⟩ aX) (fun w' q => ans_ref zeroS _ _ _ _ (H.below q (Nat.le_refl _)) (SW.below q (Nat.le_refl _)) (SX.below q (Nat.le_refl _)) hne) ?_)
  iterate 5 (refine Below.setCell ?_ (by dsimp only; omega) _)
  exact B3

set_option maxRecDepth 10000 in
set_option maxHeartbeats 4000000 in
theorem toldOfEnd_soon_seen (s : Sm) (w : World) (aW : Addr) (H : Hnd w) (SW : Sen 0 aW w) (aX : Addr) (SX : Sen 5 aX w) (hne : aX ≠ aW) (hs : s.tx.size ≤ 2097152) (hok : s.ok = true) (hf : s.sn = false) (ht : Sm.ok { s with sn := true } = false) :
    Calls Tryd.prog 38 #[s.v, .bool true] w (Inn (s, false) w) := by
  have hG := fun w' => implStreamOk s w' hs
  rw [hok] at hG
  have hT := fun w' => implStreamOk { s with sn := true } w' hs
  rw [ht] at hT
  clear ht
  clear hok
  obtain ⟨tx, rd, en, dn, sn⟩ := s
  dsimp only at hf
  subst hf
  dsimp only [Sm.v, Sm.c] at *
  have v1 : Var 25 ((w.alloc (.cells #[.string tx, .int .i64 rd, .bool en, .bool dn, .bool false] 25)).alloc (.cells #[.string ⟨#[]⟩, .int .i64 0, .bool false, .bool false, .bool false] 25)) w.heap.size [.string tx, .int .i64 rd, .bool en, .bool dn, .bool false] := (Var.new w [.string tx, .int .i64 rd, .bool en, .bool dn, .bool false]).alloc _
  have v2 : Var 25 ((w.alloc (.cells #[.string tx, .int .i64 rd, .bool en, .bool dn, .bool false] 25)).alloc (.cells #[.string ⟨#[]⟩, .int .i64 0, .bool false, .bool false, .bool false] 25)) (w.heap.size + 1) [.string ⟨#[]⟩, .int .i64 0, .bool false, .bool false, .bool false] := by
    have := Var.new (T := 25) (w.alloc (.cells #[.string tx, .int .i64 rd, .bool en, .bool dn, .bool false] 25)) [.string ⟨#[]⟩, .int .i64 0, .bool false, .bool false, .bool false]
    simpa using this
  have b1 : Below w.heap.size w ((w.alloc (.cells #[.string tx, .int .i64 rd, .bool en, .bool dn, .bool false] 25)).alloc (.cells #[.string ⟨#[]⟩, .int .i64 0, .bool false, .bool false, .bool false] 25)) := ((Below.refl _ _).alloc (Nat.le_refl _) _).alloc (by simp) _
  go_enter Tryd.func38, Tryd.ntmps38
  go_wp2_with fail
  generalize ((w.alloc (.cells #[.string tx, .int .i64 rd, .bool en, .bool dn, .bool false] 25)).alloc (.cells #[.string ⟨#[]⟩, .int .i64 0, .bool false, .bool false, .bool false] 25)) = V at *
  refine (hG _).mono ?_
  rintro x w1 ⟨rfl, b2⟩
  have x1 := v1.later b2
  have x2 := v2.later b2
  have B2 := b1.trans (b2.mono b1.size)
  clear v1 v2 b1 b2 hG
  have hBk := B2.size
  have hl1 := x1.lt
  have hl2 := x2.lt
  have e0 := x1.cell (i := 0) rfl
  have e1 := x1.cell (i := 1) rfl
  have e2 := x1.cell (i := 2) rfl
  have e3 := x1.cell (i := 3) rfl
  have e4 := x1.cell (i := 4) rfl
  have z1 : Var 25 (w1.alloc (.cells #[.string tx, .int .i64 rd, .bool en, .bool dn, .bool true] 25)) w.heap.size [.string tx, .int .i64 rd, .bool en, .bool dn, .bool false] := x1.alloc _
  have z2 : Var 25 (w1.alloc (.cells #[.string tx, .int .i64 rd, .bool en, .bool dn, .bool true] 25)) (w.heap.size + 1) [.string ⟨#[]⟩, .int .i64 0, .bool false, .bool false, .bool false] := x2.alloc _
  have z3 : Var 25 (w1.alloc (.cells #[.string tx, .int .i64 rd, .bool en, .bool dn, .bool true] 25)) w1.heap.size [.string tx, .int .i64 rd, .bool en, .bool dn, .bool true] := Var.new w1 _
  have B4 : Below w.heap.size w (w1.alloc (.cells #[.string tx, .int .i64 rd, .bool en, .bool dn, .bool true] 25)) := B2.alloc B2.size _
  go_upto_region 7 with (fail)
  generalize (w1.alloc (.cells #[.string tx, .int .i64 rd, .bool en, .bool dn, .bool true] 25)) = V4 at *
  clear x1 x2 B2 e0 e1 e2 e3 e4
  generalize w1.heap.size = k3 at *
  have hE : (Op.equalIn 10000 25 (.agg #[.string tx, .int .i64 rd, .bool en, .bool dn, .bool true]) (.agg #[.string tx, .int .i64 rd, .bool en, .bool dn, .bool false])).run Tryd.prog V4 = .ok false V4 := by
    rw [eqStreamV]
    simp
  have m0 := z3.cell (i := 0) rfl
  have m1 := z3.cell (i := 1) rfl
  have m2 := z3.cell (i := 2) rfl
  have m3 := z3.cell (i := 3) rfl
  have m4 := z3.cell (i := 4) rfl
  have e0 := z1.cell (i := 0) rfl
  have e1 := z1.cell (i := 1) rfl
  have e2 := z1.cell (i := 2) rfl
  have e3 := z1.cell (i := 3) rfl
  have e4 := z1.cell (i := 4) rfl
  go_wp2_with fail
  refine (hT _).mono ?_
  rintro x w4 ⟨rfl, b4⟩
  have y1 := z1.later b4
  have y2' := z2.later b4
  have y3 := z3.later b4
  have B5 := B4.trans (b4.mono B4.size)
  clear z1 z2 z3 b4 hE hT m0 m1 m2 m3 m4 e0 e1 e2 e3 e4
  have e0 := y1.cell (i := 0) rfl
  have e1 := y1.cell (i := 1) rfl
  have e2 := y1.cell (i := 2) rfl
  have e3 := y1.cell (i := 3) rfl
  have e4 := y1.cell (i := 4) rfl
  have c0 := (SX.below B5 (Nat.le_refl _)).cell
  go_wp2_with fail
  refine (implRefuse ⟨tx, rd, en, dn, false⟩ aX _).mono ?_
  rintro x w2 ⟨rfl, b3⟩
  simp only [Err.refV, Err.refC, Sm.c, Sm.v, List.cons_append, List.nil_append]
  have y2 := y2'.later b3
  have B3 := B5.trans (b3.mono B5.size)
  clear c0 b3
  have r0 := y2.cell (i := 0) rfl
  have r1 := y2.cell (i := 1) rfl
  have r2 := y2.cell (i := 2) rfl
  have r3 := y2.cell (i := 3) rfl
  have r4 := y2.cell (i := 4) rfl
  have q0 := y2.free 0
  have q1 := y2.free 1
  have q2 := y2.free 2
  have q3 := y2.free 3
  have q4 := y2.free 4
  go_wp2_with fail
  refine bodyPost_ret (v := .tuple #[.agg #[.string ⟨#[]⟩, .int .i64 0, .bool false, .bool false, .bool false], .iface 66 (.agg #[.string tx, .int .i64 rd, .bool en, .bool dn, .bool false, .iface 104 (.pointer (some aX))])]) (by rw [Tak.res_cell_tmp rfl]; go_simp; try rfl) rfl (Inn.mk (r := zeroS) (e := Err.refV ⟨tx, rd, en, dn, false⟩ aX) (fun w' q => ans_ref zeroS _ _ _ _ (H.below q (Nat.le_refl _)) (SW.below q (Nat.le_refl _)) (SX.below q (Nat.le_refl _)) hne) ?_)
  iterate 5 (refine Below.setCell ?_ (by dsimp only; omega) _)
  exact B3

set_option maxRecDepth 10000 in
set_option maxHeartbeats 4000000 in
theorem toldOfEnd_fine_seen (s : Sm) (w : World) (aW : Addr) (H : Hnd w) (SW : Sen 0 aW w) (hs : s.tx.size ≤ 2097152) (hok : s.ok = true) (hf : s.sn = false) (ht : Sm.ok { s with sn := true } = true) :
    Calls Tryd.prog 38 #[s.v, .bool true] w (Inn ({ s with sn := true }, true) w) := by
  have hG := fun w' => implStreamOk s w' hs
  rw [hok] at hG
  have hT := fun w' => implStreamOk { s with sn := true } w' hs
  rw [ht] at hT
  clear ht
  clear hok
  obtain ⟨tx, rd, en, dn, sn⟩ := s
  dsimp only at hf
  subst hf
  dsimp only [Sm.v, Sm.c] at *
  have v1 : Var 25 ((w.alloc (.cells #[.string tx, .int .i64 rd, .bool en, .bool dn, .bool false] 25)).alloc (.cells #[.string ⟨#[]⟩, .int .i64 0, .bool false, .bool false, .bool false] 25)) w.heap.size [.string tx, .int .i64 rd, .bool en, .bool dn, .bool false] := (Var.new w [.string tx, .int .i64 rd, .bool en, .bool dn, .bool false]).alloc _
  have v2 : Var 25 ((w.alloc (.cells #[.string tx, .int .i64 rd, .bool en, .bool dn, .bool false] 25)).alloc (.cells #[.string ⟨#[]⟩, .int .i64 0, .bool false, .bool false, .bool false] 25)) (w.heap.size + 1) [.string ⟨#[]⟩, .int .i64 0, .bool false, .bool false, .bool false] := by
    have := Var.new (T := 25) (w.alloc (.cells #[.string tx, .int .i64 rd, .bool en, .bool dn, .bool false] 25)) [.string ⟨#[]⟩, .int .i64 0, .bool false, .bool false, .bool false]
    simpa using this
  have b1 : Below w.heap.size w ((w.alloc (.cells #[.string tx, .int .i64 rd, .bool en, .bool dn, .bool false] 25)).alloc (.cells #[.string ⟨#[]⟩, .int .i64 0, .bool false, .bool false, .bool false] 25)) := ((Below.refl _ _).alloc (Nat.le_refl _) _).alloc (by simp) _
  go_enter Tryd.func38, Tryd.ntmps38
  go_wp2_with fail
  generalize ((w.alloc (.cells #[.string tx, .int .i64 rd, .bool en, .bool dn, .bool false] 25)).alloc (.cells #[.string ⟨#[]⟩, .int .i64 0, .bool false, .bool false, .bool false] 25)) = V at *
  refine (hG _).mono ?_
  rintro x w1 ⟨rfl, b2⟩
  have x1 := v1.later b2
  have x2 := v2.later b2
  have B2 := b1.trans (b2.mono b1.size)
  clear v1 v2 b1 b2 hG
  have hBk := B2.size
  have hl1 := x1.lt
  have hl2 := x2.lt
  have e0 := x1.cell (i := 0) rfl
  have e1 := x1.cell (i := 1) rfl
  have e2 := x1.cell (i := 2) rfl
  have e3 := x1.cell (i := 3) rfl
  have e4 := x1.cell (i := 4) rfl
  have z1 : Var 25 (w1.alloc (.cells #[.string tx, .int .i64 rd, .bool en, .bool dn, .bool true] 25)) w.heap.size [.string tx, .int .i64 rd, .bool en, .bool dn, .bool false] := x1.alloc _
  have z2 : Var 25 (w1.alloc (.cells #[.string tx, .int .i64 rd, .bool en, .bool dn, .bool true] 25)) (w.heap.size + 1) [.string ⟨#[]⟩, .int .i64 0, .bool false, .bool false, .bool false] := x2.alloc _
  have z3 : Var 25 (w1.alloc (.cells #[.string tx, .int .i64 rd, .bool en, .bool dn, .bool true] 25)) w1.heap.size [.string tx, .int .i64 rd, .bool en, .bool dn, .bool true] := Var.new w1 _
  have B4 : Below w.heap.size w (w1.alloc (.cells #[.string tx, .int .i64 rd, .bool en, .bool dn, .bool true] 25)) := B2.alloc B2.size _
  go_upto_region 7 with (fail)
  generalize (w1.alloc (.cells #[.string tx, .int .i64 rd, .bool en, .bool dn, .bool true] 25)) = V4 at *
  clear x1 x2 B2 e0 e1 e2 e3 e4
  generalize w1.heap.size = k3 at *
  have hE : (Op.equalIn 10000 25 (.agg #[.string tx, .int .i64 rd, .bool en, .bool dn, .bool true]) (.agg #[.string tx, .int .i64 rd, .bool en, .bool dn, .bool false])).run Tryd.prog V4 = .ok false V4 := by
    rw [eqStreamV]
    simp
  have m0 := z3.cell (i := 0) rfl
  have m1 := z3.cell (i := 1) rfl
  have m2 := z3.cell (i := 2) rfl
  have m3 := z3.cell (i := 3) rfl
  have m4 := z3.cell (i := 4) rfl
  have e0 := z1.cell (i := 0) rfl
  have e1 := z1.cell (i := 1) rfl
  have e2 := z1.cell (i := 2) rfl
  have e3 := z1.cell (i := 3) rfl
  have e4 := z1.cell (i := 4) rfl
  go_wp2_with fail
  refine (hT _).mono ?_
  rintro x w4 ⟨rfl, b4⟩
  have y1 := z1.later b4
  have y2' := z2.later b4
  have y3 := z3.later b4
  have B5 := B4.trans (b4.mono B4.size)
  clear z1 z2 z3 b4 hE hT m0 m1 m2 m3 m4 e0 e1 e2 e3 e4
  have e0 := y3.cell (i := 0) rfl
  have e1 := y3.cell (i := 1) rfl
  have e2 := y3.cell (i := 2) rfl
  have e3 := y3.cell (i := 3) rfl
  have e4 := y3.cell (i := 4) rfl
  have r0 := y2'.cell (i := 0) rfl
  have r1 := y2'.cell (i := 1) rfl
  have r2 := y2'.cell (i := 2) rfl
  have r3 := y2'.cell (i := 3) rfl
  have r4 := y2'.cell (i := 4) rfl
  have q0 := y2'.free 0
  have q1 := y2'.free 1
  have q2 := y2'.free 2
  have q3 := y2'.free 3
  have q4 := y2'.free 4
  go_wp2_with fail
  refine bodyPost_ret (v := .tuple #[.agg #[.string tx, .int .i64 rd, .bool en, .bool dn, .bool true], .nilIface]) (by rw [Tak.res_cell_tmp rfl]; go_simp; try rfl) rfl (Inn.mk (r := ⟨tx, rd, en, dn, true⟩) (e := .nilIface) (fun w' q => ans_ok _ _) ?_)
  iterate 5 (refine Below.setCell ?_ (by dsimp only; omega) _)
  exact B5

set_option maxRecDepth 10000 in
set_option maxHeartbeats 4000000 in
theorem toldOfEnd_already_done (s : Sm) (w : World) (aW : Addr) (H : Hnd w) (SW : Sen 0 aW w) (aX : Addr) (SX : Sen 4 aX w) (hne : aX ≠ aW) (hs : s.tx.size ≤ 2097152) (hok : s.ok = true) (hf : s.dn = true) :
    Calls Tryd.prog 38 #[s.v, .bool false] w (Inn (s, false) w) := by
  have hG := fun w' => implStreamOk s w' hs
  rw [hok] at hG
  clear hok
  obtain ⟨tx, rd, en, dn, sn⟩ := s
  dsimp only at hf
  subst hf
  dsimp only [Sm.v, Sm.c] at *
  have v1 : Var 25 ((w.alloc (.cells #[.string tx, .int .i64 rd, .bool en, .bool true, .bool sn] 25)).alloc (.cells #[.string ⟨#[]⟩, .int .i64 0, .bool false, .bool false, .bool false] 25)) w.heap.size [.string tx, .int .i64 rd, .bool en, .bool true, .bool sn] := (Var.new w [.string tx, .int .i64 rd, .bool en, .bool true, .bool sn]).alloc _
  have v2 : Var 25 ((w.alloc (.cells #[.string tx, .int .i64 rd, .bool en, .bool true, .bool sn] 25)).alloc (.cells #[.string ⟨#[]⟩, .int .i64 0, .bool false, .bool false, .bool false] 25)) (w.heap.size + 1) [.string ⟨#[]⟩, .int .i64 0, .bool false, .bool false, .bool false] := by
    have := Var.new (T := 25) (w.alloc (.cells #[.string tx, .int .i64 rd, .bool en, .bool true, .bool sn] 25)) [.string ⟨#[]⟩, .int .i64 0, .bool false, .bool false, .bool false]
    simpa using this
  have b1 : Below w.heap.size w ((w.alloc (.cells #[.string tx, .int .i64 rd, .bool en, .bool true, .bool sn] 25)).alloc (.cells #[.string ⟨#[]⟩, .int .i64 0, .bool false, .bool false, .bool false] 25)) := ((Below.refl _ _).alloc (Nat.le_refl _) _).alloc (by simp) _
  go_enter Tryd.func38, Tryd.ntmps38
  go_wp2_with fail
  generalize ((w.alloc (.cells #[.string tx, .int .i64 rd, .bool en, .bool true, .bool sn] 25)).alloc (.cells #[.string ⟨#[]⟩, .int .i64 0, .bool false, .bool false, .bool false] 25)) = V at *
  refine (hG _).mono ?_
  rintro x w1 ⟨rfl, b2⟩
  have x1 := v1.later b2
  have x2 := v2.later b2
  have B2 := b1.trans (b2.mono b1.size)
  clear v1 v2 b1 b2 hG
  have hBk := B2.size
  have hl1 := x1.lt
  have hl2 := x2.lt
  have e0 := x1.cell (i := 0) rfl
  have e1 := x1.cell (i := 1) rfl
  have e2 := x1.cell (i := 2) rfl
  have e3 := x1.cell (i := 3) rfl
  have e4 := x1.cell (i := 4) rfl
  have z1 : Var 25 (w1.alloc (.cells #[.string tx, .int .i64 rd, .bool en, .bool true, .bool sn] 25)) w.heap.size [.string tx, .int .i64 rd, .bool en, .bool true, .bool sn] := x1.alloc _
  have z2 : Var 25 (w1.alloc (.cells #[.string tx, .int .i64 rd, .bool en, .bool true, .bool sn] 25)) (w.heap.size + 1) [.string ⟨#[]⟩, .int .i64 0, .bool false, .bool false, .bool false] := x2.alloc _
  have z3 : Var 25 (w1.alloc (.cells #[.string tx, .int .i64 rd, .bool en, .bool true, .bool sn] 25)) w1.heap.size [.string tx, .int .i64 rd, .bool en, .bool true, .bool sn] := Var.new w1 _
  have B4 : Below w.heap.size w (w1.alloc (.cells #[.string tx, .int .i64 rd, .bool en, .bool true, .bool sn] 25)) := B2.alloc B2.size _
  go_upto_region 7 with (fail)
  generalize (w1.alloc (.cells #[.string tx, .int .i64 rd, .bool en, .bool true, .bool sn] 25)) = V4 at *
  clear x1 x2 B2 e0 e1 e2 e3 e4
  generalize w1.heap.size = k3 at *
  have hE : (Op.equalIn 10000 25 (.agg #[.string tx, .int .i64 rd, .bool en, .bool true, .bool sn]) (.agg #[.string tx, .int .i64 rd, .bool en, .bool true, .bool sn])).run Tryd.prog V4 = .ok true V4 := by
    rw [eqStreamV]
    simp
  have m0 := z3.cell (i := 0) rfl
  have m1 := z3.cell (i := 1) rfl
  have m2 := z3.cell (i := 2) rfl
  have m3 := z3.cell (i := 3) rfl
  have m4 := z3.cell (i := 4) rfl
  have e0 := z1.cell (i := 0) rfl
  have e1 := z1.cell (i := 1) rfl
  have e2 := z1.cell (i := 2) rfl
  have e3 := z1.cell (i := 3) rfl
  have e4 := z1.cell (i := 4) rfl
  have c0 := (SX.below B4 (Nat.le_refl _)).cell
  go_wp2_with fail
  refine (implRefuse ⟨tx, rd, en, true, sn⟩ aX _).mono ?_
  rintro x w2 ⟨rfl, b3⟩
  simp only [Err.refV, Err.refC, Sm.c, Sm.v, List.cons_append, List.nil_append]
  have y2 := z2.later b3
  have B3 := B4.trans (b3.mono B4.size)
  clear c0 b3
  have r0 := y2.cell (i := 0) rfl
  have r1 := y2.cell (i := 1) rfl
  have r2 := y2.cell (i := 2) rfl
  have r3 := y2.cell (i := 3) rfl
  have r4 := y2.cell (i := 4) rfl
  have q0 := y2.free 0
  have q1 := y2.free 1
  have q2 := y2.free 2
  have q3 := y2.free 3
  have q4 := y2.free 4
  go_wp2_with fail
  refine bodyPost_ret (v := .tuple #[.agg #[.string ⟨#[]⟩, .int .i64 0, .bool false, .bool false, .bool false], .iface 66 (.agg #[.string tx, .int .i64 rd, .bool en, .bool true, .bool sn, .iface 104 (.pointer (some aX))])]) (by rw [Tak.res_cell_tmp rfl]; go_simp; try rfl) rfl (Inn.mk (r := zeroS) (e := Err.refV ⟨tx, rd, en, true, sn⟩ aX) (fun w' q => ans_ref zeroS _ _ _ _ (H.below q (Nat.le_refl _)) (SW.below q (Nat.le_refl _)) (SX.below q (Nat.le_refl _)) hne) ?_)
  iterate 5 (refine Below.setCell ?_ (by dsimp only; omega) _)
  exact B3

set_option maxRecDepth 10000 in
set_option maxHeartbeats 4000000 in
theorem toldOfEnd_soon_done (s : Sm) (w : World) (aW : Addr) (H : Hnd w) (SW : Sen 0 aW w) (aX : Addr) (SX : Sen 5 aX w) (hne : aX ≠ aW) (hs : s.tx.size ≤ 2097152) (hok : s.ok = true) (hf : s.dn = false) (ht : Sm.ok { s with dn := true } = false) :
    Calls Tryd.prog 38 #[s.v, .bool false] w (Inn (s, false) w) := by
  have hG := fun w' => implStreamOk s w' hs
  rw [hok] at hG
  have hT := fun w' => implStreamOk { s with dn := true } w' hs
  rw [ht] at hT
  clear ht
  clear hok
  obtain ⟨tx, rd, en, dn, sn⟩ := s
  dsimp only at hf
  subst hf
  dsimp only [Sm.v, Sm.c] at *
  have v1 : Var 25 ((w.alloc (.cells #[.string tx, .int .i64 rd, .bool en, .bool false, .bool sn] 25)).alloc (.cells #[.string ⟨#[]⟩, .int .i64 0, .bool false, .bool false, .bool false] 25)) w.heap.size [.string tx, .int .i64 rd, .bool en, .bool false, .bool sn] := (Var.new w [.string tx, .int .i64 rd, .bool en, .bool false, .bool sn]).alloc _
  have v2 : Var 25 ((w.alloc (.cells #[.string tx, .int .i64 rd, .bool en, .bool false, .bool sn] 25)).alloc (.cells #[.string ⟨#[]⟩, .int .i64 0, .bool false, .bool false, .bool false] 25)) (w.heap.size + 1) [.string ⟨#[]⟩, .int .i64 0, .bool false, .bool false, .bool false] := by
    have := Var.new (T := 25) (w.alloc (.cells #[.string tx, .int .i64 rd, .bool en, .bool false, .bool sn] 25)) [.string ⟨#[]⟩, .int .i64 0, .bool false, .bool false, .bool false]
    simpa using this
  have b1 : Below w.heap.size w ((w.alloc (.cells #[.string tx, .int .i64 rd, .bool en, .bool false, .bool sn] 25)).alloc (.cells #[.string ⟨#[]⟩, .int .i64 0, .bool false, .bool false, .bool false] 25)) := ((Below.refl _ _).alloc (Nat.le_refl _) _).alloc (by simp) _
  go_enter Tryd.func38, Tryd.ntmps38
  go_wp2_with fail
  generalize ((w.alloc (.cells #[.string tx, .int .i64 rd, .bool en, .bool false, .bool sn] 25)).alloc (.cells #[.string ⟨#[]⟩, .int .i64 0, .bool false, .bool false, .bool false] 25)) = V at *
  refine (hG _).mono ?_
  rintro x w1 ⟨rfl, b2⟩
  have x1 := v1.later b2
  have x2 := v2.later b2
  have B2 := b1.trans (b2.mono b1.size)
  clear v1 v2 b1 b2 hG
  have hBk := B2.size
  have hl1 := x1.lt
  have hl2 := x2.lt
  have e0 := x1.cell (i := 0) rfl
  have e1 := x1.cell (i := 1) rfl
  have e2 := x1.cell (i := 2) rfl
  have e3 := x1.cell (i := 3) rfl
  have e4 := x1.cell (i := 4) rfl
  have z1 : Var 25 (w1.alloc (.cells #[.string tx, .int .i64 rd, .bool en, .bool true, .bool sn] 25)) w.heap.size [.string tx, .int .i64 rd, .bool en, .bool false, .bool sn] := x1.alloc _
  have z2 : Var 25 (w1.alloc (.cells #[.string tx, .int .i64 rd, .bool en, .bool true, .bool sn] 25)) (w.heap.size + 1) [.string ⟨#[]⟩, .int .i64 0, .bool false, .bool false, .bool false] := x2.alloc _
  have z3 : Var 25 (w1.alloc (.cells #[.string tx, .int .i64 rd, .bool en, .bool true, .bool sn] 25)) w1.heap.size [.string tx, .int .i64 rd, .bool en, .bool true, .bool sn] := Var.new w1 _
  have B4 : Below w.heap.size w (w1.alloc (.cells #[.string tx, .int .i64 rd, .bool en, .bool true, .bool sn] 25)) := B2.alloc B2.size _
  go_upto_region 7 with (fail)
  generalize (w1.alloc (.cells #[.string tx, .int .i64 rd, .bool en, .bool true, .bool sn] 25)) = V4 at *
  clear x1 x2 B2 e0 e1 e2 e3 e4
  generalize w1.heap.size = k3 at *
  have hE : (Op.equalIn 10000 25 (.agg #[.string tx, .int .i64 rd, .bool en, .bool true, .bool sn]) (.agg #[.string tx, .int .i64 rd, .bool en, .bool false, .bool sn])).run Tryd.prog V4 = .ok false V4 := by
    rw [eqStreamV]
    simp
  have m0 := z3.cell (i := 0) rfl
  have m1 := z3.cell (i := 1) rfl
  have m2 := z3.cell (i := 2) rfl
  have m3 := z3.cell (i := 3) rfl
  have m4 := z3.cell (i := 4) rfl
  have e0 := z1.cell (i := 0) rfl
  have e1 := z1.cell (i := 1) rfl
  have e2 := z1.cell (i := 2) rfl
  have e3 := z1.cell (i := 3) rfl
  have e4 := z1.cell (i := 4) rfl
  go_wp2_with fail
  refine (hT _).mono ?_
  rintro x w4 ⟨rfl, b4⟩
  have y1 := z1.later b4
  have y2' := z2.later b4
  have y3 := z3.later b4
  have B5 := B4.trans (b4.mono B4.size)
  clear z1 z2 z3 b4 hE hT m0 m1 m2 m3 m4 e0 e1 e2 e3 e4
  have e0 := y1.cell (i := 0) rfl
  have e1 := y1.cell (i := 1) rfl
  have e2 := y1.cell (i := 2) rfl
  have e3 := y1.cell (i := 3) rfl
  have e4 := y1.cell (i := 4) rfl
  have c0 := (SX.below B5 (Nat.le_refl _)).cell
  go_wp2_with fail
  refine (implRefuse ⟨tx, rd, en, false, sn⟩ aX _).mono ?_
  rintro x w2 ⟨rfl, b3⟩
  simp only [Err.refV, Err.refC, Sm.c, Sm.v, List.cons_append, List.nil_append]
  have y2 := y2'.later b3
  have B3 := B5.trans (b3.mono B5.size)
  clear c0 b3
  have r0 := y2.cell (i := 0) rfl
  have r1 := y2.cell (i := 1) rfl
  have r2 := y2.cell (i := 2) rfl
  have r3 := y2.cell (i := 3) rfl
  have r4 := y2.cell (i := 4) rfl
  have q0 := y2.free 0
  have q1 := y2.free 1
  have q2 := y2.free 2
  have q3 := y2.free 3
  have q4 := y2.free 4
  go_wp2_with fail
  refine bodyPost_ret (v := .tuple #[.agg #[.string ⟨#[]⟩, .int .i64 0, .bool false, .bool false, .bool false], .iface 66 (.agg #[.string tx, .int .i64 rd, .bool en, .bool false, .bool sn, .iface 104 (.pointer (some aX))])]) (by rw [Tak.res_cell_tmp rfl]; go_simp; try rfl) rfl (Inn.mk (r := zeroS) (e := Err.refV ⟨tx, rd, en, false, sn⟩ aX) (fun w' q => ans_ref zeroS _ _ _ _ (H.below q (Nat.le_refl _)) (SW.below q (Nat.le_refl _)) (SX.below q (Nat.le_refl _)) hne) ?_)
  iterate 5 (refine Below.setCell ?_ (by dsimp only; omega) _)
  exact B3

set_option maxRecDepth 10000 in
set_option maxHeartbeats 4000000 in
theorem toldOfEnd_fine_done (s : Sm) (w : World) (aW : Addr) (H : Hnd w) (SW : Sen 0 aW w) (hs : s.tx.size ≤ 2097152) (hok : s.ok = true) (hf : s.dn = false) (ht : Sm.ok { s with dn := true } = true) :
    Calls Tryd.prog 38 #[s.v, .bool false] w (Inn ({ s with dn := true }, true) w) := by
  have hG := fun w' => implStreamOk s w' hs
  rw [hok] at hG
  have hT := fun w' => implStreamOk { s with dn := true } w' hs
  rw [ht] at hT
  clear ht
  clear hok
  obtain ⟨tx, rd, en, dn, sn⟩ := s
  dsimp only at hf
  subst hf
  dsimp only [Sm.v, Sm.c] at *
  have v1 : Var 25 ((w.alloc (.cells #[.string tx, .int .i64 rd, .bool en, .bool false, .bool sn] 25)).alloc (.cells #[.string ⟨#[]⟩, .int .i64 0, .bool false, .bool false, .bool false] 25)) w.heap.size [.string tx, .int .i64 rd, .bool en, .bool false, .bool sn] := (Var.new w [.string tx, .int .i64 rd, .bool en, .bool false, .bool sn]).alloc _
  have v2 : Var 25 ((w.alloc (.cells #[.string tx, .int .i64 rd, .bool en, .bool false, .bool sn] 25)).alloc (.cells #[.string ⟨#[]⟩, .int .i64 0, .bool false, .bool false, .bool false] 25)) (w.heap.size + 1) [.string ⟨#[]⟩, .int .i64 0, .bool false, .bool false, .bool false] := by
    have := Var.new (T := 25) (w.alloc (.cells #[.string tx, .int .i64 rd, .bool en, .bool false, .bool sn] 25)) [.string ⟨#[]⟩, .int .i64 0, .bool false, .bool false, .bool false]
    simpa using this
  have b1 : Below w.heap.size w ((w.alloc (.cells #[.string tx, .int .i64 rd, .bool en, .bool false, .bool sn] 25)).alloc (.cells #[.string ⟨#[]⟩, .int .i64 0, .bool false, .bool false, .bool false] 25)) := ((Below.refl _ _).alloc (Nat.le_refl _) _).alloc (by simp) _
  go_enter Tryd.func38, Tryd.ntmps38
  go_wp2_with fail
  generalize ((w.alloc (.cells #[.string tx, .int .i64 rd, .bool en, .bool false, .bool sn] 25)).alloc (.cells #[.string ⟨#[]⟩, .int .i64 0, .bool false, .bool false, .bool false] 25)) = V at *
  refine (hG _).mono ?_
  rintro x w1 ⟨rfl, b2⟩
  have x1 := v1.later b2
  have x2 := v2.later b2
  have B2 := b1.trans (b2.mono b1.size)
  clear v1 v2 b1 b2 hG
  have hBk := B2.size
  have hl1 := x1.lt
  have hl2 := x2.lt
  have e0 := x1.cell (i := 0) rfl
  have e1 := x1.cell (i := 1) rfl
  have e2 := x1.cell (i := 2) rfl
  have e3 := x1.cell (i := 3) rfl
  have e4 := x1.cell (i := 4) rfl
  have z1 : Var 25 (w1.alloc (.cells #[.string tx, .int .i64 rd, .bool en, .bool true, .bool sn] 25)) w.heap.size [.string tx, .int .i64 rd, .bool en, .bool false, .bool sn] := x1.alloc _
  have z2 : Var 25 (w1.alloc (.cells #[.string tx, .int .i64 rd, .bool en, .bool true, .bool sn] 25)) (w.heap.size + 1) [.string ⟨#[]⟩, .int .i64 0, .bool false, .bool false, .bool false] := x2.alloc _
  have z3 : Var 25 (w1.alloc (.cells #[.string tx, .int .i64 rd, .bool en, .bool true, .bool sn] 25)) w1.heap.size [.string tx, .int .i64 rd, .bool en, .bool true, .bool sn] := Var.new w1 _
  have B4 : Below w.heap.size w (w1.alloc (.cells #[.string tx, .int .i64 rd, .bool en, .bool true, .bool sn] 25)) := B2.alloc B2.size _
  go_upto_region 7 with (fail)
  generalize (w1.alloc (.cells #[.string tx, .int .i64 rd, .bool en, .bool true, .bool sn] 25)) = V4 at *
  clear x1 x2 B2 e0 e1 e2 e3 e4
  generalize w1.heap.size = k3 at *
  have hE : (Op.equalIn 10000 25 (.agg #[.string tx, .int .i64 rd, .bool en, .bool true, .bool sn]) (.agg #[.string tx, .int .i64 rd, .bool en, .bool false, .bool sn])).run Tryd.prog V4 = .ok false V4 := by
    rw [eqStreamV]
    simp
  have m0 := z3.cell (i := 0) rfl
  have m1 := z3.cell (i := 1) rfl
  have m2 := z3.cell (i := 2) rfl
  have m3 := z3.cell (i := 3) rfl
  have m4 := z3.cell (i := 4) rfl
  have e0 := z1.cell (i := 0) rfl
  have e1 := z1.cell (i := 1) rfl
  have e2 := z1.cell (i := 2) rfl
  have e3 := z1.cell (i := 3) rfl
  have e4 := z1.cell (i := 4) rfl
  go_wp2_with fail
  refine (hT _).mono ?_
  rintro x w4 ⟨rfl, b4⟩
  have y1 := z1.later b4
  have y2' := z2.later b4
  have y3 := z3.later b4
  have B5 := B4.trans (b4.mono B4.size)
  clear z1 z2 z3 b4 hE hT m0 m1 m2 m3 m4 e0 e1 e2 e3 e4
  have e0 := y3.cell (i := 0) rfl
  have e1 := y3.cell (i := 1) rfl
  have e2 := y3.cell (i := 2) rfl
  have e3 := y3.cell (i := 3) rfl
  have e4 := y3.cell (i := 4) rfl
  have r0 := y2'.cell (i := 0) rfl
  have r1 := y2'.cell (i := 1) rfl
  have r2 := y2'.cell (i := 2) rfl
  have r3 := y2'.cell (i := 3) rfl
  have r4 := y2'.cell (i := 4) rfl
  have q0 := y2'.free 0
  have q1 := y2'.free 1
  have q2 := y2'.free 2
  have q3 := y2'.free 3
  have q4 := y2'.free 4
  go_wp2_with fail
  refine bodyPost_ret (v := .tuple #[.agg #[.string tx, .int .i64 rd, .bool en, .bool true, .bool sn], .nilIface]) (by rw [Tak.res_cell_tmp rfl]; go_simp; try rfl) rfl (Inn.mk (r := ⟨tx, rd, en, true, sn⟩) (e := .nilIface) (fun w' q => ans_ok _ _) ?_)
  iterate 5 (refine Below.setCell ?_ (by dsimp only; omega) _)
  exact B5

theorem ok_told_seen (s : Sm) (hok : s.ok = true) (hf : s.sn = false) : Sm.ok { s with sn := true } = tellB s true := by
  obtain ⟨tx, rd, en, dn, sn⟩ := s
  simp only [Sm.ok, Bool.and_eq_true, decide_eq_true_eq, tellB] at *
  subst hf
  obtain ⟨h1, ⟨h2, h3⟩, h4, h5⟩ := hok
  by_cases h : rd = (tx.size : Int)
  · cases en <;> cases dn <;> simp_all
  · have : rd < (tx.size : Int) := by omega
    cases en <;> cases dn <;> simp_all
theorem ok_told_done (s : Sm) (hok : s.ok = true) (hf : s.dn = false) : Sm.ok { s with dn := true } = tellB s false := by
  obtain ⟨tx, rd, en, dn, sn⟩ := s
  simp only [Sm.ok, Bool.and_eq_true, decide_eq_true_eq, tellB] at *
  subst hf
  obtain ⟨h1, ⟨h2, h3⟩, h4, h5⟩ := hok
  cases en <;> cases sn <;> simp_all

theorem implToldOfEnd (s : Sm) (seen : Bool) (w : World) (aW aA aS : Addr) (H : Hnd w) (SW : Sen 0 aW w) (SA : Sen 4 aA w) (SS : Sen 5 aS w) (nA : aA ≠ aW) (nS : aS ≠ aW) (hs : s.tx.size ≤ 2097152) :
    Calls Tryd.prog 38 #[s.v, .bool seen] w (Inn (toldS s seen) w) := by
  cases hok : s.ok
  · have e : toldS s seen = (zeroS, false) := by simp [toldS, hok]
    rw [e]
    exact toldOfEnd_wrong s seen w aW H SW hs hok
  cases seen
  · cases hf : s.dn
    case true =>
      have e : toldS s false = (s, false) := by simp [toldS, hok, tellS, tellB, hf]
      rw [e]
      exact toldOfEnd_already_done s w aW H SW aA SA nA hs hok hf
    have ht := ok_told_done s hok hf
    cases hb : tellB s false
    · have e : toldS s false = (s, false) := by simp [toldS, hok, tellS, hb]
      rw [e]
      exact toldOfEnd_soon_done s w aW H SW aS SS nS hs hok hf (ht.trans hb)
    · have e : toldS s false = ({ s with dn := true }, true) := by simp [toldS, hok, tellS, hb]
      rw [e]
      exact toldOfEnd_fine_done s w aW H SW hs hok hf (ht.trans hb)
  · cases hf : s.sn
    case true =>
      have e : toldS s true = (s, false) := by simp [toldS, hok, tellS, tellB, hf]
      rw [e]
      exact toldOfEnd_already_seen s w aW H SW aA SA nA hs hok hf
    have ht := ok_told_seen s hok hf
    cases hb : tellB s true
    · have e : toldS s true = (s, false) := by simp [toldS, hok, tellS, hb]
      rw [e]
      exact toldOfEnd_soon_seen s w aW H SW aS SS nS hs hok hf (ht.trans hb)
    · have e : toldS s true = ({ s with sn := true }, true) := by simp [toldS, hok, tellS, hb]
      rw [e]
      exact toldOfEnd_fine_seen s w aW H SW hs hok hf (ht.trans hb)

set_option maxRecDepth 10000 in
set_option maxHeartbeats 4000000 in
theorem implGrew (s : Sm) (b : ByteArray) (w : World) (aW aE aL : Addr) (H : Hnd w) (SW : Sen 0 aW w) (SE : Sen 2 aE w) (SL : Sen 3 aL w) (nE : aE ≠ aW) (nL : aL ≠ aW) (hs : s.tx.size ≤ 2097152) (hb : b.size ≤ 2097152) :
    Calls Tryd.prog 12 #[s.v, .string b] w fun x w' => x = .returned (.tuple #[(grewS s b).1.v, .bool (grewS s b).2]) ∧ Below w.heap.size w w' := by
  have hI := fun w' (q : Below w.heap.size w w') => implGrown s b w' aW aE aL (H.below q (Nat.le_refl _)) (SW.below q (Nat.le_refl _)) (SE.below q (Nat.le_refl _)) (SL.below q (Nat.le_refl _)) nE nL hs hb
  generalize grewS s b = R at *
  obtain ⟨⟨rt, rr, re, rn, rs⟩, C⟩ := R
  obtain ⟨tx, rd, en, dn, sn⟩ := s
  dsimp only [Sm.v, Sm.c] at *
  have v1 : Var 25 ((w.alloc (.cells #[.string tx, .int .i64 rd, .bool en, .bool dn, .bool sn] 25)).alloc (.cells #[.string ⟨#[]⟩, .int .i64 0, .bool false, .bool false, .bool false] 25)) w.heap.size [.string tx, .int .i64 rd, .bool en, .bool dn, .bool sn] := (Var.new w [.string tx, .int .i64 rd, .bool en, .bool dn, .bool sn]).alloc _
  have v2 : Var 25 ((w.alloc (.cells #[.string tx, .int .i64 rd, .bool en, .bool dn, .bool sn] 25)).alloc (.cells #[.string ⟨#[]⟩, .int .i64 0, .bool false, .bool false, .bool false] 25)) (w.heap.size + 1) [.string ⟨#[]⟩, .int .i64 0, .bool false, .bool false, .bool false] := by
    have := Var.new (T := 25) (w.alloc (.cells #[.string tx, .int .i64 rd, .bool en, .bool dn, .bool sn] 25)) [.string ⟨#[]⟩, .int .i64 0, .bool false, .bool false, .bool false]
    simpa using this
  have b1 : Below w.heap.size w ((w.alloc (.cells #[.string tx, .int .i64 rd, .bool en, .bool dn, .bool sn] 25)).alloc (.cells #[.string ⟨#[]⟩, .int .i64 0, .bool false, .bool false, .bool false] 25)) := ((Below.refl _ _).alloc (Nat.le_refl _) _).alloc (by simp) _

  go_enter Tryd.func12, Tryd.ntmps12
  go_wp2_with fail
  generalize ((w.alloc (.cells #[.string tx, .int .i64 rd, .bool en, .bool dn, .bool sn] 25)).alloc (.cells #[.string ⟨#[]⟩, .int .i64 0, .bool false, .bool false, .bool false] 25)) = V at *
  refine (hI _ b1).mono ?_
  rintro x w1 ⟨⟨at', ar, ae, ad, as'⟩, e, rfl, hA, b2⟩
  unfold Ans at hA
  dsimp only [Sm.v] at *
  have x2 := v2.later b2
  have B2 := b1.trans (b2.mono b1.size)
  clear v1 v2 b1 b2 hI
  go_wp2_with fail
  refine hA.mono ?_
  rintro x w2 ⟨rfl, b3⟩
  have y2 := x2.later b3
  have B3 := B2.trans (b3.mono B2.size)
  clear x2 B2 b3 hA
  have r0 := y2.cell (i := 0) rfl
  have r1 := y2.cell (i := 1) rfl
  have r2 := y2.cell (i := 2) rfl
  have r3 := y2.cell (i := 3) rfl
  have r4 := y2.cell (i := 4) rfl
  have q0 := y2.free 0
  have q1 := y2.free 1
  have q2 := y2.free 2
  have q3 := y2.free 3
  have q4 := y2.free 4
  go_wp2_with fail
  refine bodyPost_ret (v := .tuple #[.agg #[.string rt, .int .i64 rr, .bool re, .bool rn, .bool rs], .bool C]) (by rw [Tak.res_cell_tmp rfl]; go_simp; try rfl) rfl ⟨rfl, ?_⟩
  iterate 5 (refine Below.setCell ?_ (by dsimp only; omega) _)
  exact B3

set_option maxRecDepth 10000 in
set_option maxHeartbeats 4000000 in
theorem implWasRead (s : Sm) (b : ByteArray) (w : World) (aW aO : Addr) (H : Hnd w) (SW : Sen 0 aW w) (SO : Sen 1 aO w) (nO : aO ≠ aW) (hs : s.tx.size ≤ 2097152) (hb : b.size ≤ 2097152) :
    Calls Tryd.prog 10 #[s.v, .string b] w fun x w' => x = .returned (.tuple #[(wasS s b).1.v, .bool (wasS s b).2]) ∧ Below w.heap.size w w' := by
  have hI := fun w' (q : Below w.heap.size w w') => implReadOn s b w' aW aO (H.below q (Nat.le_refl _)) (SW.below q (Nat.le_refl _)) (SO.below q (Nat.le_refl _)) nO hs hb
  generalize wasS s b = R at *
  obtain ⟨⟨rt, rr, re, rn, rs⟩, C⟩ := R
  obtain ⟨tx, rd, en, dn, sn⟩ := s
  dsimp only [Sm.v, Sm.c] at *
  have v1 : Var 25 ((w.alloc (.cells #[.string tx, .int .i64 rd, .bool en, .bool dn, .bool sn] 25)).alloc (.cells #[.string ⟨#[]⟩, .int .i64 0, .bool false, .bool false, .bool false] 25)) w.heap.size [.string tx, .int .i64 rd, .bool en, .bool dn, .bool sn] := (Var.new w [.string tx, .int .i64 rd, .bool en, .bool dn, .bool sn]).alloc _
  have v2 : Var 25 ((w.alloc (.cells #[.string tx, .int .i64 rd, .bool en, .bool dn, .bool sn] 25)).alloc (.cells #[.string ⟨#[]⟩, .int .i64 0, .bool false, .bool false, .bool false] 25)) (w.heap.size + 1) [.string ⟨#[]⟩, .int .i64 0, .bool false, .bool false, .bool false] := by
    have := Var.new (T := 25) (w.alloc (.cells #[.string tx, .int .i64 rd, .bool en, .bool dn, .bool sn] 25)) [.string ⟨#[]⟩, .int .i64 0, .bool false, .bool false, .bool false]
    simpa using this
  have b1 : Below w.heap.size w ((w.alloc (.cells #[.string tx, .int .i64 rd, .bool en, .bool dn, .bool sn] 25)).alloc (.cells #[.string ⟨#[]⟩, .int .i64 0, .bool false, .bool false, .bool false] 25)) := ((Below.refl _ _).alloc (Nat.le_refl _) _).alloc (by simp) _

  go_enter Tryd.func10, Tryd.ntmps10
  go_wp2_with fail
  generalize ((w.alloc (.cells #[.string tx, .int .i64 rd, .bool en, .bool dn, .bool sn] 25)).alloc (.cells #[.string ⟨#[]⟩, .int .i64 0, .bool false, .bool false, .bool false] 25)) = V at *
  refine (hI _ b1).mono ?_
  rintro x w1 ⟨⟨at', ar, ae, ad, as'⟩, e, rfl, hA, b2⟩
  unfold Ans at hA
  dsimp only [Sm.v] at *
  have x2 := v2.later b2
  have B2 := b1.trans (b2.mono b1.size)
  clear v1 v2 b1 b2 hI
  go_wp2_with fail
  refine hA.mono ?_
  rintro x w2 ⟨rfl, b3⟩
  have y2 := x2.later b3
  have B3 := B2.trans (b3.mono B2.size)
  clear x2 B2 b3 hA
  have r0 := y2.cell (i := 0) rfl
  have r1 := y2.cell (i := 1) rfl
  have r2 := y2.cell (i := 2) rfl
  have r3 := y2.cell (i := 3) rfl
  have r4 := y2.cell (i := 4) rfl
  have q0 := y2.free 0
  have q1 := y2.free 1
  have q2 := y2.free 2
  have q3 := y2.free 3
  have q4 := y2.free 4
  go_wp2_with fail
  refine bodyPost_ret (v := .tuple #[.agg #[.string rt, .int .i64 rr, .bool re, .bool rn, .bool rs], .bool C]) (by rw [Tak.res_cell_tmp rfl]; go_simp; try rfl) rfl ⟨rfl, ?_⟩
  iterate 5 (refine Below.setCell ?_ (by dsimp only; omega) _)
  exact B3

set_option maxRecDepth 10000 in
set_option maxHeartbeats 4000000 in
theorem implEnded (s : Sm) (w : World) (aW aE : Addr) (H : Hnd w) (SW : Sen 0 aW w) (SE : Sen 2 aE w) (nE : aE ≠ aW) (hs : s.tx.size ≤ 2097152) :
    Calls Tryd.prog 14 #[s.v] w fun x w' => x = .returned (.tuple #[(endS s).1.v, .bool (endS s).2]) ∧ Below w.heap.size w w' := by
  have hI := fun w' (q : Below w.heap.size w w') => implAtItsEnd s w' aW aE (H.below q (Nat.le_refl _)) (SW.below q (Nat.le_refl _)) (SE.below q (Nat.le_refl _)) nE hs
  generalize endS s = R at *
  obtain ⟨⟨rt, rr, re, rn, rs⟩, C⟩ := R
  obtain ⟨tx, rd, en, dn, sn⟩ := s
  dsimp only [Sm.v, Sm.c] at *
  have v1 : Var 25 ((w.alloc (.cells #[.string tx, .int .i64 rd, .bool en, .bool dn, .bool sn] 25)).alloc (.cells #[.string ⟨#[]⟩, .int .i64 0, .bool false, .bool false, .bool false] 25)) w.heap.size [.string tx, .int .i64 rd, .bool en, .bool dn, .bool sn] := (Var.new w [.string tx, .int .i64 rd, .bool en, .bool dn, .bool sn]).alloc _
  have v2 : Var 25 ((w.alloc (.cells #[.string tx, .int .i64 rd, .bool en, .bool dn, .bool sn] 25)).alloc (.cells #[.string ⟨#[]⟩, .int .i64 0, .bool false, .bool false, .bool false] 25)) (w.heap.size + 1) [.string ⟨#[]⟩, .int .i64 0, .bool false, .bool false, .bool false] := by
    have := Var.new (T := 25) (w.alloc (.cells #[.string tx, .int .i64 rd, .bool en, .bool dn, .bool sn] 25)) [.string ⟨#[]⟩, .int .i64 0, .bool false, .bool false, .bool false]
    simpa using this
  have b1 : Below w.heap.size w ((w.alloc (.cells #[.string tx, .int .i64 rd, .bool en, .bool dn, .bool sn] 25)).alloc (.cells #[.string ⟨#[]⟩, .int .i64 0, .bool false, .bool false, .bool false] 25)) := ((Below.refl _ _).alloc (Nat.le_refl _) _).alloc (by simp) _

  go_enter Tryd.func14, Tryd.ntmps14
  go_wp2_with fail
  generalize ((w.alloc (.cells #[.string tx, .int .i64 rd, .bool en, .bool dn, .bool sn] 25)).alloc (.cells #[.string ⟨#[]⟩, .int .i64 0, .bool false, .bool false, .bool false] 25)) = V at *
  refine (hI _ b1).mono ?_
  rintro x w1 ⟨⟨at', ar, ae, ad, as'⟩, e, rfl, hA, b2⟩
  unfold Ans at hA
  dsimp only [Sm.v] at *
  have x2 := v2.later b2
  have B2 := b1.trans (b2.mono b1.size)
  clear v1 v2 b1 b2 hI
  go_wp2_with fail
  refine hA.mono ?_
  rintro x w2 ⟨rfl, b3⟩
  have y2 := x2.later b3
  have B3 := B2.trans (b3.mono B2.size)
  clear x2 B2 b3 hA
  have r0 := y2.cell (i := 0) rfl
  have r1 := y2.cell (i := 1) rfl
  have r2 := y2.cell (i := 2) rfl
  have r3 := y2.cell (i := 3) rfl
  have r4 := y2.cell (i := 4) rfl
  have q0 := y2.free 0
  have q1 := y2.free 1
  have q2 := y2.free 2
  have q3 := y2.free 3
  have q4 := y2.free 4
  go_wp2_with fail
  refine bodyPost_ret (v := .tuple #[.agg #[.string rt, .int .i64 rr, .bool re, .bool rn, .bool rs], .bool C]) (by rw [Tak.res_cell_tmp rfl]; go_simp; try rfl) rfl ⟨rfl, ?_⟩
  iterate 5 (refine Below.setCell ?_ (by dsimp only; omega) _)
  exact B3

set_option maxRecDepth 10000 in
set_option maxHeartbeats 4000000 in
theorem implTellEnd (s : Sm) (seen : Bool) (w : World) (aW aA aS : Addr) (H : Hnd w) (SW : Sen 0 aW w) (SA : Sen 4 aA w) (SS : Sen 5 aS w) (nA : aA ≠ aW) (nS : aS ≠ aW) (hs : s.tx.size ≤ 2097152) :
    Calls Tryd.prog 16 #[s.v, .bool seen] w fun x w' => x = .returned (.tuple #[(toldS s seen).1.v, .bool (toldS s seen).2]) ∧ Below w.heap.size w w' := by
  have hI := fun w' (q : Below w.heap.size w w') => implToldOfEnd s seen w' aW aA aS (H.below q (Nat.le_refl _)) (SW.below q (Nat.le_refl _)) (SA.below q (Nat.le_refl _)) (SS.below q (Nat.le_refl _)) nA nS hs
  generalize toldS s seen = R at *
  obtain ⟨⟨rt, rr, re, rn, rs⟩, C⟩ := R
  obtain ⟨tx, rd, en, dn, sn⟩ := s
  dsimp only [Sm.v, Sm.c] at *
  have v1 : Var 25 ((w.alloc (.cells #[.string tx, .int .i64 rd, .bool en, .bool dn, .bool sn] 25)).alloc (.cells #[.string ⟨#[]⟩, .int .i64 0, .bool false, .bool false, .bool false] 25)) w.heap.size [.string tx, .int .i64 rd, .bool en, .bool dn, .bool sn] := (Var.new w [.string tx, .int .i64 rd, .bool en, .bool dn, .bool sn]).alloc _
  have v2 : Var 25 ((w.alloc (.cells #[.string tx, .int .i64 rd, .bool en, .bool dn, .bool sn] 25)).alloc (.cells #[.string ⟨#[]⟩, .int .i64 0, .bool false, .bool false, .bool false] 25)) (w.heap.size + 1) [.string ⟨#[]⟩, .int .i64 0, .bool false, .bool false, .bool false] := by
    have := Var.new (T := 25) (w.alloc (.cells #[.string tx, .int .i64 rd, .bool en, .bool dn, .bool sn] 25)) [.string ⟨#[]⟩, .int .i64 0, .bool false, .bool false, .bool false]
    simpa using this
  have b1 : Below w.heap.size w ((w.alloc (.cells #[.string tx, .int .i64 rd, .bool en, .bool dn, .bool sn] 25)).alloc (.cells #[.string ⟨#[]⟩, .int .i64 0, .bool false, .bool false, .bool false] 25)) := ((Below.refl _ _).alloc (Nat.le_refl _) _).alloc (by simp) _

  go_enter Tryd.func16, Tryd.ntmps16
  go_wp2_with fail
  generalize ((w.alloc (.cells #[.string tx, .int .i64 rd, .bool en, .bool dn, .bool sn] 25)).alloc (.cells #[.string ⟨#[]⟩, .int .i64 0, .bool false, .bool false, .bool false] 25)) = V at *
  refine (hI _ b1).mono ?_
  rintro x w1 ⟨⟨at', ar, ae, ad, as'⟩, e, rfl, hA, b2⟩
  unfold Ans at hA
  dsimp only [Sm.v] at *
  have x2 := v2.later b2
  have B2 := b1.trans (b2.mono b1.size)
  clear v1 v2 b1 b2 hI
  go_wp2_with fail
  refine hA.mono ?_
  rintro x w2 ⟨rfl, b3⟩
  have y2 := x2.later b3
  have B3 := B2.trans (b3.mono B2.size)
  clear x2 B2 b3 hA
  have r0 := y2.cell (i := 0) rfl
  have r1 := y2.cell (i := 1) rfl
  have r2 := y2.cell (i := 2) rfl
  have r3 := y2.cell (i := 3) rfl
  have r4 := y2.cell (i := 4) rfl
  have q0 := y2.free 0
  have q1 := y2.free 1
  have q2 := y2.free 2
  have q3 := y2.free 3
  have q4 := y2.free 4
  go_wp2_with fail
  refine bodyPost_ret (v := .tuple #[.agg #[.string rt, .int .i64 rr, .bool re, .bool rn, .bool rs], .bool C]) (by rw [Tak.res_cell_tmp rfl]; go_simp; try rfl) rfl ⟨rfl, ?_⟩
  iterate 5 (refine Below.setCell ?_ (by dsimp only; omega) _)
  exact B3

end Go.Proofs.YtddicibpfmjgfaaDoor.Str
