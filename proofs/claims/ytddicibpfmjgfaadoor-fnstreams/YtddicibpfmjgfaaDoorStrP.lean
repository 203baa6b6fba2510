/- Chapter 15, the program: StreamOk, refuse, answered. Made by tools/gen/genstrp.py. -/
import Derived.Test.YtddicibpfmjgfaaDoorStrB
import Derived.Test.YtddicibpfmjgfaaDoorErrA
import Derived.Test.YtddicibpfmjgfaaDoorErrB
import Derived.Test.YtddicibpfmjgfaaDoorRegV
namespace Go.Proofs.YtddicibpfmjgfaaDoor.Str
open Go.RowKit RowG
set_option linter.unusedVariables false
set_option linter.unusedSimpArgs false

/-- A package variable holds an error of errors.New's make, that lies at a. -/
structure Sen (g : Nat) (a : Addr) (w : World) : Prop where
  cell : w.cell? ⟨g, 0, none⟩ = some (.iface 104 (.pointer (some a)))
  block : ∃ (c : Array Value) (t : TypeId), w.heap[a.block]? = some (.cells c t (0, 0))
theorem Sen.below {g B : Nat} {a : Addr} {w w' : World} (h : Sen g a w) (b : Below B w w') (hB : w.heap.size ≤ B) : Sen g a w' :=
  ⟨(b.cell (p := ⟨g, 0, none⟩) (Nat.lt_of_lt_of_le (Draw.lt_of_cell h.cell) hB)).trans h.cell, by obtain ⟨c, t, e⟩ := h.block; exact ⟨c, t, (b.block _ (Nat.lt_of_lt_of_le (Array.getElem?_eq_some_iff.1 e).1 hB)).trans e⟩⟩
/-- The library's variable that errors.As reads. -/
def Hnd (w : World) : Prop := w.cell? ⟨6, 0, none⟩ = some (.iface 89 (.agg #[.pointer (some ⟨7, 52, none⟩)]))
theorem Hnd.below {B : Nat} {w w' : World} (h : Hnd w) (b : Below B w w') (hB : w.heap.size ≤ B) : Hnd w' :=
  (b.cell (p := ⟨6, 0, none⟩) (Nat.lt_of_lt_of_le (Draw.lt_of_cell (show w.cell? _ = some _ from h)) hB)).trans h

set_option maxRecDepth 10000 in
set_option maxHeartbeats 4000000 in
theorem implStreamOk (s : Sm) (w : World) (hs : s.tx.size ≤ 2097152) :
    Calls Tryd.prog 18 #[s.v] w fun x w' => x = .returned (.bool s.ok) ∧ Below w.heap.size w w' := by
  have HO : Hid (s.ok = (decide ((s.tx.size : Int) ≤ 2000) && (decide (0 ≤ s.rd ∧ s.rd ≤ (s.tx.size : Int)) && ((!s.sn || (s.en && decide (s.rd = (s.tx.size : Int)))) && (!s.dn || s.en))))) := rfl
  generalize s.ok = O at *
  obtain ⟨tx, rd, en, dn, sn⟩ := s
  dsimp only [Sm.v] at *
  have v1 : Var 25 (w.alloc (.cells #[.string tx, .int .i64 rd, .bool en, .bool dn, .bool sn] 25)) w.heap.size [.string tx, .int .i64 rd, .bool en, .bool dn, .bool sn] := Var.new w _
  have b1 : Below w.heap.size w (w.alloc (.cells #[.string tx, .int .i64 rd, .bool en, .bool dn, .bool sn] 25)) := (Below.refl _ _).alloc (Nat.le_refl _) _
  go_enter Tryd.func18, Tryd.ntmps18
  go_upto_region 1 with (fail)
  generalize (w.alloc (.cells #[.string tx, .int .i64 rd, .bool en, .bool dn, .bool sn] 25)) = V at *
  have e0 := v1.cell (i := 0) rfl
  have e1 := v1.cell (i := 1) rfl
  have e2 := v1.cell (i := 2) rfl
  have e3 := v1.cell (i := 3) rfl
  have e4 := v1.cell (i := 4) rfl
  by_cases h1 : (tx.size : Int) ≤ 2000
  case neg =>
    have h1' : (2000 : Int) < (tx.size : Int) := by omega
    have hO : O = false := by rw [HO.out, decide_eq_false h1]; rfl
    subst hO
    go_wp2_with fail
    go_ret
    exact ⟨rfl, b1⟩
  have h1' : ¬ (2000 : Int) < (tx.size : Int) := by omega
  rw [decide_eq_true h1, Bool.true_and] at HO
  by_cases h2 : rd < 0
  case pos =>
    have hO : O = false := by rw [HO.out, decide_eq_false (show ¬ (0 ≤ rd ∧ rd ≤ (tx.size : Int)) by omega)]; rfl
    subst hO
    go_wp2_with fail
    go_ret
    exact ⟨rfl, b1⟩
  by_cases h3 : (tx.size : Int) < rd
  case pos =>
    have hO : O = false := by rw [HO.out, decide_eq_false (show ¬ (0 ≤ rd ∧ rd ≤ (tx.size : Int)) by omega)]; rfl
    subst hO
    go_wp2_with fail
    go_ret
    exact ⟨rfl, b1⟩
  rw [decide_eq_true (show 0 ≤ rd ∧ rd ≤ (tx.size : Int) by omega), Bool.true_and] at HO
  cases sn <;> cases en <;> cases dn
  all_goals first
    | (have hO : O = _ := HO.out
       simp only [Bool.not_false, Bool.not_true, Bool.true_or, Bool.false_or, Bool.or_true, Bool.or_false, Bool.and_true, Bool.true_and, Bool.false_and, Bool.and_false] at hO
       subst hO
       go_wp2_with fail
       go_ret
       exact ⟨rfl, b1⟩)
    | (by_cases h4 : rd = (tx.size : Int)
       · have hO : O = true := by rw [HO.out, decide_eq_true h4]; rfl
         subst hO
         go_wp2_with fail
         go_ret
         exact ⟨rfl, b1⟩
       · have hO : O = false := by rw [HO.out, decide_eq_false h4]; rfl
         subst hO
         go_wp2_with fail
         go_ret
         exact ⟨rfl, b1⟩)

set_option maxRecDepth 10000 in
set_option maxHeartbeats 4000000 in
theorem implRefuse (s : Sm) (a : Addr) (w : World) :
    Calls Tryd.prog 46 #[s.v, .iface 104 (.pointer (some a))] w fun x w' => x = .returned (.tuple #[zeroS.v, Err.refV s a]) ∧ Below w.heap.size w w' := by
  have hmix := Tak.mix
  obtain ⟨tx, rd, en, dn, sn⟩ := s
  simp only [Sm.v, Err.refV, Err.refC, Sm.c, List.cons_append, List.nil_append] at *
  have v1 : Var 25 ((w.alloc (.cells #[.string tx, .int .i64 rd, .bool en, .bool dn, .bool sn] 25)).alloc (.cells #[.string ⟨#[]⟩, .int .i64 0, .bool false, .bool false, .bool false] 25)) w.heap.size [.string tx, .int .i64 rd, .bool en, .bool dn, .bool sn] := (Var.new w [.string tx, .int .i64 rd, .bool en, .bool dn, .bool sn]).alloc _
  have v2 : Var 25 ((w.alloc (.cells #[.string tx, .int .i64 rd, .bool en, .bool dn, .bool sn] 25)).alloc (.cells #[.string ⟨#[]⟩, .int .i64 0, .bool false, .bool false, .bool false] 25)) (w.heap.size + 1) [.string ⟨#[]⟩, .int .i64 0, .bool false, .bool false, .bool false] := by
    have := Var.new (T := 25) (w.alloc (.cells #[.string tx, .int .i64 rd, .bool en, .bool dn, .bool sn] 25)) [.string ⟨#[]⟩, .int .i64 0, .bool false, .bool false, .bool false]
    simpa using this
  have b1 : Below w.heap.size w ((w.alloc (.cells #[.string tx, .int .i64 rd, .bool en, .bool dn, .bool sn] 25)).alloc (.cells #[.string ⟨#[]⟩, .int .i64 0, .bool false, .bool false, .bool false] 25)) := ((Below.refl _ _).alloc (Nat.le_refl _) _).alloc (by simp) _
  go_enter Tryd.func46, Tryd.ntmps46
  go_upto_region 1 with (fail)
  generalize ((w.alloc (.cells #[.string tx, .int .i64 rd, .bool en, .bool dn, .bool sn] 25)).alloc (.cells #[.string ⟨#[]⟩, .int .i64 0, .bool false, .bool false, .bool false] 25)) = V at *
  have keepW : ∀ (q : Nat) (d : Nat → Bool) (w' : World), (fun (d : Nat → Bool) (w' : World) => Var 25 w' w.heap.size [.string tx, .int .i64 rd, .bool en, .bool dn, .bool sn] ∧ Var 25 w' (w.heap.size + 1) [.string ⟨#[]⟩, .int .i64 0, .bool false, .bool false, .bool false] ∧ Below w.heap.size w w') d w' → q ≠ 99 → (fun (d : Nat → Bool) (w' : World) => Var 25 w' w.heap.size [.string tx, .int .i64 rd, .bool en, .bool dn, .bool sn] ∧ Var 25 w' (w.heap.size + 1) [.string ⟨#[]⟩, .int .i64 0, .bool false, .bool false, .bool false] ∧ Below w.heap.size w w') (fun j => j == q || d j) w' := fun _ _ _ h _ => h
  refine RegJ.wp_region_J (W := (fun (d : Nat → Bool) (w' : World) => Var 25 w' w.heap.size [.string tx, .int .i64 rd, .bool en, .bool dn, .bool sn] ∧ Var 25 w' (w.heap.size + 1) [.string ⟨#[]⟩, .int .i64 0, .bool false, .bool false, .bool false] ∧ Below w.heap.size w w')) (RegJ.Val [some (.agg #[.string ⟨#[]⟩, .int .i64 0, .bool false, .bool false, .bool false]), some (.agg #[.string tx, .int .i64 rd, .bool en, .bool dn, .bool sn]), some (.iface 104 (.pointer (some a))), some (.agg #[.string tx, .int .i64 rd, .bool en, .bool dn, .bool sn, .iface 104 (.pointer (some a))]), some (.iface 66 (.agg #[.string tx, .int .i64 rd, .bool en, .bool dn, .bool sn, .iface 104 (.pointer (some a))])), none, some (.iface 66 (.agg #[.string tx, .int .i64 rd, .bool en, .bool dn, .bool sn, .iface 104 (.pointer (some a))]))]) [some 6, some 7, some 8, some 9, some 10, none, some 5] (F := ?_) (is := [0, 1, 2, 3, 4, 5, 6]) hmix (by kernel_rfl) (by kernel_rfl) (by kernel_rfl) (by kernel_rfl) (fun x => ?_) (⟨v1.drew, v2.drew, b1.drew⟩) ?_ (fun d x wR hWR hdR hJR => ?_)
  rotate_left 1
  focus (simp only [RegJ.lay, Act.put, Nat.reduceAdd, Nat.zero_add, List.getElem_toArray, List.getElem_cons_zero, List.getElem_cons_succ, List.setIfInBounds_toArray, List.set_cons_zero, List.set_cons_succ]; rfl)
  focus
    refine RegJ.Steps.cons (RegJ.StepAt.mk rfl (fun d x w1 hW1 hJ1 hx1 K hK => ?_)) (RegJ.Steps.cons (RegJ.StepAt.mk rfl (fun d x w1 hW1 hJ1 hx1 K hK => ?_)) (RegJ.Steps.cons (RegJ.StepAt.mk rfl (fun d x w1 hW1 hJ1 hx1 K hK => ?_)) (RegJ.Steps.cons (RegJ.StepAt.mk rfl (fun d x w1 hW1 hJ1 hx1 K hK => ?_)) (RegJ.Steps.cons (RegJ.StepAt.mk rfl (fun d x w1 hW1 hJ1 hx1 K hK => ?_)) (RegJ.Steps.cons (RegJ.StepAt.mk rfl (fun d x w1 hW1 hJ1 hx1 K hK => ?_)) (RegJ.Steps.cons (RegJ.StepAt.mk rfl (fun d x w1 hW1 hJ1 hx1 K hK => ?_)) (RegJ.Steps.nil)))))))
    focus (simp only [List.getElem_toArray, List.getElem_cons_succ, List.getElem_cons_zero] at hK; go_simp; exact hK.out _ _ (keepW 0 d _ hW1 (by decide)) RegJ.Val.keep (RegJ.Val.this (Or.inl rfl)))
    focus (simp only [List.getElem_toArray, List.getElem_cons_succ, List.getElem_cons_zero] at hK; have e0 := hW1.1.cell (i := 0) rfl; have e1 := hW1.1.cell (i := 1) rfl; have e2 := hW1.1.cell (i := 2) rfl; have e3 := hW1.1.cell (i := 3) rfl; have e4 := hW1.1.cell (i := 4) rfl; go_simp; exact hK.out _ _ (keepW 1 d _ hW1 (by decide)) RegJ.Val.keep (RegJ.Val.this (Or.inl rfl)))
    focus (simp only [List.getElem_toArray, List.getElem_cons_succ, List.getElem_cons_zero] at hK; go_simp; exact hK.out _ _ (keepW 2 d _ hW1 (by decide)) RegJ.Val.keep (RegJ.Val.this (Or.inl rfl)))
    focus (simp only [List.getElem_toArray, List.getElem_cons_succ, List.getElem_cons_zero] at hK; have j1 : x 1 = _ := (hJ1.out 1 (by kernel_rfl)).2 _ rfl; rw [j1] at hK; have j2 : x 2 = _ := (hJ1.out 2 (by kernel_rfl)).2 _ rfl; rw [j2] at hK; go_simp; exact hK.out _ _ (keepW 3 d _ hW1 (by decide)) RegJ.Val.keep (RegJ.Val.this (Or.inl rfl)))
    focus (simp only [List.getElem_toArray, List.getElem_cons_succ, List.getElem_cons_zero] at hK; have j3 : x 3 = _ := (hJ1.out 3 (by kernel_rfl)).2 _ rfl; rw [j3] at hK; go_simp; exact hK.out _ _ (keepW 4 d _ hW1 (by decide)) RegJ.Val.keep (RegJ.Val.this (Or.inl rfl)))
    focus (simp only [List.getElem_toArray, List.getElem_cons_succ, List.getElem_cons_zero] at hK; have j0 : x 0 = _ := (hJ1.out 0 (by kernel_rfl)).2 _ rfl; rw [j0] at hK; have z0 := hW1.2.1.cell (i := 0) rfl; have y0 := hW1.2.1.free 0; have z1 := hW1.2.1.cell (i := 1) rfl; have y1 := hW1.2.1.free 1; have z2 := hW1.2.1.cell (i := 2) rfl; have y2 := hW1.2.1.free 2; have z3 := hW1.2.1.cell (i := 3) rfl; have y3 := hW1.2.1.free 3; have z4 := hW1.2.1.cell (i := 4) rfl; have y4 := hW1.2.1.free 4; go_simp; exact hK.out undef _ ⟨(((((hW1.1.other (p := ⟨w.heap.size + 1, 0, none⟩) (by dsimp only; omega) _).other (p := ⟨w.heap.size + 1, 1, none⟩) (by dsimp only; omega) _).other (p := ⟨w.heap.size + 1, 2, none⟩) (by dsimp only; omega) _).other (p := ⟨w.heap.size + 1, 3, none⟩) (by dsimp only; omega) _).other (p := ⟨w.heap.size + 1, 4, none⟩) (by dsimp only; omega) _), (((((hW1.2.1.set 0 (.string ⟨#[]⟩)).set 1 (.int .i64 0)).set 2 (.bool false)).set 3 (.bool false)).set 4 (.bool false)), (((((hW1.2.2.setCell (p := ⟨w.heap.size + 1, 0, none⟩) (by dsimp only; omega) _).setCell (p := ⟨w.heap.size + 1, 1, none⟩) (by dsimp only; omega) _).setCell (p := ⟨w.heap.size + 1, 2, none⟩) (by dsimp only; omega) _).setCell (p := ⟨w.heap.size + 1, 3, none⟩) (by dsimp only; omega) _).setCell (p := ⟨w.heap.size + 1, 4, none⟩) (by dsimp only; omega) _)⟩ RegJ.Val.keep (RegJ.Val.this (Or.inr rfl)))
    focus (simp only [List.getElem_toArray, List.getElem_cons_succ, List.getElem_cons_zero] at hK; have j4 : x 4 = _ := (hJ1.out 4 (by kernel_rfl)).2 _ rfl; rw [j4] at hK; go_simp; exact hK.out _ _ (keepW 6 d _ hW1 (by decide)) RegJ.Val.keep (RegJ.Val.this (Or.inl rfl)))
  obtain ⟨-, r2, rB⟩ := hWR
  have hj6 : x 6 = _ := (hJR 6 (by simp)).2 _ rfl
  rw [hj6]
  clear hdR hJR keepW v1 v2 b1
  have p0 := r2.cell (i := 0) rfl
  have p1 := r2.cell (i := 1) rfl
  have p2 := r2.cell (i := 2) rfl
  have p3 := r2.cell (i := 3) rfl
  have p4 := r2.cell (i := 4) rfl
  go_wp2_with fail
  refine bodyPost_ret (v := .tuple #[.agg #[.string ⟨#[]⟩, .int .i64 0, .bool false, .bool false, .bool false], .iface 66 (.agg #[.string tx, .int .i64 rd, .bool en, .bool dn, .bool sn, .iface 104 (.pointer (some a))])]) (by rw [Tak.res_cell_tmp rfl]; clear r2 rB; go_simp; done) rfl ⟨rfl, rB⟩

/-- What answered makes of it. -/
def Ans (r : Sm) (e : Value) (f : Sm × Bool) (w : World) : Prop := Calls Tryd.prog 33 #[r.v, e] w fun x w' => x = .returned (.tuple #[f.1.v, .bool f.2]) ∧ Below w.heap.size w w'

set_option maxRecDepth 10000 in
set_option maxHeartbeats 4000000 in
theorem ans_ok (s : Sm) (w : World) : Ans s .nilIface (s, true) w := by
  have hmix := Tak.mix
  unfold Ans
  obtain ⟨tx, rd, en, dn, sn⟩ := s
  dsimp only [Sm.v] at *
  have v1 : Var 25 ((w.alloc (.cells #[.string tx, .int .i64 rd, .bool en, .bool dn, .bool sn] 25)).alloc (.cells #[.string ⟨#[]⟩, .int .i64 0, .bool false, .bool false, .bool false] 25)) w.heap.size [.string tx, .int .i64 rd, .bool en, .bool dn, .bool sn] := (Var.new w [.string tx, .int .i64 rd, .bool en, .bool dn, .bool sn]).alloc _
  have v2 : Var 25 ((w.alloc (.cells #[.string tx, .int .i64 rd, .bool en, .bool dn, .bool sn] 25)).alloc (.cells #[.string ⟨#[]⟩, .int .i64 0, .bool false, .bool false, .bool false] 25)) (w.heap.size + 1) [.string ⟨#[]⟩, .int .i64 0, .bool false, .bool false, .bool false] := by
    have := Var.new (T := 25) (w.alloc (.cells #[.string tx, .int .i64 rd, .bool en, .bool dn, .bool sn] 25)) [.string ⟨#[]⟩, .int .i64 0, .bool false, .bool false, .bool false]
    simpa using this
  have b1 : Below w.heap.size w ((w.alloc (.cells #[.string tx, .int .i64 rd, .bool en, .bool dn, .bool sn] 25)).alloc (.cells #[.string ⟨#[]⟩, .int .i64 0, .bool false, .bool false, .bool false] 25)) := ((Below.refl _ _).alloc (Nat.le_refl _) _).alloc (by simp) _
  have v3 : Var 66 (((w.alloc (.cells #[.string tx, .int .i64 rd, .bool en, .bool dn, .bool sn] 25)).alloc (.cells #[.string ⟨#[]⟩, .int .i64 0, .bool false, .bool false, .bool false] 25)).alloc (.cells #[.string ⟨#[]⟩, .int .i64 0, .bool false, .bool false, .bool false, .nilIface] 66)) (w.heap.size + 2) [.string ⟨#[]⟩, .int .i64 0, .bool false, .bool false, .bool false, .nilIface] := by
    have := Var.new (T := 66) ((w.alloc (.cells #[.string tx, .int .i64 rd, .bool en, .bool dn, .bool sn] 25)).alloc (.cells #[.string ⟨#[]⟩, .int .i64 0, .bool false, .bool false, .bool false] 25)) [.string ⟨#[]⟩, .int .i64 0, .bool false, .bool false, .bool false, .nilIface]
    simpa using this
  replace v1 : Var 25 (((w.alloc (.cells #[.string tx, .int .i64 rd, .bool en, .bool dn, .bool sn] 25)).alloc (.cells #[.string ⟨#[]⟩, .int .i64 0, .bool false, .bool false, .bool false] 25)).alloc (.cells #[.string ⟨#[]⟩, .int .i64 0, .bool false, .bool false, .bool false, .nilIface] 66)) w.heap.size [.string tx, .int .i64 rd, .bool en, .bool dn, .bool sn] := v1.alloc _
  replace v2 : Var 25 (((w.alloc (.cells #[.string tx, .int .i64 rd, .bool en, .bool dn, .bool sn] 25)).alloc (.cells #[.string ⟨#[]⟩, .int .i64 0, .bool false, .bool false, .bool false] 25)).alloc (.cells #[.string ⟨#[]⟩, .int .i64 0, .bool false, .bool false, .bool false, .nilIface] 66)) (w.heap.size + 1) [.string ⟨#[]⟩, .int .i64 0, .bool false, .bool false, .bool false] := v2.alloc _
  replace b1 : Below w.heap.size w (((w.alloc (.cells #[.string tx, .int .i64 rd, .bool en, .bool dn, .bool sn] 25)).alloc (.cells #[.string ⟨#[]⟩, .int .i64 0, .bool false, .bool false, .bool false] 25)).alloc (.cells #[.string ⟨#[]⟩, .int .i64 0, .bool false, .bool false, .bool false, .nilIface] 66)) := b1.alloc (by simp; omega) _
  go_enter Tryd.func33, Tryd.ntmps33
  go_wp2_with fail
  generalize (((w.alloc (.cells #[.string tx, .int .i64 rd, .bool en, .bool dn, .bool sn] 25)).alloc (.cells #[.string ⟨#[]⟩, .int .i64 0, .bool false, .bool false, .bool false] 25)).alloc (.cells #[.string ⟨#[]⟩, .int .i64 0, .bool false, .bool false, .bool false, .nilIface] 66)) = V at *
  refine (Err.as_nil _ _).mono ?_
  rintro x w1 ⟨rfl, rfl⟩
  go_wp2_with fail
  have keepW : ∀ (q : Nat) (d : Nat → Bool) (w' : World), (fun (d : Nat → Bool) (w' : World) => Var 25 w' w.heap.size [.string tx, .int .i64 rd, .bool en, .bool dn, .bool sn] ∧ Var 25 w' (w.heap.size + 1) (if d 3 = true then [.string tx, .int .i64 rd, .bool en, .bool dn, .bool sn] else [.string ⟨#[]⟩, .int .i64 0, .bool false, .bool false, .bool false]) ∧ Below w.heap.size w w') d w' → q ≠ 3 → (fun (d : Nat → Bool) (w' : World) => Var 25 w' w.heap.size [.string tx, .int .i64 rd, .bool en, .bool dn, .bool sn] ∧ Var 25 w' (w.heap.size + 1) (if d 3 = true then [.string tx, .int .i64 rd, .bool en, .bool dn, .bool sn] else [.string ⟨#[]⟩, .int .i64 0, .bool false, .bool false, .bool false]) ∧ Below w.heap.size w w') (fun j => j == q || d j) w' := by
    intro q d w' h hq
    have e1 : (3 == q) = false := by rw [beq_eq_false_iff_ne]; omega
    refine ⟨h.1, ?_, h.2.2⟩
    simp only [e1, Bool.false_or]
    exact h.2.1
  refine RegJ.wp_region_J (W := (fun (d : Nat → Bool) (w' : World) => Var 25 w' w.heap.size [.string tx, .int .i64 rd, .bool en, .bool dn, .bool sn] ∧ Var 25 w' (w.heap.size + 1) (if d 3 = true then [.string tx, .int .i64 rd, .bool en, .bool dn, .bool sn] else [.string ⟨#[]⟩, .int .i64 0, .bool false, .bool false, .bool false]) ∧ Below w.heap.size w w')) (RegJ.Val [some (.agg #[.string tx, .int .i64 rd, .bool en, .bool dn, .bool sn]), some (.nilIface), some (.bool true), none, some (.bool true)]) [some 18, some 19, some 20, none, some 5] (F := ?_) (is := [0, 1, 2, 3, 4]) hmix (by kernel_rfl) (by kernel_rfl) (by kernel_rfl) (by kernel_rfl) (fun x => ?_) (⟨v1.drew, v2.drew, b1.drew⟩) ?_ (fun d x wR hWR hdR hJR => ?_)
  rotate_left 1
  focus (simp only [RegJ.lay, Act.put, Nat.reduceAdd, Nat.zero_add, List.getElem_toArray, List.getElem_cons_zero, List.getElem_cons_succ, List.setIfInBounds_toArray, List.set_cons_zero, List.set_cons_succ]; rfl)
  focus
    refine RegJ.Steps.cons (RegJ.StepAt.mk rfl (fun d x w1 hW1 hJ1 hx1 K hK => ?_)) (RegJ.Steps.cons (RegJ.StepAt.mk rfl (fun d x w1 hW1 hJ1 hx1 K hK => ?_)) (RegJ.Steps.cons (RegJ.StepAt.mk rfl (fun d x w1 hW1 hJ1 hx1 K hK => ?_)) (RegJ.Steps.cons (RegJ.StepAt.mk rfl (fun d x w1 hW1 hJ1 hx1 K hK => ?_)) (RegJ.Steps.cons (RegJ.StepAt.mk rfl (fun d x w1 hW1 hJ1 hx1 K hK => ?_)) (RegJ.Steps.nil)))))
    focus (simp only [List.getElem_toArray, List.getElem_cons_succ, List.getElem_cons_zero] at hK; have e0 := hW1.1.cell (i := 0) rfl; have e1 := hW1.1.cell (i := 1) rfl; have e2 := hW1.1.cell (i := 2) rfl; have e3 := hW1.1.cell (i := 3) rfl; have e4 := hW1.1.cell (i := 4) rfl; go_simp; exact hK.out _ _ (keepW 0 d _ hW1 (by decide)) RegJ.Val.keep (RegJ.Val.this (Or.inl rfl)))
    focus (simp only [List.getElem_toArray, List.getElem_cons_succ, List.getElem_cons_zero] at hK; go_simp; exact hK.out _ _ (keepW 1 d _ hW1 (by decide)) RegJ.Val.keep (RegJ.Val.this (Or.inl rfl)))
    focus (simp only [List.getElem_toArray, List.getElem_cons_succ, List.getElem_cons_zero] at hK; have j1 : x 1 = _ := (hJ1.out 1 (by kernel_rfl)).2 _ rfl; rw [j1] at hK; go_simp; exact hK.out _ _ (keepW 2 d _ hW1 (by decide)) RegJ.Val.keep (RegJ.Val.this (Or.inl rfl)))
    focus (simp only [List.getElem_toArray, List.getElem_cons_succ, List.getElem_cons_zero] at hK; have j0 : x 0 = _ := (hJ1.out 0 (by kernel_rfl)).2 _ rfl; rw [j0] at hK; have vz := hW1.2.1; rw [if_neg (by rw [(hx1.out 3 (.inl rfl)).1]; decide)] at vz; have z0 := vz.cell (i := 0) rfl; have y0 := vz.free 0; have z1 := vz.cell (i := 1) rfl; have y1 := vz.free 1; have z2 := vz.cell (i := 2) rfl; have y2 := vz.free 2; have z3 := vz.cell (i := 3) rfl; have y3 := vz.free 3; have z4 := vz.cell (i := 4) rfl; have y4 := vz.free 4; go_simp; exact hK.out undef _ ⟨(((((hW1.1.other (p := ⟨w.heap.size + 1, 0, none⟩) (by dsimp only; omega) _).other (p := ⟨w.heap.size + 1, 1, none⟩) (by dsimp only; omega) _).other (p := ⟨w.heap.size + 1, 2, none⟩) (by dsimp only; omega) _).other (p := ⟨w.heap.size + 1, 3, none⟩) (by dsimp only; omega) _).other (p := ⟨w.heap.size + 1, 4, none⟩) (by dsimp only; omega) _), (((((vz.set 0 (.string tx)).set 1 (.int .i64 rd)).set 2 (.bool en)).set 3 (.bool dn)).set 4 (.bool sn)), (((((hW1.2.2.setCell (p := ⟨w.heap.size + 1, 0, none⟩) (by dsimp only; omega) _).setCell (p := ⟨w.heap.size + 1, 1, none⟩) (by dsimp only; omega) _).setCell (p := ⟨w.heap.size + 1, 2, none⟩) (by dsimp only; omega) _).setCell (p := ⟨w.heap.size + 1, 3, none⟩) (by dsimp only; omega) _).setCell (p := ⟨w.heap.size + 1, 4, none⟩) (by dsimp only; omega) _)⟩ RegJ.Val.keep (RegJ.Val.this (Or.inr rfl)))
    focus (simp only [List.getElem_toArray, List.getElem_cons_succ, List.getElem_cons_zero] at hK; have j2 : x 2 = _ := (hJ1.out 2 (by kernel_rfl)).2 _ rfl; rw [j2] at hK; go_simp; exact hK.out _ _ (keepW 4 d _ hW1 (by decide)) RegJ.Val.keep (RegJ.Val.this (Or.inl rfl)))
  obtain ⟨-, r2, rB⟩ := hWR
  rw [if_pos (hdR 3 (by simp))] at r2
  have hj4 : x 4 = _ := (hJR 4 (by simp)).2 _ rfl
  rw [hj4]
  clear hdR hJR keepW v1 v2 b1
  have p0 := r2.cell (i := 0) rfl
  have p1 := r2.cell (i := 1) rfl
  have p2 := r2.cell (i := 2) rfl
  have p3 := r2.cell (i := 3) rfl
  have p4 := r2.cell (i := 4) rfl
  go_wp2_with fail
  refine bodyPost_ret (v := .tuple #[.agg #[.string tx, .int .i64 rd, .bool en, .bool dn, .bool sn], .bool true]) (by rw [Tak.res_cell_tmp rfl]; clear r2 rB; go_simp; done) rfl ⟨rfl, rB⟩

set_option maxRecDepth 10000 in
set_option maxHeartbeats 4000000 in
theorem ans_wrong (s k : Sm) (a : Addr) (w : World) (H : Hnd w) (SW : Sen 0 a w) : Ans s (Err.refV k a) (s, false) w := by
  have hmix := Tak.mix
  unfold Ans
  have hA := fun w' H' v => Err.as_hit k a (w.heap.size + 2) [.string ⟨#[]⟩, .int .i64 0, .bool false, .bool false, .bool false, .nilIface] w' rfl H' v
  have hI := fun w' (_ : Below w.heap.size w w') => Err.is_same k a w'
  obtain ⟨tx, rd, en, dn, sn⟩ := s
  obtain ⟨kt, kr, ke, kd, ks⟩ := k
  simp only [Sm.v, Err.refV, Err.refC, Sm.c, List.cons_append, List.nil_append] at *
  have v1 : Var 25 ((w.alloc (.cells #[.string tx, .int .i64 rd, .bool en, .bool dn, .bool sn] 25)).alloc (.cells #[.string ⟨#[]⟩, .int .i64 0, .bool false, .bool false, .bool false] 25)) w.heap.size [.string tx, .int .i64 rd, .bool en, .bool dn, .bool sn] := (Var.new w [.string tx, .int .i64 rd, .bool en, .bool dn, .bool sn]).alloc _
  have v2 : Var 25 ((w.alloc (.cells #[.string tx, .int .i64 rd, .bool en, .bool dn, .bool sn] 25)).alloc (.cells #[.string ⟨#[]⟩, .int .i64 0, .bool false, .bool false, .bool false] 25)) (w.heap.size + 1) [.string ⟨#[]⟩, .int .i64 0, .bool false, .bool false, .bool false] := by
    have := Var.new (T := 25) (w.alloc (.cells #[.string tx, .int .i64 rd, .bool en, .bool dn, .bool sn] 25)) [.string ⟨#[]⟩, .int .i64 0, .bool false, .bool false, .bool false]
    simpa using this
  have b1 : Below w.heap.size w ((w.alloc (.cells #[.string tx, .int .i64 rd, .bool en, .bool dn, .bool sn] 25)).alloc (.cells #[.string ⟨#[]⟩, .int .i64 0, .bool false, .bool false, .bool false] 25)) := ((Below.refl _ _).alloc (Nat.le_refl _) _).alloc (by simp) _
  have v3 : Var 66 (((w.alloc (.cells #[.string tx, .int .i64 rd, .bool en, .bool dn, .bool sn] 25)).alloc (.cells #[.string ⟨#[]⟩, .int .i64 0, .bool false, .bool false, .bool false] 25)).alloc (.cells #[.string ⟨#[]⟩, .int .i64 0, .bool false, .bool false, .bool false, .nilIface] 66)) (w.heap.size + 2) [.string ⟨#[]⟩, .int .i64 0, .bool false, .bool false, .bool false, .nilIface] := by
    have := Var.new (T := 66) ((w.alloc (.cells #[.string tx, .int .i64 rd, .bool en, .bool dn, .bool sn] 25)).alloc (.cells #[.string ⟨#[]⟩, .int .i64 0, .bool false, .bool false, .bool false] 25)) [.string ⟨#[]⟩, .int .i64 0, .bool false, .bool false, .bool false, .nilIface]
    simpa using this
  replace v1 : Var 25 (((w.alloc (.cells #[.string tx, .int .i64 rd, .bool en, .bool dn, .bool sn] 25)).alloc (.cells #[.string ⟨#[]⟩, .int .i64 0, .bool false, .bool false, .bool false] 25)).alloc (.cells #[.string ⟨#[]⟩, .int .i64 0, .bool false, .bool false, .bool false, .nilIface] 66)) w.heap.size [.string tx, .int .i64 rd, .bool en, .bool dn, .bool sn] := v1.alloc _
  replace v2 : Var 25 (((w.alloc (.cells #[.string tx, .int .i64 rd, .bool en, .bool dn, .bool sn] 25)).alloc (.cells #[.string ⟨#[]⟩, .int .i64 0, .bool false, .bool false, .bool false] 25)).alloc (.cells #[.string ⟨#[]⟩, .int .i64 0, .bool false, .bool false, .bool false, .nilIface] 66)) (w.heap.size + 1) [.string ⟨#[]⟩, .int .i64 0, .bool false, .bool false, .bool false] := v2.alloc _
  replace b1 : Below w.heap.size w (((w.alloc (.cells #[.string tx, .int .i64 rd, .bool en, .bool dn, .bool sn] 25)).alloc (.cells #[.string ⟨#[]⟩, .int .i64 0, .bool false, .bool false, .bool false] 25)).alloc (.cells #[.string ⟨#[]⟩, .int .i64 0, .bool false, .bool false, .bool false, .nilIface] 66)) := b1.alloc (by simp; omega) _
  go_enter Tryd.func33, Tryd.ntmps33
  go_wp2_with fail
  generalize (((w.alloc (.cells #[.string tx, .int .i64 rd, .bool en, .bool dn, .bool sn] 25)).alloc (.cells #[.string ⟨#[]⟩, .int .i64 0, .bool false, .bool false, .bool false] 25)).alloc (.cells #[.string ⟨#[]⟩, .int .i64 0, .bool false, .bool false, .bool false, .nilIface] 66)) = V at *
  refine (hA _ (H.below b1 (Nat.le_refl _)) v3).mono ?_
  rintro x w1 ⟨rfl, x3, K⟩
  have x1 := v1.kept K (by omega)
  have x2 := v2.kept K (by omega)
  have b2 : Below w.heap.size w w1 := b1.trans (K.below (by omega) b1.size)
  clear v1 v2 v3 b1 K
  have S1 := SW.below b2 (Nat.le_refl _)
  have c0 := S1.cell
  go_wp2_with fail
  refine (hI _ b2).mono ?_
  rintro x w2 ⟨rfl, b3⟩
  have v1 := x1.later b3
  have v2 := x2.later b3
  have v3 := x3.later b3
  have b1 := b2.trans (b3.mono b2.size)
  clear x1 x2 x3 b2 b3 S1 c0 hI hA SW H
  go_wp2_with fail
  have keepW : ∀ (q : Nat) (d : Nat → Bool) (w' : World), (fun (d : Nat → Bool) (w' : World) => Var 25 w' w.heap.size [.string tx, .int .i64 rd, .bool en, .bool dn, .bool sn] ∧ Var 25 w' (w.heap.size + 1) (if d 3 = true then [.string tx, .int .i64 rd, .bool en, .bool dn, .bool sn] else [.string ⟨#[]⟩, .int .i64 0, .bool false, .bool false, .bool false]) ∧ Below w.heap.size w w') d w' → q ≠ 3 → (fun (d : Nat → Bool) (w' : World) => Var 25 w' w.heap.size [.string tx, .int .i64 rd, .bool en, .bool dn, .bool sn] ∧ Var 25 w' (w.heap.size + 1) (if d 3 = true then [.string tx, .int .i64 rd, .bool en, .bool dn, .bool sn] else [.string ⟨#[]⟩, .int .i64 0, .bool false, .bool false, .bool false]) ∧ Below w.heap.size w w') (fun j => j == q || d j) w' := by
    intro q d w' h hq
    have e1 : (3 == q) = false := by rw [beq_eq_false_iff_ne]; omega
    refine ⟨h.1, ?_, h.2.2⟩
    simp only [e1, Bool.false_or]
    exact h.2.1
  refine RegJ.wp_region_J (W := (fun (d : Nat → Bool) (w' : World) => Var 25 w' w.heap.size [.string tx, .int .i64 rd, .bool en, .bool dn, .bool sn] ∧ Var 25 w' (w.heap.size + 1) (if d 3 = true then [.string tx, .int .i64 rd, .bool en, .bool dn, .bool sn] else [.string ⟨#[]⟩, .int .i64 0, .bool false, .bool false, .bool false]) ∧ Below w.heap.size w w')) (RegJ.Val [some (.agg #[.string tx, .int .i64 rd, .bool en, .bool dn, .bool sn]), some (.iface 66 (.agg #[.string kt, .int .i64 kr, .bool ke, .bool kd, .bool ks, .iface 104 (.pointer (some a))])), some (.bool false), none, some (.bool false)]) [some 18, some 19, some 20, none, some 5] (F := ?_) (is := [0, 1, 2, 3, 4]) hmix (by kernel_rfl) (by kernel_rfl) (by kernel_rfl) (by kernel_rfl) (fun x => ?_) (⟨v1.drew, v2.drew, b1.drew⟩) ?_ (fun d x wR hWR hdR hJR => ?_)
  rotate_left 1
  focus (simp only [RegJ.lay, Act.put, Nat.reduceAdd, Nat.zero_add, List.getElem_toArray, List.getElem_cons_zero, List.getElem_cons_succ, List.setIfInBounds_toArray, List.set_cons_zero, List.set_cons_succ]; rfl)
  focus
    refine RegJ.Steps.cons (RegJ.StepAt.mk rfl (fun d x w1 hW1 hJ1 hx1 K hK => ?_)) (RegJ.Steps.cons (RegJ.StepAt.mk rfl (fun d x w1 hW1 hJ1 hx1 K hK => ?_)) (RegJ.Steps.cons (RegJ.StepAt.mk rfl (fun d x w1 hW1 hJ1 hx1 K hK => ?_)) (RegJ.Steps.cons (RegJ.StepAt.mk rfl (fun d x w1 hW1 hJ1 hx1 K hK => ?_)) (RegJ.Steps.cons (RegJ.StepAt.mk rfl (fun d x w1 hW1 hJ1 hx1 K hK => ?_)) (RegJ.Steps.nil)))))
    focus (simp only [List.getElem_toArray, List.getElem_cons_succ, List.getElem_cons_zero] at hK; have e0 := hW1.1.cell (i := 0) rfl; have e1 := hW1.1.cell (i := 1) rfl; have e2 := hW1.1.cell (i := 2) rfl; have e3 := hW1.1.cell (i := 3) rfl; have e4 := hW1.1.cell (i := 4) rfl; go_simp; exact hK.out _ _ (keepW 0 d _ hW1 (by decide)) RegJ.Val.keep (RegJ.Val.this (Or.inl rfl)))
    focus (simp only [List.getElem_toArray, List.getElem_cons_succ, List.getElem_cons_zero] at hK; go_simp; exact hK.out _ _ (keepW 1 d _ hW1 (by decide)) RegJ.Val.keep (RegJ.Val.this (Or.inl rfl)))
    focus (simp only [List.getElem_toArray, List.getElem_cons_succ, List.getElem_cons_zero] at hK; have j1 : x 1 = _ := (hJ1.out 1 (by kernel_rfl)).2 _ rfl; rw [j1] at hK; go_simp; exact hK.out _ _ (keepW 2 d _ hW1 (by decide)) RegJ.Val.keep (RegJ.Val.this (Or.inl rfl)))
    focus (simp only [List.getElem_toArray, List.getElem_cons_succ, List.getElem_cons_zero] at hK; have j0 : x 0 = _ := (hJ1.out 0 (by kernel_rfl)).2 _ rfl; rw [j0] at hK; have vz := hW1.2.1; rw [if_neg (by rw [(hx1.out 3 (.inl rfl)).1]; decide)] at vz; have z0 := vz.cell (i := 0) rfl; have y0 := vz.free 0; have z1 := vz.cell (i := 1) rfl; have y1 := vz.free 1; have z2 := vz.cell (i := 2) rfl; have y2 := vz.free 2; have z3 := vz.cell (i := 3) rfl; have y3 := vz.free 3; have z4 := vz.cell (i := 4) rfl; have y4 := vz.free 4; go_simp; exact hK.out undef _ ⟨(((((hW1.1.other (p := ⟨w.heap.size + 1, 0, none⟩) (by dsimp only; omega) _).other (p := ⟨w.heap.size + 1, 1, none⟩) (by dsimp only; omega) _).other (p := ⟨w.heap.size + 1, 2, none⟩) (by dsimp only; omega) _).other (p := ⟨w.heap.size + 1, 3, none⟩) (by dsimp only; omega) _).other (p := ⟨w.heap.size + 1, 4, none⟩) (by dsimp only; omega) _), (((((vz.set 0 (.string tx)).set 1 (.int .i64 rd)).set 2 (.bool en)).set 3 (.bool dn)).set 4 (.bool sn)), (((((hW1.2.2.setCell (p := ⟨w.heap.size + 1, 0, none⟩) (by dsimp only; omega) _).setCell (p := ⟨w.heap.size + 1, 1, none⟩) (by dsimp only; omega) _).setCell (p := ⟨w.heap.size + 1, 2, none⟩) (by dsimp only; omega) _).setCell (p := ⟨w.heap.size + 1, 3, none⟩) (by dsimp only; omega) _).setCell (p := ⟨w.heap.size + 1, 4, none⟩) (by dsimp only; omega) _)⟩ RegJ.Val.keep (RegJ.Val.this (Or.inr rfl)))
    focus (simp only [List.getElem_toArray, List.getElem_cons_succ, List.getElem_cons_zero] at hK; have j2 : x 2 = _ := (hJ1.out 2 (by kernel_rfl)).2 _ rfl; rw [j2] at hK; go_simp; exact hK.out _ _ (keepW 4 d _ hW1 (by decide)) RegJ.Val.keep (RegJ.Val.this (Or.inl rfl)))
  obtain ⟨-, r2, rB⟩ := hWR
  rw [if_pos (hdR 3 (by simp))] at r2
  have hj4 : x 4 = _ := (hJR 4 (by simp)).2 _ rfl
  rw [hj4]
  clear hdR hJR keepW v1 v2 b1
  have p0 := r2.cell (i := 0) rfl
  have p1 := r2.cell (i := 1) rfl
  have p2 := r2.cell (i := 2) rfl
  have p3 := r2.cell (i := 3) rfl
  have p4 := r2.cell (i := 4) rfl
  go_wp2_with fail
  refine bodyPost_ret (v := .tuple #[.agg #[.string tx, .int .i64 rd, .bool en, .bool dn, .bool sn], .bool false]) (by rw [Tak.res_cell_tmp rfl]; clear r2 rB; go_simp; done) rfl ⟨rfl, rB⟩

set_option maxRecDepth 10000 in
set_option maxHeartbeats 4000000 in
theorem ans_ref (s k : Sm) (a b : Addr) (w : World) (H : Hnd w) (SW : Sen 0 b w) {g : Nat} (SA : Sen g a w) (hne : a ≠ b) : Ans s (Err.refV k a) (k, false) w := by
  have hmix := Tak.mix
  unfold Ans
  have hA := fun w' H' v => Err.as_hit k a (w.heap.size + 2) [.string ⟨#[]⟩, .int .i64 0, .bool false, .bool false, .bool false, .nilIface] w' rfl H' v
  have hI := fun w' (q : Below w.heap.size w w') => (by obtain ⟨ca, ta, ha⟩ := (SA.below q (Nat.le_refl _)).block; obtain ⟨cb, tb, hb⟩ := (SW.below q (Nat.le_refl _)).block; exact Err.is_other k a b w' ca cb ta tb hne ha hb : Calls Tryd.prog 45 _ w' _)
  obtain ⟨tx, rd, en, dn, sn⟩ := s
  obtain ⟨kt, kr, ke, kd, ks⟩ := k
  simp only [Sm.v, Err.refV, Err.refC, Sm.c, List.cons_append, List.nil_append] at *
  have v1 : Var 25 ((w.alloc (.cells #[.string tx, .int .i64 rd, .bool en, .bool dn, .bool sn] 25)).alloc (.cells #[.string ⟨#[]⟩, .int .i64 0, .bool false, .bool false, .bool false] 25)) w.heap.size [.string tx, .int .i64 rd, .bool en, .bool dn, .bool sn] := (Var.new w [.string tx, .int .i64 rd, .bool en, .bool dn, .bool sn]).alloc _
  have v2 : Var 25 ((w.alloc (.cells #[.string tx, .int .i64 rd, .bool en, .bool dn, .bool sn] 25)).alloc (.cells #[.string ⟨#[]⟩, .int .i64 0, .bool false, .bool false, .bool false] 25)) (w.heap.size + 1) [.string ⟨#[]⟩, .int .i64 0, .bool false, .bool false, .bool false] := by
    have := Var.new (T := 25) (w.alloc (.cells #[.string tx, .int .i64 rd, .bool en, .bool dn, .bool sn] 25)) [.string ⟨#[]⟩, .int .i64 0, .bool false, .bool false, .bool false]
    simpa using this
  have b1 : Below w.heap.size w ((w.alloc (.cells #[.string tx, .int .i64 rd, .bool en, .bool dn, .bool sn] 25)).alloc (.cells #[.string ⟨#[]⟩, .int .i64 0, .bool false, .bool false, .bool false] 25)) := ((Below.refl _ _).alloc (Nat.le_refl _) _).alloc (by simp) _
  have v3 : Var 66 (((w.alloc (.cells #[.string tx, .int .i64 rd, .bool en, .bool dn, .bool sn] 25)).alloc (.cells #[.string ⟨#[]⟩, .int .i64 0, .bool false, .bool false, .bool false] 25)).alloc (.cells #[.string ⟨#[]⟩, .int .i64 0, .bool false, .bool false, .bool false, .nilIface] 66)) (w.heap.size + 2) [.string ⟨#[]⟩, .int .i64 0, .bool false, .bool false, .bool false, .nilIface] := by
    have := Var.new (T := 66) ((w.alloc (.cells #[.string tx, .int .i64 rd, .bool en, .bool dn, .bool sn] 25)).alloc (.cells #[.string ⟨#[]⟩, .int .i64 0, .bool false, .bool false, .bool false] 25)) [.string ⟨#[]⟩, .int .i64 0, .bool false, .bool false, .bool false, .nilIface]
    simpa using this
  replace v1 : Var 25 (((w.alloc (.cells #[.string tx, .int .i64 rd, .bool en, .bool dn, .bool sn] 25)).alloc (.cells #[.string ⟨#[]⟩, .int .i64 0, .bool false, .bool false, .bool false] 25)).alloc (.cells #[.string ⟨#[]⟩, .int .i64 0, .bool false, .bool false, .bool false, .nilIface] 66)) w.heap.size [.string tx, .int .i64 rd, .bool en, .bool dn, .bool sn] := v1.alloc _
  replace v2 : Var 25 (((w.alloc (.cells #[.string tx, .int .i64 rd, .bool en, .bool dn, .bool sn] 25)).alloc (.cells #[.string ⟨#[]⟩, .int .i64 0, .bool false, .bool false, .bool false] 25)).alloc (.cells #[.string ⟨#[]⟩, .int .i64 0, .bool false, .bool false, .bool false, .nilIface] 66)) (w.heap.size + 1) [.string ⟨#[]⟩, .int .i64 0, .bool false, .bool false, .bool false] := v2.alloc _
  replace b1 : Below w.heap.size w (((w.alloc (.cells #[.string tx, .int .i64 rd, .bool en, .bool dn, .bool sn] 25)).alloc (.cells #[.string ⟨#[]⟩, .int .i64 0, .bool false, .bool false, .bool false] 25)).alloc (.cells #[.string ⟨#[]⟩, .int .i64 0, .bool false, .bool false, .bool false, .nilIface] 66)) := b1.alloc (by simp; omega) _
  go_enter Tryd.func33, Tryd.ntmps33
  go_wp2_with fail
  generalize (((w.alloc (.cells #[.string tx, .int .i64 rd, .bool en, .bool dn, .bool sn] 25)).alloc (.cells #[.string ⟨#[]⟩, .int .i64 0, .bool false, .bool false, .bool false] 25)).alloc (.cells #[.string ⟨#[]⟩, .int .i64 0, .bool false, .bool false, .bool false, .nilIface] 66)) = V at *
  refine (hA _ (H.below b1 (Nat.le_refl _)) v3).mono ?_
  rintro x w1 ⟨rfl, x3, K⟩
  have x1 := v1.kept K (by omega)
  have x2 := v2.kept K (by omega)
  have b2 : Below w.heap.size w w1 := b1.trans (K.below (by omega) b1.size)
  clear v1 v2 v3 b1 K
  have S1 := SW.below b2 (Nat.le_refl _)
  have c0 := S1.cell
  go_wp2_with fail
  refine (hI _ b2).mono ?_
  rintro x w2 ⟨rfl, b3⟩
  have v1 := x1.later b3
  have v2 := x2.later b3
  have v3 := x3.later b3
  have b1 := b2.trans (b3.mono b2.size)
  clear x1 x2 x3 b2 b3 S1 c0 hI hA SW H
  have e0 := v3.cell (i := 0) rfl
  have e1 := v3.cell (i := 1) rfl
  have e2 := v3.cell (i := 2) rfl
  have e3 := v3.cell (i := 3) rfl
  have e4 := v3.cell (i := 4) rfl
  have r0 := v2.cell (i := 0) rfl
  have r1 := v2.cell (i := 1) rfl
  have r2 := v2.cell (i := 2) rfl
  have r3 := v2.cell (i := 3) rfl
  have r4 := v2.cell (i := 4) rfl
  have q0 := v2.free 0
  have q1 := v2.free 1
  have q2 := v2.free 2
  have q3 := v2.free 3
  have q4 := v2.free 4
  clear SA
  go_wp2_with fail
  refine bodyPost_ret (v := .tuple #[.agg #[.string kt, .int .i64 kr, .bool ke, .bool kd, .bool ks], .bool false]) (by rw [Tak.res_cell_tmp rfl]; go_simp; try rfl) rfl ⟨rfl, ?_⟩
  iterate 5 (refine Below.setCell ?_ (by dsimp only; omega) _)
  exact b1

end Go.Proofs.YtddicibpfmjgfaaDoor.Str
