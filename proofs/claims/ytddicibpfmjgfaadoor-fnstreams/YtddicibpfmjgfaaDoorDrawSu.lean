/- Chapter 15's draws whole: DrawStreamOk, DrawEnded, DrawGrew, DrawTellEnd, DrawWasRead. Made by tools/gen/gendrawsu.py. -/
import Derived.Test.YtddicibpfmjgfaaDoorDrawSt
import Derived.Test.YtddicibpfmjgfaaDoorLawSt
namespace Go.Proofs.YtddicibpfmjgfaaDoor.Str
open Go.RowKit RowG
set_option linter.unusedVariables false
set_option linter.unusedSimpArgs false

theorem res_cell_tmpS {fn : Func} {p q : Tmp} {ty : TypeId} (h : fn.results = #[.cell p ty, .tmp q]) (tmps : Array Value) (P : Program) (w : World) :
    (results fn tmps).run P w = (((asAddr (tmps.getD p undef)).run P w).andThen fun a w₁ => (loadVar ty a).run P w₁).andThen fun v w' => .ok (.tuple #[v, tmps.getD q undef]) w' := by
  simp only [results, h]
  simp [Sem.run_bind, Result.andThen]
  split <;> rfl
theorem put5 (w : World) (k : Nat) (s : Sm) : Draw.Kept k w (((((w.setCell ⟨k, 0, none⟩ (.string s.tx)).setCell ⟨k, 1, none⟩ (.int .i64 s.rd)).setCell ⟨k, 2, none⟩ (.bool s.en)).setCell ⟨k, 3, none⟩ (.bool s.dn)).setCell ⟨k, 4, none⟩ (.bool s.sn)) := by
  iterate 5 (refine Draw.Kept.setCell ?_ (.inl (by rfl)) _)
  exact Draw.Kept.refl _ _

set_option maxRecDepth 10000 in
set_option maxHeartbeats 8000000 in
theorem drawStreamOk (a : Option Addr) (len cap : Nat) (w : World) (hb : Draw.Bytes w a len) (hl : len ≤ 4096) :
    Calls Tryd.prog 36 #[.slice a len cap] w fun x w' => ∃ s : Sm, Sz s ∧ x = .returned s.v ∧ Below w.heap.size w w' := by
  have z0 : Var 25 (w.alloc (.cells #[.string ⟨#[]⟩, .int .i64 0, .bool false, .bool false, .bool false] 25)) w.heap.size [.string ⟨#[]⟩, .int .i64 0, .bool false, .bool false, .bool false] := Var.new w _
  have b0 : Below w.heap.size w (w.alloc (.cells #[.string ⟨#[]⟩, .int .i64 0, .bool false, .bool false, .bool false] 25)) := (Below.refl _ _).alloc (Nat.le_refl _) _
  have hb0 := hb.below b0 (Nat.le_refl _)
  go_enter Tryd.func36, Tryd.ntmps36
  go_wp2_with fail
  refine (Draw.l1New a len cap _ hb0 hl).mono ?_
  rintro x w1 ⟨rfl, hh, hw1⟩
  have c1 : Draw.Cur w1 (w.heap.size + 1) := by rw [hw1]; simpa using Draw.cur_new hb0 hl hh _
  have b1 : Below (w.heap.size + 1) (w.alloc (.cells #[.string ⟨#[]⟩, .int .i64 0, .bool false, .bool false, .bool false] 25)) w1 := by rw [hw1]; exact (Below.refl _ _).alloc (by simp) _
  replace z0 := z0.later (b1.mono (by simp))
  replace b0 := b0.trans (b1.mono (by simp))
  clear b1 hw1 hb0
  go_wp2_with fail
  refine (l15Draw _ _ c1).mono ?_
  rintro x w2 ⟨s, hz, rfl, c2, k2⟩
  replace z0 := z0.kept k2 (by omega)
  replace b0 := b0.trans (k2.below (by omega) b0.size)
  clear c1 c2 k2
  have a0 := z0.cell (i := 0) rfl; have a1 := z0.cell (i := 1) rfl; have a2 := z0.cell (i := 2) rfl; have a3 := z0.cell (i := 3) rfl; have a4 := z0.cell (i := 4) rfl
  have y0 := z0.free 0; have y1 := z0.free 1; have y2 := z0.free 2; have y3 := z0.free 3; have y4 := z0.free 4
  go_wp2_with fail
  have r2 : Var 25 (((((w2.setCell ⟨w.heap.size, 0, none⟩ (.string s.tx)).setCell ⟨w.heap.size, 1, none⟩ (.int .i64 s.rd)).setCell ⟨w.heap.size, 2, none⟩ (.bool s.en)).setCell ⟨w.heap.size, 3, none⟩ (.bool s.dn)).setCell ⟨w.heap.size, 4, none⟩ (.bool s.sn)) w.heap.size [.string s.tx, .int .i64 s.rd, .bool s.en, .bool s.dn, .bool s.sn] := (((((z0.set 0 _).set 1 _).set 2 _).set 3 _).set 4 _)
  have bE : Below w.heap.size w (((((w2.setCell ⟨w.heap.size, 0, none⟩ (.string s.tx)).setCell ⟨w.heap.size, 1, none⟩ (.int .i64 s.rd)).setCell ⟨w.heap.size, 2, none⟩ (.bool s.en)).setCell ⟨w.heap.size, 3, none⟩ (.bool s.dn)).setCell ⟨w.heap.size, 4, none⟩ (.bool s.sn)) := by
    iterate 5 (refine Below.setCell ?_ (by dsimp only; omega) _)
    exact b0
  generalize (((((w2.setCell ⟨w.heap.size, 0, none⟩ (.string s.tx)).setCell ⟨w.heap.size, 1, none⟩ (.int .i64 s.rd)).setCell ⟨w.heap.size, 2, none⟩ (.bool s.en)).setCell ⟨w.heap.size, 3, none⟩ (.bool s.dn)).setCell ⟨w.heap.size, 4, none⟩ (.bool s.sn)) = W4 at *
  have s0 := r2.cell (i := 0) rfl; have s1 := r2.cell (i := 1) rfl; have s2 := r2.cell (i := 2) rfl; have s3 := r2.cell (i := 3) rfl; have s4 := r2.cell (i := 4) rfl
  refine bodyPost_ret (v := .agg #[.string s.tx, .int .i64 s.rd, .bool s.en, .bool s.dn, .bool s.sn]) (by rw [results_cell1 rfl]; clear r2 bE z0 b0 a0 a1 a2 a3 a4 y0 y1 y2 y3 y4; go_simp; done) rfl ⟨s, hz, rfl, bE⟩

set_option maxRecDepth 10000 in
set_option maxHeartbeats 8000000 in
theorem drawEnded (a : Option Addr) (len cap : Nat) (w : World) (hb : Draw.Bytes w a len) (hl : len ≤ 4096) :
    Calls Tryd.prog 13 #[.slice a len cap] w fun x w' => ∃ s : Sm, Sz s ∧ x = .returned s.v ∧ Below w.heap.size w w' := by
  have z0 : Var 25 (w.alloc (.cells #[.string ⟨#[]⟩, .int .i64 0, .bool false, .bool false, .bool false] 25)) w.heap.size [.string ⟨#[]⟩, .int .i64 0, .bool false, .bool false, .bool false] := Var.new w _
  have b0 : Below w.heap.size w (w.alloc (.cells #[.string ⟨#[]⟩, .int .i64 0, .bool false, .bool false, .bool false] 25)) := (Below.refl _ _).alloc (Nat.le_refl _) _
  have hb0 := hb.below b0 (Nat.le_refl _)
  go_enter Tryd.func13, Tryd.ntmps13
  go_wp2_with fail
  refine (drawStreamOk a len cap _ hb0 hl).mono ?_
  rintro x w2 ⟨s, hz, rfl, b1⟩
  replace z0 := z0.later b1
  replace b0 := b0.trans (b1.mono b0.size)
  clear b1 hb0
  have a0 := z0.cell (i := 0) rfl; have a1 := z0.cell (i := 1) rfl; have a2 := z0.cell (i := 2) rfl; have a3 := z0.cell (i := 3) rfl; have a4 := z0.cell (i := 4) rfl
  have y0 := z0.free 0; have y1 := z0.free 1; have y2 := z0.free 2; have y3 := z0.free 3; have y4 := z0.free 4
  go_wp2_with fail
  have r2 : Var 25 (((((w2.setCell ⟨w.heap.size, 0, none⟩ (.string s.tx)).setCell ⟨w.heap.size, 1, none⟩ (.int .i64 s.rd)).setCell ⟨w.heap.size, 2, none⟩ (.bool s.en)).setCell ⟨w.heap.size, 3, none⟩ (.bool s.dn)).setCell ⟨w.heap.size, 4, none⟩ (.bool s.sn)) w.heap.size [.string s.tx, .int .i64 s.rd, .bool s.en, .bool s.dn, .bool s.sn] := (((((z0.set 0 _).set 1 _).set 2 _).set 3 _).set 4 _)
  have bE : Below w.heap.size w (((((w2.setCell ⟨w.heap.size, 0, none⟩ (.string s.tx)).setCell ⟨w.heap.size, 1, none⟩ (.int .i64 s.rd)).setCell ⟨w.heap.size, 2, none⟩ (.bool s.en)).setCell ⟨w.heap.size, 3, none⟩ (.bool s.dn)).setCell ⟨w.heap.size, 4, none⟩ (.bool s.sn)) := by
    iterate 5 (refine Below.setCell ?_ (by dsimp only; omega) _)
    exact b0
  generalize (((((w2.setCell ⟨w.heap.size, 0, none⟩ (.string s.tx)).setCell ⟨w.heap.size, 1, none⟩ (.int .i64 s.rd)).setCell ⟨w.heap.size, 2, none⟩ (.bool s.en)).setCell ⟨w.heap.size, 3, none⟩ (.bool s.dn)).setCell ⟨w.heap.size, 4, none⟩ (.bool s.sn)) = W4 at *
  have s0 := r2.cell (i := 0) rfl; have s1 := r2.cell (i := 1) rfl; have s2 := r2.cell (i := 2) rfl; have s3 := r2.cell (i := 3) rfl; have s4 := r2.cell (i := 4) rfl
  refine bodyPost_ret (v := .agg #[.string s.tx, .int .i64 s.rd, .bool s.en, .bool s.dn, .bool s.sn]) (by rw [results_cell1 rfl]; clear r2 bE z0 b0 a0 a1 a2 a3 a4 y0 y1 y2 y3 y4; go_simp; done) rfl ⟨s, hz, rfl, bE⟩

set_option maxRecDepth 10000 in
set_option maxHeartbeats 8000000 in
theorem drawTellEnd (a : Option Addr) (len cap : Nat) (w : World) (hb : Draw.Bytes w a len) (hl : len ≤ 4096) :
    Calls Tryd.prog 15 #[.slice a len cap] w fun x w' => ∃ (s : Sm) (b : Bool), Sz s ∧ x = .returned (.tuple #[s.v, .bool b]) ∧ Below w.heap.size w w' := by
  have hmix := Tak.mix
  have z0 : Var 25 (w.alloc (.cells #[.string ⟨#[]⟩, .int .i64 0, .bool false, .bool false, .bool false] 25)) w.heap.size [.string ⟨#[]⟩, .int .i64 0, .bool false, .bool false, .bool false] := Var.new w _
  have b0 : Below w.heap.size w (w.alloc (.cells #[.string ⟨#[]⟩, .int .i64 0, .bool false, .bool false, .bool false] 25)) := (Below.refl _ _).alloc (Nat.le_refl _) _
  have hb0 := hb.below b0 (Nat.le_refl _)
  go_enter Tryd.func15, Tryd.ntmps15
  go_wp2_with fail
  refine (Draw.l1New a len cap _ hb0 hl).mono ?_
  rintro x w1 ⟨rfl, hh, hw1⟩
  have c1 : Draw.Cur w1 (w.heap.size + 1) := by rw [hw1]; simpa using Draw.cur_new hb0 hl hh _
  have b1 : Below (w.heap.size + 1) (w.alloc (.cells #[.string ⟨#[]⟩, .int .i64 0, .bool false, .bool false, .bool false] 25)) w1 := by rw [hw1]; exact (Below.refl _ _).alloc (by simp) _
  replace z0 := z0.later (b1.mono (by simp))
  replace b0 := b0.trans (b1.mono (by simp))
  clear b1 hw1 hb0
  go_wp2_with fail
  refine (l15Draw _ _ c1).mono ?_
  rintro x w2 ⟨s, hz, rfl, c2, k2⟩
  have v5 : Var 25 (w2.alloc (.cells #[.string s.tx, .int .i64 s.rd, .bool s.en, .bool s.dn, .bool s.sn] 25)) w2.heap.size [.string s.tx, .int .i64 s.rd, .bool s.en, .bool s.dn, .bool s.sn] := Var.new w2 _
  replace z0 := (z0.kept k2 (by omega)).alloc (.cells #[.string s.tx, .int .i64 s.rd, .bool s.en, .bool s.dn, .bool s.sn] 25)
  replace b0 := (b0.trans (k2.below (by omega) b0.size)).alloc (b0.trans (k2.below (by omega) b0.size)).size (.cells #[.string s.tx, .int .i64 s.rd, .bool s.en, .bool s.dn, .bool s.sn] 25)
  have hk5 : w.heap.size + 1 < w2.heap.size := c2.lt
  replace c2 := c2.alloc (.cells #[.string s.tx, .int .i64 s.rd, .bool s.en, .bool s.dn, .bool s.sn] 25)
  clear c1 k2
  go_upto_region 3 with (fail)
  generalize w2.alloc (.cells #[.string s.tx, .int .i64 s.rd, .bool s.en, .bool s.dn, .bool s.sn] 25) = V at *
  generalize w2.heap.size = k5 at *
  refine RegJ.wp_region_J (W := fun d wr => Var 25 wr k5 [.string s.tx, .int .i64 s.rd, .bool s.en, .bool s.dn, .bool s.sn] ∧ (d 3 = false → Var 25 wr w.heap.size [.string ⟨#[]⟩, .int .i64 0, .bool false, .bool false, .bool false] ∧ Draw.Cur wr (w.heap.size + 1)) ∧ (d 3 = true → Var 25 wr w.heap.size [.string s.tx, .int .i64 s.rd, .bool s.en, .bool s.dn, .bool s.sn]) ∧ Below w.heap.size w wr) (RegJ.Tell (w.heap.size + 1) [.eq s.v, .eq (.pointer (some ⟨w.heap.size + 1, 0, none⟩)), .sat (fun v => ∃ b : Bool, v = .bool b), .any, .sat (fun v => ∃ b : Bool, v = .bool b)]) [some 10, some 11, some 12, none, some 3] (F := ?_) (is := [0, 1, 2, 3, 4]) hmix (by kernel_rfl) (by kernel_rfl) (by kernel_rfl) (by kernel_rfl) (fun x => ?_) (⟨v5.drew, fun _ => ⟨z0.drew, c2.drew⟩, fun hd => (by cases hd), b0.drew⟩) ?_ (fun d x wR hWR hdR hJR => ?_)
  rotate_left 1
  focus (simp only [RegJ.lay, Act.put, Nat.reduceAdd, Nat.zero_add, List.getElem_toArray, List.getElem_cons_zero, List.getElem_cons_succ, List.setIfInBounds_toArray, List.set_cons_zero, List.set_cons_succ]; rfl)
  focus
    refine RegJ.Steps.cons (RegJ.StepAt.mk rfl (fun d x w1 hW1 hJ1 hx1 K hK => ?_)) (RegJ.Steps.cons (RegJ.StepAt.mk rfl (fun d x w1 hW1 hJ1 hx1 K hK => ?_)) (RegJ.Steps.cons (RegJ.StepAt.mk rfl (fun d x w1 hW1 hJ1 hx1 K hK => ?_)) (RegJ.Steps.cons (RegJ.StepAt.mk rfl (fun d x w1 hW1 hJ1 hx1 K hK => ?_)) (RegJ.Steps.cons (RegJ.StepAt.mk rfl (fun d x w1 hW1 hJ1 hx1 K hK => ?_)) (RegJ.Steps.nil)))))
    focus (simp only [List.getElem_toArray, List.getElem_cons_succ, List.getElem_cons_zero] at hK; have e0 := hW1.1.cell (i := 0) rfl; have e1 := hW1.1.cell (i := 1) rfl; have e2 := hW1.1.cell (i := 2) rfl; have e3 := hW1.1.cell (i := 3) rfl; have e4 := hW1.1.cell (i := 4) rfl; go_simp; exact hK.out _ _ ⟨hW1.1, fun hd => hW1.2.1 (by simpa using hd), fun hd => hW1.2.2.1 (by simpa using hd), hW1.2.2.2⟩ RegJ.Tell.same rfl)
    focus (simp only [List.getElem_toArray, List.getElem_cons_succ, List.getElem_cons_zero] at hK; go_simp; exact hK.out _ _ ⟨hW1.1, fun hd => hW1.2.1 (by simpa using hd), fun hd => hW1.2.2.1 (by simpa using hd), hW1.2.2.2⟩ RegJ.Tell.same rfl)
    focus (simp only [List.getElem_toArray, List.getElem_cons_succ, List.getElem_cons_zero] at hK; have h6 := hW1.2.1 (hx1.out 3 (.inr (by kernel_rfl))).1; have j1 : x 1 = _ := (hJ1.out 1 (by kernel_rfl)); rw [j1] at hK; go_simp; refine (Draw.l1Once _ _ _ h6.2).mono ?_; rintro e wa ⟨b, rfl, cua, ka⟩; go_simp; exact hK.out _ _ ⟨hW1.1.kept ka (by omega), fun _ => ⟨h6.1.kept ka (by omega), cua⟩, fun hd => absurd hd (by simp [(hx1.out 3 (.inr (by kernel_rfl))).1]), hW1.2.2.2.trans (ka.below (by omega) hW1.2.2.2.size)⟩ (RegJ.Tell.keep ka) ⟨b, rfl⟩)
    focus (simp only [List.getElem_toArray, List.getElem_cons_succ, List.getElem_cons_zero] at hK; have j0 : x 0 = _ := (hJ1.out 0 (by kernel_rfl)); rw [j0] at hK; have vz := (hW1.2.1 (hx1.out 3 (.inl rfl)).1).1; have e0 := vz.cell (i := 0) rfl; have e1 := vz.cell (i := 1) rfl; have e2 := vz.cell (i := 2) rfl; have e3 := vz.cell (i := 3) rfl; have e4 := vz.cell (i := 4) rfl; have f0 := vz.free 0; have f1 := vz.free 1; have f2 := vz.free 2; have f3 := vz.free 3; have f4 := vz.free 4; go_simp; exact hK.out undef _ ⟨hW1.1.kept (put5 _ _ s) (by omega), fun hd => absurd hd (by simp), fun _ => (((((vz.set 0 _).set 1 _).set 2 _).set 3 _).set 4 _), (hW1.2.2.2.trans ((put5 _ _ s).below (Nat.le_refl _) hW1.2.2.2.size))⟩ (RegJ.Tell.stored (k0 := w.heap.size) (by kernel_rfl) (put5 _ _ s) (by omega)) trivial)
    focus (simp only [List.getElem_toArray, List.getElem_cons_succ, List.getElem_cons_zero] at hK; obtain ⟨b, j5⟩ := (hJ1.out 2 (by kernel_rfl)); rw [j5] at hK; go_simp; exact hK.out _ _ ⟨hW1.1, fun hd => hW1.2.1 (by simpa using hd), fun hd => hW1.2.2.1 (by simpa using hd), hW1.2.2.2⟩ RegJ.Tell.same ⟨b, rfl⟩)
  obtain ⟨b, j5⟩ := hJR 4 (by simp)
  rw [j5]
  clear hJR
  obtain ⟨-, h6, h7, bE⟩ := hWR
  have r2 := h7 (hdR 3 (by simp))
  clear h6 h7 hdR v5 z0 b0 c2
  have s0 := r2.cell (i := 0) rfl; have s1 := r2.cell (i := 1) rfl; have s2 := r2.cell (i := 2) rfl; have s3 := r2.cell (i := 3) rfl; have s4 := r2.cell (i := 4) rfl
  go_wp2_with fail
  refine bodyPost_ret (v := .tuple #[.agg #[.string s.tx, .int .i64 s.rd, .bool s.en, .bool s.dn, .bool s.sn], .bool b]) (by rw [res_cell_tmpS rfl]; clear r2 bE; go_simp; done) rfl ⟨s, b, hz, rfl, bE⟩

set_option maxRecDepth 10000 in
set_option maxHeartbeats 8000000 in
theorem drawGrew (a : Option Addr) (len cap : Nat) (w : World) (hb : Draw.Bytes w a len) (hl : len ≤ 4096) :
    Calls Tryd.prog 11 #[.slice a len cap] w fun x w' => ∃ (s : Sm) (b : ByteArray), Sz s ∧ b.size ≤ 4096 ∧ x = .returned (.tuple #[s.v, .string b]) ∧ Below w.heap.size w w' := by
  have hmix := Tak.mix
  have z0 : Var 25 (w.alloc (.cells #[.string ⟨#[]⟩, .int .i64 0, .bool false, .bool false, .bool false] 25)) w.heap.size [.string ⟨#[]⟩, .int .i64 0, .bool false, .bool false, .bool false] := Var.new w _
  have b0 : Below w.heap.size w (w.alloc (.cells #[.string ⟨#[]⟩, .int .i64 0, .bool false, .bool false, .bool false] 25)) := (Below.refl _ _).alloc (Nat.le_refl _) _
  have hb0 := hb.below b0 (Nat.le_refl _)
  go_enter Tryd.func11, Tryd.ntmps11
  go_wp2_with fail
  refine (Draw.l1New a len cap _ hb0 hl).mono ?_
  rintro x w1 ⟨rfl, hh, hw1⟩
  have c1 : Draw.Cur w1 (w.heap.size + 1) := by rw [hw1]; simpa using Draw.cur_new hb0 hl hh _
  have b1 : Below (w.heap.size + 1) (w.alloc (.cells #[.string ⟨#[]⟩, .int .i64 0, .bool false, .bool false, .bool false] 25)) w1 := by rw [hw1]; exact (Below.refl _ _).alloc (by simp) _
  replace z0 := z0.later (b1.mono (by simp))
  replace b0 := b0.trans (b1.mono (by simp))
  clear b1 hw1 hb0
  go_wp2_with fail
  refine (l15Draw _ _ c1).mono ?_
  rintro x w2 ⟨s, hz, rfl, c2, k2⟩
  have v5 : Var 25 (w2.alloc (.cells #[.string s.tx, .int .i64 s.rd, .bool s.en, .bool s.dn, .bool s.sn] 25)) w2.heap.size [.string s.tx, .int .i64 s.rd, .bool s.en, .bool s.dn, .bool s.sn] := Var.new w2 _
  replace z0 := (z0.kept k2 (by omega)).alloc (.cells #[.string s.tx, .int .i64 s.rd, .bool s.en, .bool s.dn, .bool s.sn] 25)
  replace b0 := (b0.trans (k2.below (by omega) b0.size)).alloc (b0.trans (k2.below (by omega) b0.size)).size (.cells #[.string s.tx, .int .i64 s.rd, .bool s.en, .bool s.dn, .bool s.sn] 25)
  have hk5 : w.heap.size + 1 < w2.heap.size := c2.lt
  replace c2 := c2.alloc (.cells #[.string s.tx, .int .i64 s.rd, .bool s.en, .bool s.dn, .bool s.sn] 25)
  clear c1 k2
  go_upto_region 3 with (fail)
  generalize w2.alloc (.cells #[.string s.tx, .int .i64 s.rd, .bool s.en, .bool s.dn, .bool s.sn] 25) = V at *
  generalize w2.heap.size = k5 at *
  refine RegJ.wp_region_J (W := fun d wr => Var 25 wr k5 [.string s.tx, .int .i64 s.rd, .bool s.en, .bool s.dn, .bool s.sn] ∧ (d 3 = false → Var 25 wr w.heap.size [.string ⟨#[]⟩, .int .i64 0, .bool false, .bool false, .bool false] ∧ Draw.Cur wr (w.heap.size + 1)) ∧ (d 3 = true → Var 25 wr w.heap.size [.string s.tx, .int .i64 s.rd, .bool s.en, .bool s.dn, .bool s.sn]) ∧ Below w.heap.size w wr) (RegJ.Tell (w.heap.size + 1) [.eq s.v, .eq (.pointer (some ⟨w.heap.size + 1, 0, none⟩)), .sat (fun v => ∃ b : ByteArray, b.size ≤ 4096 ∧ v = .string b), .any, .sat (fun v => ∃ b : ByteArray, b.size ≤ 4096 ∧ v = .string b)]) [some 10, some 11, some 12, none, some 3] (F := ?_) (is := [0, 1, 2, 3, 4]) hmix (by kernel_rfl) (by kernel_rfl) (by kernel_rfl) (by kernel_rfl) (fun x => ?_) (⟨v5.drew, fun _ => ⟨z0.drew, c2.drew⟩, fun hd => (by cases hd), b0.drew⟩) ?_ (fun d x wR hWR hdR hJR => ?_)
  rotate_left 1
  focus (simp only [RegJ.lay, Act.put, Nat.reduceAdd, Nat.zero_add, List.getElem_toArray, List.getElem_cons_zero, List.getElem_cons_succ, List.setIfInBounds_toArray, List.set_cons_zero, List.set_cons_succ]; rfl)
  focus
    refine RegJ.Steps.cons (RegJ.StepAt.mk rfl (fun d x w1 hW1 hJ1 hx1 K hK => ?_)) (RegJ.Steps.cons (RegJ.StepAt.mk rfl (fun d x w1 hW1 hJ1 hx1 K hK => ?_)) (RegJ.Steps.cons (RegJ.StepAt.mk rfl (fun d x w1 hW1 hJ1 hx1 K hK => ?_)) (RegJ.Steps.cons (RegJ.StepAt.mk rfl (fun d x w1 hW1 hJ1 hx1 K hK => ?_)) (RegJ.Steps.cons (RegJ.StepAt.mk rfl (fun d x w1 hW1 hJ1 hx1 K hK => ?_)) (RegJ.Steps.nil)))))
    focus (simp only [List.getElem_toArray, List.getElem_cons_succ, List.getElem_cons_zero] at hK; have e0 := hW1.1.cell (i := 0) rfl; have e1 := hW1.1.cell (i := 1) rfl; have e2 := hW1.1.cell (i := 2) rfl; have e3 := hW1.1.cell (i := 3) rfl; have e4 := hW1.1.cell (i := 4) rfl; go_simp; exact hK.out _ _ ⟨hW1.1, fun hd => hW1.2.1 (by simpa using hd), fun hd => hW1.2.2.1 (by simpa using hd), hW1.2.2.2⟩ RegJ.Tell.same rfl)
    focus (simp only [List.getElem_toArray, List.getElem_cons_succ, List.getElem_cons_zero] at hK; go_simp; exact hK.out _ _ ⟨hW1.1, fun hd => hW1.2.1 (by simpa using hd), fun hd => hW1.2.2.1 (by simpa using hd), hW1.2.2.2⟩ RegJ.Tell.same rfl)
    focus (simp only [List.getElem_toArray, List.getElem_cons_succ, List.getElem_cons_zero] at hK; have h6 := hW1.2.1 (hx1.out 3 (.inr (by kernel_rfl))).1; have j1 : x 1 = _ := (hJ1.out 1 (by kernel_rfl)); rw [j1] at hK; go_simp; refine (Draw.l1DrawText _ ⟨#[97, 98]⟩ 5 _ h6.2 (by decide) (by decide) (by decide) (by decide)).mono ?_; rintro e wa ⟨b, hb5, rfl, cua, ka⟩; go_simp; exact hK.out _ _ ⟨hW1.1.kept ka (by omega), fun _ => ⟨h6.1.kept ka (by omega), cua⟩, fun hd => absurd hd (by simp [(hx1.out 3 (.inr (by kernel_rfl))).1]), hW1.2.2.2.trans (ka.below (by omega) hW1.2.2.2.size)⟩ (RegJ.Tell.keep ka) ⟨b, by omega, rfl⟩)
    focus (simp only [List.getElem_toArray, List.getElem_cons_succ, List.getElem_cons_zero] at hK; have j0 : x 0 = _ := (hJ1.out 0 (by kernel_rfl)); rw [j0] at hK; have vz := (hW1.2.1 (hx1.out 3 (.inl rfl)).1).1; have e0 := vz.cell (i := 0) rfl; have e1 := vz.cell (i := 1) rfl; have e2 := vz.cell (i := 2) rfl; have e3 := vz.cell (i := 3) rfl; have e4 := vz.cell (i := 4) rfl; have f0 := vz.free 0; have f1 := vz.free 1; have f2 := vz.free 2; have f3 := vz.free 3; have f4 := vz.free 4; go_simp; exact hK.out undef _ ⟨hW1.1.kept (put5 _ _ s) (by omega), fun hd => absurd hd (by simp), fun _ => (((((vz.set 0 _).set 1 _).set 2 _).set 3 _).set 4 _), (hW1.2.2.2.trans ((put5 _ _ s).below (Nat.le_refl _) hW1.2.2.2.size))⟩ (RegJ.Tell.stored (k0 := w.heap.size) (by kernel_rfl) (put5 _ _ s) (by omega)) trivial)
    focus (simp only [List.getElem_toArray, List.getElem_cons_succ, List.getElem_cons_zero] at hK; obtain ⟨b, hb5, j5⟩ := (hJ1.out 2 (by kernel_rfl)); rw [j5] at hK; go_simp; exact hK.out _ _ ⟨hW1.1, fun hd => hW1.2.1 (by simpa using hd), fun hd => hW1.2.2.1 (by simpa using hd), hW1.2.2.2⟩ RegJ.Tell.same ⟨b, hb5, rfl⟩)
  obtain ⟨b, hb5, j5⟩ := hJR 4 (by simp)
  rw [j5]
  clear hJR
  obtain ⟨-, h6, h7, bE⟩ := hWR
  have r2 := h7 (hdR 3 (by simp))
  clear h6 h7 hdR v5 z0 b0 c2
  have s0 := r2.cell (i := 0) rfl; have s1 := r2.cell (i := 1) rfl; have s2 := r2.cell (i := 2) rfl; have s3 := r2.cell (i := 3) rfl; have s4 := r2.cell (i := 4) rfl
  go_wp2_with fail
  refine bodyPost_ret (v := .tuple #[.agg #[.string s.tx, .int .i64 s.rd, .bool s.en, .bool s.dn, .bool s.sn], .string b]) (by rw [res_cell_tmpS rfl]; clear r2 bE; go_simp; done) rfl ⟨s, b, hz, hb5, rfl, bE⟩

set_option maxRecDepth 10000 in
set_option maxHeartbeats 8000000 in
theorem drawWasRead (a : Option Addr) (len cap : Nat) (w : World) (hb : Draw.Bytes w a len) (hl : len ≤ 4096) :
    Calls Tryd.prog 9 #[.slice a len cap] w fun x w' => ∃ (s : Sm) (b : ByteArray), Sz s ∧ b.size ≤ 4096 ∧ x = .returned (.tuple #[s.v, .string b]) ∧ Below w.heap.size w w' := by
  have hmix := Tak.mix
  have z0 : Var 25 (w.alloc (.cells #[.string ⟨#[]⟩, .int .i64 0, .bool false, .bool false, .bool false] 25)) w.heap.size [.string ⟨#[]⟩, .int .i64 0, .bool false, .bool false, .bool false] := Var.new w _
  have b0 : Below w.heap.size w (w.alloc (.cells #[.string ⟨#[]⟩, .int .i64 0, .bool false, .bool false, .bool false] 25)) := (Below.refl _ _).alloc (Nat.le_refl _) _
  have hb0 := hb.below b0 (Nat.le_refl _)
  go_enter Tryd.func9, Tryd.ntmps9
  go_wp2_with fail
  refine (Draw.l1New a len cap _ hb0 hl).mono ?_
  rintro x w1 ⟨rfl, hh, hw1⟩
  have c1 : Draw.Cur w1 (w.heap.size + 1) := by rw [hw1]; simpa using Draw.cur_new hb0 hl hh _
  have b1 : Below (w.heap.size + 1) (w.alloc (.cells #[.string ⟨#[]⟩, .int .i64 0, .bool false, .bool false, .bool false] 25)) w1 := by rw [hw1]; exact (Below.refl _ _).alloc (by simp) _
  replace z0 := z0.later (b1.mono (by simp))
  replace b0 := b0.trans (b1.mono (by simp))
  clear b1 hw1 hb0
  go_wp2_with fail
  refine (l15Draw _ _ c1).mono ?_
  rintro x w2 ⟨s, hz, rfl, c2, k2⟩
  have v5 : Var 25 (w2.alloc (.cells #[.string s.tx, .int .i64 s.rd, .bool s.en, .bool s.dn, .bool s.sn] 25)) w2.heap.size [.string s.tx, .int .i64 s.rd, .bool s.en, .bool s.dn, .bool s.sn] := Var.new w2 _
  replace z0 := (z0.kept k2 (by omega)).alloc (.cells #[.string s.tx, .int .i64 s.rd, .bool s.en, .bool s.dn, .bool s.sn] 25)
  replace b0 := (b0.trans (k2.below (by omega) b0.size)).alloc (b0.trans (k2.below (by omega) b0.size)).size (.cells #[.string s.tx, .int .i64 s.rd, .bool s.en, .bool s.dn, .bool s.sn] 25)
  have hk5 : w.heap.size + 1 < w2.heap.size := c2.lt
  replace c2 := c2.alloc (.cells #[.string s.tx, .int .i64 s.rd, .bool s.en, .bool s.dn, .bool s.sn] 25)
  clear c1 k2
  go_upto_region 3 with (fail)
  generalize w2.alloc (.cells #[.string s.tx, .int .i64 s.rd, .bool s.en, .bool s.dn, .bool s.sn] 25) = V at *
  generalize w2.heap.size = k5 at *
  have e1 := v5.cell (i := 1) rfl
  go_wp2_with fail
  refine (Draw.l1Max 0 s.rd _).mono ?_
  rintro x wm ⟨rfl, rfl⟩
  obtain ⟨m, hm, m0, m1⟩ : ∃ m : Int, (if s.rd < 0 then 0 else s.rd) = m ∧ 0 ≤ m ∧ m ≤ 2002 := ⟨_, rfl, by split <;> omega, by have := hz.2.2; split <;> omega⟩
  rw [hm]
  clear hm
  go_wp2_with fail
  refine (Draw.l1Below _ _ _ c2).mono ?_
  rintro x w3 ⟨y, y0, y1, rfl, c3, k3⟩
  replace v5 := v5.kept k3 (by omega)
  replace z0 := z0.kept k3 (by omega)
  replace b0 := b0.trans (k3.below (by omega) b0.size)
  clear c2 k3 e1
  go_wp2_with fail
  refine (Draw.l5Text m y _ m0 (by omega) y0 (by omega)).mono ?_
  rintro x w4 ⟨t, ht, rfl, b4⟩
  replace v5 := v5.later b4
  replace z0 := z0.later b4
  replace c3 := c3.below b4 (Nat.le_refl _)
  replace b0 := b0.trans (b4.mono b0.size)
  clear b4
  have ht' : t.size ≤ 4096 := by omega
  clear ht
  go_wp2_with fail
  refine (Draw.l1Once _ _ _ c3).mono ?_
  rintro x w5 ⟨q, rfl, c5, k5'⟩
  replace v5 := v5.kept k5' (by omega)
  replace z0 := z0.kept k5' (by omega)
  replace b0 := b0.trans (k5'.below (by omega) b0.size)
  clear c3 k5'
  cases q
  case false =>
    have e0 := v5.cell (i := 0) rfl; have e1 := v5.cell (i := 1) rfl; have e2 := v5.cell (i := 2) rfl; have e3 := v5.cell (i := 3) rfl; have e4 := v5.cell (i := 4) rfl
    have a0 := z0.cell (i := 0) rfl; have a1 := z0.cell (i := 1) rfl; have a2 := z0.cell (i := 2) rfl; have a3 := z0.cell (i := 3) rfl; have a4 := z0.cell (i := 4) rfl
    have y0 := z0.free 0; have y1 := z0.free 1; have y2 := z0.free 2; have y3 := z0.free 3; have y4 := z0.free 4
    go_wp2_with fail
    have r2 : Var 25 (((((w5.setCell ⟨w.heap.size, 0, none⟩ (.string s.tx)).setCell ⟨w.heap.size, 1, none⟩ (.int .i64 s.rd)).setCell ⟨w.heap.size, 2, none⟩ (.bool s.en)).setCell ⟨w.heap.size, 3, none⟩ (.bool s.dn)).setCell ⟨w.heap.size, 4, none⟩ (.bool s.sn)) w.heap.size [.string s.tx, .int .i64 s.rd, .bool s.en, .bool s.dn, .bool s.sn] := (((((z0.set 0 _).set 1 _).set 2 _).set 3 _).set 4 _)
    have bE : Below w.heap.size w (((((w5.setCell ⟨w.heap.size, 0, none⟩ (.string s.tx)).setCell ⟨w.heap.size, 1, none⟩ (.int .i64 s.rd)).setCell ⟨w.heap.size, 2, none⟩ (.bool s.en)).setCell ⟨w.heap.size, 3, none⟩ (.bool s.dn)).setCell ⟨w.heap.size, 4, none⟩ (.bool s.sn)) := by
      iterate 5 (refine Below.setCell ?_ (by dsimp only; omega) _)
      exact b0
    generalize (((((w5.setCell ⟨w.heap.size, 0, none⟩ (.string s.tx)).setCell ⟨w.heap.size, 1, none⟩ (.int .i64 s.rd)).setCell ⟨w.heap.size, 2, none⟩ (.bool s.en)).setCell ⟨w.heap.size, 3, none⟩ (.bool s.dn)).setCell ⟨w.heap.size, 4, none⟩ (.bool s.sn)) = W4 at *
    have s0 := r2.cell (i := 0) rfl; have s1 := r2.cell (i := 1) rfl; have s2 := r2.cell (i := 2) rfl; have s3 := r2.cell (i := 3) rfl; have s4 := r2.cell (i := 4) rfl
    refine bodyPost_ret (v := .tuple #[.agg #[.string s.tx, .int .i64 s.rd, .bool s.en, .bool s.dn, .bool s.sn], .string t]) (by rw [res_cell_tmpS rfl]; clear r2 bE v5 e0 e1 e2 e3 e4 z0 b0 a0 a1 a2 a3 a4 y0 y1 y2 y3 y4; go_simp; done) rfl ⟨s, t, hz, ht', rfl, bE⟩

  case true =>
    go_wp2_with fail
    refine (Draw.l1DrawText _ ⟨#[97, 98]⟩ 3 _ c5 (by decide) (by decide) (by decide) (by decide)).mono ?_
    rintro x w6 ⟨u, hu, rfl, c6, k6⟩
    replace v5 := v5.kept k6 (by omega)
    replace z0 := z0.kept k6 (by omega)
    replace b0 := b0.trans (k6.below (by omega) b0.size)
    clear c5 c6 k6
    have e0 := v5.cell (i := 0) rfl; have e1 := v5.cell (i := 1) rfl; have e2 := v5.cell (i := 2) rfl; have e3 := v5.cell (i := 3) rfl; have e4 := v5.cell (i := 4) rfl
    have a0 := z0.cell (i := 0) rfl; have a1 := z0.cell (i := 1) rfl; have a2 := z0.cell (i := 2) rfl; have a3 := z0.cell (i := 3) rfl; have a4 := z0.cell (i := 4) rfl
    have y0 := z0.free 0; have y1 := z0.free 1; have y2 := z0.free 2; have y3 := z0.free 3; have y4 := z0.free 4
    go_wp2_with fail
    have r2 : Var 25 (((((w6.setCell ⟨w.heap.size, 0, none⟩ (.string s.tx)).setCell ⟨w.heap.size, 1, none⟩ (.int .i64 s.rd)).setCell ⟨w.heap.size, 2, none⟩ (.bool s.en)).setCell ⟨w.heap.size, 3, none⟩ (.bool s.dn)).setCell ⟨w.heap.size, 4, none⟩ (.bool s.sn)) w.heap.size [.string s.tx, .int .i64 s.rd, .bool s.en, .bool s.dn, .bool s.sn] := (((((z0.set 0 _).set 1 _).set 2 _).set 3 _).set 4 _)
    have bE : Below w.heap.size w (((((w6.setCell ⟨w.heap.size, 0, none⟩ (.string s.tx)).setCell ⟨w.heap.size, 1, none⟩ (.int .i64 s.rd)).setCell ⟨w.heap.size, 2, none⟩ (.bool s.en)).setCell ⟨w.heap.size, 3, none⟩ (.bool s.dn)).setCell ⟨w.heap.size, 4, none⟩ (.bool s.sn)) := by
      iterate 5 (refine Below.setCell ?_ (by dsimp only; omega) _)
      exact b0
    generalize (((((w6.setCell ⟨w.heap.size, 0, none⟩ (.string s.tx)).setCell ⟨w.heap.size, 1, none⟩ (.int .i64 s.rd)).setCell ⟨w.heap.size, 2, none⟩ (.bool s.en)).setCell ⟨w.heap.size, 3, none⟩ (.bool s.dn)).setCell ⟨w.heap.size, 4, none⟩ (.bool s.sn)) = W4 at *
    have s0 := r2.cell (i := 0) rfl; have s1 := r2.cell (i := 1) rfl; have s2 := r2.cell (i := 2) rfl; have s3 := r2.cell (i := 3) rfl; have s4 := r2.cell (i := 4) rfl
    refine bodyPost_ret (v := .tuple #[.agg #[.string s.tx, .int .i64 s.rd, .bool s.en, .bool s.dn, .bool s.sn], .string u]) (by rw [res_cell_tmpS rfl]; clear r2 bE v5 e0 e1 e2 e3 e4 z0 b0 a0 a1 a2 a3 a4 y0 y1 y2 y3 y4; go_simp; done) rfl ⟨s, u, hz, by omega, rfl, bE⟩

end Go.Proofs.YtddicibpfmjgfaaDoor.Str
