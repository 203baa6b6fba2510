/- Draws of chapter 7: DrawSends, DrawTells, DrawNewHop; at most 4096 bytes. -/
import Derived.Test.YtonhjlhpppfcpaaDrawZ
namespace Go.Proofs.Ytonhjlhpppfcpaa.Hop
open Go.RowKit RowG
set_option linter.unusedVariables false
set_option linter.unusedSimpArgs false

theorem res_cell_tmp3 {fn : Func} {p u v s : Tmp} {ty : TypeId} (h : fn.results = #[.cell p ty, .tmp u, .tmp v, .tmp s]) (tmps : Array Value) (P : Program) (w : World) :
    (results fn tmps).run P w = ((asAddr (tmps.getD p undef)).run P w).andThen fun a w₁ => ((loadVar ty a).run P w₁).andThen fun r w₂ => .ok (.tuple #[r, tmps.getD u undef, tmps.getD v undef, tmps.getD s undef]) w₂ := by
  simp only [results, h]
  simp [Sem.run_bind, Result.andThen]
/-- A row of parts or letters that was made behind the cursor is not where the cursor is. -/
theorem own_cur {α : Type} {E : El α} {e : TypeId} {w : World} {n : Nat} {a : Option Addr} {cp : Nat} {l : List α} (o : E.Own e w (n + 2) a cp l) : ∀ x, a = some x → x.block ≠ n + 1 := by
  intro x hx
  have := (o.lt x hx).1
  omega

set_option maxRecDepth 10000 in
set_option maxHeartbeats 16000000 in
theorem drawSends (a : Option Addr) (len cap : Nat) (w : World) (hb : Draw.Bytes w a len) (hl : len ≤ 4096) :
    Calls Try.prog 6 #[.slice a len cap] w fun e w' => ∃ (h : Hp) (aT : Option Addr) (cT : Nat) (aW : Option Addr) (cW : Nat) (r p n : Int), h.Sm ∧ h.ws.length ≤ 31 ∧ e = .returned (.tuple #[h.v aT cT aW cW, .int .i64 r, .int .i64 p, .int .i64 n]) ∧ Tak.partE.Own 55 w' w.heap.size aT cT h.t.l ∧ letE.Own 45 w' w.heap.size aW cW h.ws ∧ Below w.heap.size w w' := by
  have hmix := mix
  have z2 : Var 31 (w.alloc (.cells #[.int .i64 0, .string ⟨#[]⟩, .int .i64 0, .int .i64 0, .bool false, .bool false, .int .i64 0, .string ⟨#[]⟩, .slice none 0 0, .int .i64 0, .int .i64 0, .bool false, .slice none 0 0] 31)) w.heap.size [.int .i64 0, .string ⟨#[]⟩, .int .i64 0, .int .i64 0, .bool false, .bool false, .int .i64 0, .string ⟨#[]⟩, .slice none 0 0, .int .i64 0, .int .i64 0, .bool false, .slice none 0 0] := Var.new w _
  have b0 : Below w.heap.size w (w.alloc (.cells #[.int .i64 0, .string ⟨#[]⟩, .int .i64 0, .int .i64 0, .bool false, .bool false, .int .i64 0, .string ⟨#[]⟩, .slice none 0 0, .int .i64 0, .int .i64 0, .bool false, .slice none 0 0] 31)) := (Below.refl _ _).alloc (Nat.le_refl _) _
  have hs0 : (w.alloc (.cells #[.int .i64 0, .string ⟨#[]⟩, .int .i64 0, .int .i64 0, .bool false, .bool false, .int .i64 0, .string ⟨#[]⟩, .slice none 0 0, .int .i64 0, .int .i64 0, .bool false, .slice none 0 0] 31)).heap.size = w.heap.size + 1 := by simp
  have hb0 := hb.below b0 (Nat.le_refl _)
  go_enter Try.func6, Try.ntmps6
  go_wp2_with fail
  generalize w.alloc (.cells #[.int .i64 0, .string ⟨#[]⟩, .int .i64 0, .int .i64 0, .bool false, .bool false, .int .i64 0, .string ⟨#[]⟩, .slice none 0 0, .int .i64 0, .int .i64 0, .bool false, .slice none 0 0] 31) = W0 at *
  refine (Draw.l1New a len cap _ hb0 hl).mono ?_
  rintro x w1 ⟨rfl, hh, hw1⟩
  have c1 : Draw.Cur w1 W0.heap.size := by rw [hw1]; exact Draw.cur_new hb0 hl hh _
  have b1 : Below W0.heap.size W0 w1 := by rw [hw1]; exact (Below.refl _ _).alloc (Nat.le_refl _) _
  have h1 : W0.heap.size < w1.heap.size := by rw [hw1]; simp
  have z1 := z2.later b1
  have B1 := b0.trans (b1.mono b0.size)
  clear hw1 z2 b1 hb0
  rw [hs0] at c1 h1
  rw [hs0]
  clear hs0 b0
  go_wp2_with fail
  refine (l7DrawAny _ _ c1).mono ?_
  rintro x w2 ⟨h, aT, cT, aW, cW, hsm, hwl, rfl, o1, o2, cu2, k2⟩
  have z2 := (z1.kept k2 (by omega)).alloc (.cells #[.int .i64 h.g.ba, .string h.g.bs, .int .i64 h.g.cp, .int .i64 h.g.lm, .bool h.g.en, .bool h.g.dn, .int .i64 h.t.nx, .string h.t.bs, .slice aT h.t.l.length cT, .int .i64 h.t.cp, .int .i64 h.t.fi, .bool h.t.en, .slice aW h.ws.length cW] 31)
  have B2 : Below w.heap.size w w2 := B1.trans (k2.below (by omega) B1.size)
  have B3 : Below w.heap.size w (w2.alloc (.cells #[.int .i64 h.g.ba, .string h.g.bs, .int .i64 h.g.cp, .int .i64 h.g.lm, .bool h.g.en, .bool h.g.dn, .int .i64 h.t.nx, .string h.t.bs, .slice aT h.t.l.length cT, .int .i64 h.t.cp, .int .i64 h.t.fi, .bool h.t.en, .slice aW h.ws.length cW] 31)) := B2.alloc B2.size _
  have v7 : Var 31 (w2.alloc (.cells #[.int .i64 h.g.ba, .string h.g.bs, .int .i64 h.g.cp, .int .i64 h.g.lm, .bool h.g.en, .bool h.g.dn, .int .i64 h.t.nx, .string h.t.bs, .slice aT h.t.l.length cT, .int .i64 h.t.cp, .int .i64 h.t.fi, .bool h.t.en, .slice aW h.ws.length cW] 31)) w2.heap.size [.int .i64 h.g.ba, .string h.g.bs, .int .i64 h.g.cp, .int .i64 h.g.lm, .bool h.g.en, .bool h.g.dn, .int .i64 h.t.nx, .string h.t.bs, .slice aT h.t.l.length cT, .int .i64 h.t.cp, .int .i64 h.t.fi, .bool h.t.en, .slice aW h.ws.length cW] := Var.new w2 _
  have cu3 := cu2.alloc (.cells #[.int .i64 h.g.ba, .string h.g.bs, .int .i64 h.g.cp, .int .i64 h.g.lm, .bool h.g.en, .bool h.g.dn, .int .i64 h.t.nx, .string h.t.bs, .slice aT h.t.l.length cT, .int .i64 h.t.cp, .int .i64 h.t.fi, .bool h.t.en, .slice aW h.ws.length cW] 31)
  have p3 : Tak.partE.Own 55 (w2.alloc (.cells #[.int .i64 h.g.ba, .string h.g.bs, .int .i64 h.g.cp, .int .i64 h.g.lm, .bool h.g.en, .bool h.g.dn, .int .i64 h.t.nx, .string h.t.bs, .slice aT h.t.l.length cT, .int .i64 h.t.cp, .int .i64 h.t.fi, .bool h.t.en, .slice aW h.ws.length cW] 31)) (w.heap.size + 2) aT cT h.t.l := (o1.mono (by omega)).alloc _
  have q3 : letE.Own 45 (w2.alloc (.cells #[.int .i64 h.g.ba, .string h.g.bs, .int .i64 h.g.cp, .int .i64 h.g.lm, .bool h.g.en, .bool h.g.dn, .int .i64 h.t.nx, .string h.t.bs, .slice aT h.t.l.length cT, .int .i64 h.t.cp, .int .i64 h.t.fi, .bool h.t.en, .slice aW h.ws.length cW] 31)) (w.heap.size + 2) aW cW h.ws := (o2.mono (by omega)).alloc _
  have hk7 : w.heap.size + 1 < w2.heap.size := cu2.lt
  clear z1 B1 B2 o1 o2 cu2 k2 c1 h1
  go_upto_region 3 with (fail)
  generalize w2.alloc (.cells #[.int .i64 h.g.ba, .string h.g.bs, .int .i64 h.g.cp, .int .i64 h.g.lm, .bool h.g.en, .bool h.g.dn, .int .i64 h.t.nx, .string h.t.bs, .slice aT h.t.l.length cT, .int .i64 h.t.cp, .int .i64 h.t.fi, .bool h.t.en, .slice aW h.ws.length cW] 31) = W at *
  generalize w2.heap.size = k7 at *
  go_wp2_with fail
  refine (l1From _ _ _ _ cu3).mono ?_
  rintro x w3 ⟨r, rfl, cu4, k4⟩
  have v8 := v7.kept k4 (by omega)
  have z4 := z2.kept k4 (by omega)
  have B4 := B3.trans (k4.below (by omega) B3.size)
  have p4 := p3.kept k4 (own_cur p3)
  have q4 := q3.kept k4 (own_cur q3)
  clear v7 z2 B3 p3 q3 cu3 k4
  go_wp2_with fail
  refine RegJ.wp_region_J (W := fun d wr => Var 31 wr k7 [.int .i64 h.g.ba, .string h.g.bs, .int .i64 h.g.cp, .int .i64 h.g.lm, .bool h.g.en, .bool h.g.dn, .int .i64 h.t.nx, .string h.t.bs, .slice aT h.t.l.length cT, .int .i64 h.t.cp, .int .i64 h.t.fi, .bool h.t.en, .slice aW h.ws.length cW] ∧ Var 31 wr w.heap.size [.int .i64 0, .string ⟨#[]⟩, .int .i64 0, .int .i64 0, .bool false, .bool false, .int .i64 0, .string ⟨#[]⟩, .slice none 0 0, .int .i64 0, .int .i64 0, .bool false, .slice none 0 0] ∧ Draw.Cur wr (w.heap.size + 1) ∧ Below w.heap.size w wr ∧ Tak.partE.Own 55 wr (w.heap.size + 2) aT cT h.t.l ∧ letE.Own 45 wr (w.heap.size + 2) aW cW h.ws) (RegJ.Tell (w.heap.size + 1) [.eq (.pointer (some ⟨k7, 0, none⟩)), .eq (.pointer (some ⟨k7, 0, none⟩)), .eq (.int .i64 h.g.ba), .eq (.pointer (some ⟨w.heap.size + 1, 0, none⟩)), .eq (.pointer (some ⟨k7, 0, none⟩)), .eq (.pointer (some ⟨k7, 1, none⟩)), .eq (.string h.g.bs), .eq (.int .i64 h.g.bs.size), .num, .num, .num, .num]) [some 16, some 17, some 18, some 19, some 20, some 21, some 22, some 23, some 24, some 25, some 26, some 9] (F := ?_) (is := [0, 1, 2, 3, 4, 5, 6, 7, 8, 9, 10, 11]) hmix (by kernel_rfl) (by kernel_rfl) (by kernel_rfl) (by kernel_rfl) (fun x => ?_) (⟨v8.drew, z4.drew, cu4.drew, B4.drew, p4.drew, q4.drew⟩) ?_ (fun d x wR hWR hdR hJR => ?_)
  rotate_left 1
  focus (simp only [RegJ.lay, Act.put, Nat.reduceAdd, Nat.zero_add, List.getElem_toArray, List.getElem_cons_zero, List.getElem_cons_succ, List.setIfInBounds_toArray, List.set_cons_zero, List.set_cons_succ]; rfl)
  focus
    refine RegJ.Steps.cons (RegJ.StepAt.mk rfl (fun d x w1 hW1 hJ1 hx1 K hK => ?_)) (RegJ.Steps.cons (RegJ.StepAt.mk rfl (fun d x w1 hW1 hJ1 hx1 K hK => ?_)) (RegJ.Steps.cons (RegJ.StepAt.mk rfl (fun d x w1 hW1 hJ1 hx1 K hK => ?_)) (RegJ.Steps.cons (RegJ.StepAt.mk rfl (fun d x w1 hW1 hJ1 hx1 K hK => ?_)) (RegJ.Steps.cons (RegJ.StepAt.mk rfl (fun d x w1 hW1 hJ1 hx1 K hK => ?_)) (RegJ.Steps.cons (RegJ.StepAt.mk rfl (fun d x w1 hW1 hJ1 hx1 K hK => ?_)) (RegJ.Steps.cons (RegJ.StepAt.mk rfl (fun d x w1 hW1 hJ1 hx1 K hK => ?_)) (RegJ.Steps.cons (RegJ.StepAt.mk rfl (fun d x w1 hW1 hJ1 hx1 K hK => ?_)) (RegJ.Steps.cons (RegJ.StepAt.mk rfl (fun d x w1 hW1 hJ1 hx1 K hK => ?_)) (RegJ.Steps.cons (RegJ.StepAt.mk rfl (fun d x w1 hW1 hJ1 hx1 K hK => ?_)) (RegJ.Steps.cons (RegJ.StepAt.mk rfl (fun d x w1 hW1 hJ1 hx1 K hK => ?_)) (RegJ.Steps.cons (RegJ.StepAt.mk rfl (fun d x w1 hW1 hJ1 hx1 K hK => ?_)) (RegJ.Steps.nil))))))))))))
    focus (simp only [List.getElem_toArray, List.getElem_cons_succ, List.getElem_cons_zero] at hK; go_simp; exact hK.out _ _ hW1 RegJ.Tell.same rfl)
    focus (simp only [List.getElem_toArray, List.getElem_cons_succ, List.getElem_cons_zero] at hK; have j0 : x 0 = _ := (hJ1.out 0 (by kernel_rfl)); rw [j0] at hK; go_simp; exact hK.out _ _ hW1 RegJ.Tell.same rfl)
    focus (simp only [List.getElem_toArray, List.getElem_cons_succ, List.getElem_cons_zero] at hK; have j1 : x 1 = _ := (hJ1.out 1 (by kernel_rfl)); rw [j1] at hK; obtain ⟨v1, -⟩ := id hW1; have e0 := v1.cell (i := 0) rfl; go_simp; exact hK.out _ _ hW1 RegJ.Tell.same rfl)
    focus (simp only [List.getElem_toArray, List.getElem_cons_succ, List.getElem_cons_zero] at hK; go_simp; exact hK.out _ _ hW1 RegJ.Tell.same rfl)
    focus (simp only [List.getElem_toArray, List.getElem_cons_succ, List.getElem_cons_zero] at hK; go_simp; exact hK.out _ _ hW1 RegJ.Tell.same rfl)
    focus (simp only [List.getElem_toArray, List.getElem_cons_succ, List.getElem_cons_zero] at hK; have j4 : x 4 = _ := (hJ1.out 4 (by kernel_rfl)); rw [j4] at hK; go_simp; exact hK.out _ _ hW1 RegJ.Tell.same rfl)
    focus (simp only [List.getElem_toArray, List.getElem_cons_succ, List.getElem_cons_zero] at hK; have j5 : x 5 = _ := (hJ1.out 5 (by kernel_rfl)); rw [j5] at hK; obtain ⟨v1, -⟩ := id hW1; have e1 := v1.cell (i := 1) rfl; go_simp; exact hK.out _ _ hW1 RegJ.Tell.same rfl)
    focus (simp only [List.getElem_toArray, List.getElem_cons_succ, List.getElem_cons_zero] at hK; have j6 : x 6 = _ := (hJ1.out 6 (by kernel_rfl)); rw [j6] at hK; go_simp; exact hK.out _ _ hW1 RegJ.Tell.same rfl)
    focus (simp only [List.getElem_toArray, List.getElem_cons_succ, List.getElem_cons_zero] at hK; have j7 : x 7 = _ := (hJ1.out 7 (by kernel_rfl)); rw [j7] at hK; go_simp; exact hK.out _ _ hW1 RegJ.Tell.same ⟨_, rfl⟩)
    focus (simp only [List.getElem_toArray, List.getElem_cons_succ, List.getElem_cons_zero] at hK; obtain ⟨v1, z1, cu1, B1, p1, q1⟩ := id hW1; have hP := fun x hx => own_cur (E := Tak.partE) p1 x hx; have hQ := fun x hx => own_cur (E := letE) q1 x hx; have j3 : x 3 = _ := (hJ1.out 3 (by kernel_rfl)); rw [j3] at hK; obtain ⟨y, j8⟩ := (hJ1.out 8 (by kernel_rfl)); rw [j8] at hK; go_simp; refine (Draw.l1Below _ _ _ cu1).mono ?_; rintro e wa ⟨r, r0, r1, rfl, cua, ka⟩; go_simp; exact hK.out _ _ ⟨v1.kept ka (by omega), z1.kept ka (by omega), cua, B1.trans (ka.below (by omega) B1.size), p1.kept ka (fun x hx => hP x hx), q1.kept ka (fun x hx => hQ x hx)⟩ (RegJ.Tell.pure (by kernel_rfl)) ⟨_, rfl⟩)
    focus (simp only [List.getElem_toArray, List.getElem_cons_succ, List.getElem_cons_zero] at hK; have j2 : x 2 = _ := (hJ1.out 2 (by kernel_rfl)); rw [j2] at hK; obtain ⟨y, j9⟩ := (hJ1.out 9 (by kernel_rfl)); rw [j9] at hK; go_simp; exact hK.out _ _ hW1 RegJ.Tell.same ⟨_, rfl⟩)
    focus (simp only [List.getElem_toArray, List.getElem_cons_succ, List.getElem_cons_zero] at hK; obtain ⟨y, j10⟩ := (hJ1.out 10 (by kernel_rfl)); rw [j10] at hK; go_simp; exact hK.out _ _ hW1 RegJ.Tell.same ⟨_, rfl⟩)
  obtain ⟨p, j11⟩ := hJR 11 (by simp)
  rw [j11]
  clear hJR hdR v8 z4 cu4 B4 p4 q4
  obtain ⟨v8, z4, cu4, B4, p4, q4⟩ := hWR
  go_wp2_with fail
  have keepW : ∀ (i : Nat) (d : Nat → Bool) (w1 : World), (fun d wr => Var 31 wr k7 [.int .i64 h.g.ba, .string h.g.bs, .int .i64 h.g.cp, .int .i64 h.g.lm, .bool h.g.en, .bool h.g.dn, .int .i64 h.t.nx, .string h.t.bs, .slice aT h.t.l.length cT, .int .i64 h.t.cp, .int .i64 h.t.fi, .bool h.t.en, .slice aW h.ws.length cW] ∧ (d 5 = false → Var 31 wr w.heap.size [.int .i64 0, .string ⟨#[]⟩, .int .i64 0, .int .i64 0, .bool false, .bool false, .int .i64 0, .string ⟨#[]⟩, .slice none 0 0, .int .i64 0, .int .i64 0, .bool false, .slice none 0 0] ∧ Draw.Cur wr (w.heap.size + 1)) ∧ Below w.heap.size w wr ∧ Tak.partE.Own 55 wr (w.heap.size + 2) aT cT h.t.l ∧ letE.Own 45 wr (w.heap.size + 2) aW cW h.ws) d w1 → i ≠ 5 → (fun d wr => Var 31 wr k7 [.int .i64 h.g.ba, .string h.g.bs, .int .i64 h.g.cp, .int .i64 h.g.lm, .bool h.g.en, .bool h.g.dn, .int .i64 h.t.nx, .string h.t.bs, .slice aT h.t.l.length cT, .int .i64 h.t.cp, .int .i64 h.t.fi, .bool h.t.en, .slice aW h.ws.length cW] ∧ (d 5 = false → Var 31 wr w.heap.size [.int .i64 0, .string ⟨#[]⟩, .int .i64 0, .int .i64 0, .bool false, .bool false, .int .i64 0, .string ⟨#[]⟩, .slice none 0 0, .int .i64 0, .int .i64 0, .bool false, .slice none 0 0] ∧ Draw.Cur wr (w.heap.size + 1)) ∧ Below w.heap.size w wr ∧ Tak.partE.Own 55 wr (w.heap.size + 2) aT cT h.t.l ∧ letE.Own 45 wr (w.heap.size + 2) aW cW h.ws) (fun j => j == i || d j) w1 := fun i d w1 hW hi => ⟨hW.1, fun hd => hW.2.1 (by simpa using hd : (5 : Nat) ≠ i ∧ d 5 = false).2, hW.2.2⟩
  refine RegJ.wp_region_J (W := fun d wr => Var 31 wr k7 [.int .i64 h.g.ba, .string h.g.bs, .int .i64 h.g.cp, .int .i64 h.g.lm, .bool h.g.en, .bool h.g.dn, .int .i64 h.t.nx, .string h.t.bs, .slice aT h.t.l.length cT, .int .i64 h.t.cp, .int .i64 h.t.fi, .bool h.t.en, .slice aW h.ws.length cW] ∧ (d 5 = false → Var 31 wr w.heap.size [.int .i64 0, .string ⟨#[]⟩, .int .i64 0, .int .i64 0, .bool false, .bool false, .int .i64 0, .string ⟨#[]⟩, .slice none 0 0, .int .i64 0, .int .i64 0, .bool false, .slice none 0 0] ∧ Draw.Cur wr (w.heap.size + 1)) ∧ Below w.heap.size w wr ∧ Tak.partE.Own 55 wr (w.heap.size + 2) aT cT h.t.l ∧ letE.Own 45 wr (w.heap.size + 2) aW cW h.ws) (RegJ.Tell (w.heap.size + 1) [.eq (.agg #[.int .i64 h.g.ba, .string h.g.bs, .int .i64 h.g.cp, .int .i64 h.g.lm, .bool h.g.en, .bool h.g.dn, .int .i64 h.t.nx, .string h.t.bs, .slice aT h.t.l.length cT, .int .i64 h.t.cp, .int .i64 h.t.fi, .bool h.t.en, .slice aW h.ws.length cW]), .eq (.int .i64 r), .eq (.int .i64 p), .eq (.pointer (some ⟨w.heap.size + 1, 0, none⟩)), .num, .at 31 w.heap.size [.int .i64 h.g.ba, .string h.g.bs, .int .i64 h.g.cp, .int .i64 h.g.lm, .bool h.g.en, .bool h.g.dn, .int .i64 h.t.nx, .string h.t.bs, .slice aT h.t.l.length cT, .int .i64 h.t.cp, .int .i64 h.t.fi, .bool h.t.en, .slice aW h.ws.length cW], .eq (.int .i64 r), .eq (.int .i64 p), .num]) [some 27, some 28, some 29, some 30, some 31, none, some 3, some 4, some 5] (F := ?_) (is := [0, 1, 2, 3, 4, 5, 6, 7, 8]) hmix (by kernel_rfl) (by kernel_rfl) (by kernel_rfl) (by kernel_rfl) (fun x => ?_) (⟨v8.drew, fun _ => ⟨z4.drew, cu4.drew⟩, B4.drew, p4.drew, q4.drew⟩) ?_ (fun d x wR hWR hdR hJR => ?_)
  rotate_left 1
  focus (simp only [RegJ.lay, Act.put, Nat.reduceAdd, Nat.zero_add, List.getElem_toArray, List.getElem_cons_zero, List.getElem_cons_succ, List.setIfInBounds_toArray, List.set_cons_zero, List.set_cons_succ]; rfl)
  focus
    refine RegJ.Steps.cons (RegJ.StepAt.mk rfl (fun d x w1 hW1 hJ1 hx1 K hK => ?_)) (RegJ.Steps.cons (RegJ.StepAt.mk rfl (fun d x w1 hW1 hJ1 hx1 K hK => ?_)) (RegJ.Steps.cons (RegJ.StepAt.mk rfl (fun d x w1 hW1 hJ1 hx1 K hK => ?_)) (RegJ.Steps.cons (RegJ.StepAt.mk rfl (fun d x w1 hW1 hJ1 hx1 K hK => ?_)) (RegJ.Steps.cons (RegJ.StepAt.mk rfl (fun d x w1 hW1 hJ1 hx1 K hK => ?_)) (RegJ.Steps.cons (RegJ.StepAt.mk rfl (fun d x w1 hW1 hJ1 hx1 K hK => ?_)) (RegJ.Steps.cons (RegJ.StepAt.mk rfl (fun d x w1 hW1 hJ1 hx1 K hK => ?_)) (RegJ.Steps.cons (RegJ.StepAt.mk rfl (fun d x w1 hW1 hJ1 hx1 K hK => ?_)) (RegJ.Steps.cons (RegJ.StepAt.mk rfl (fun d x w1 hW1 hJ1 hx1 K hK => ?_)) (RegJ.Steps.nil)))))))))
    focus (simp only [List.getElem_toArray, List.getElem_cons_succ, List.getElem_cons_zero] at hK; obtain ⟨v1, -⟩ := id hW1; have e0 := v1.cell (i := 0) rfl; have e1 := v1.cell (i := 1) rfl; have e2 := v1.cell (i := 2) rfl; have e3 := v1.cell (i := 3) rfl; have e4 := v1.cell (i := 4) rfl; have e5 := v1.cell (i := 5) rfl; have e6 := v1.cell (i := 6) rfl; have e7 := v1.cell (i := 7) rfl; have e8 := v1.cell (i := 8) rfl; have e9 := v1.cell (i := 9) rfl; have e10 := v1.cell (i := 10) rfl; have e11 := v1.cell (i := 11) rfl; have e12 := v1.cell (i := 12) rfl; go_simp; exact hK.out _ _ (keepW _ _ _ hW1 (by decide)) RegJ.Tell.same rfl)
    focus (simp only [List.getElem_toArray, List.getElem_cons_succ, List.getElem_cons_zero] at hK; go_simp; exact hK.out _ _ (keepW _ _ _ hW1 (by decide)) RegJ.Tell.same rfl)
    focus (simp only [List.getElem_toArray, List.getElem_cons_succ, List.getElem_cons_zero] at hK; go_simp; exact hK.out _ _ (keepW _ _ _ hW1 (by decide)) RegJ.Tell.same rfl)
    focus (simp only [List.getElem_toArray, List.getElem_cons_succ, List.getElem_cons_zero] at hK; go_simp; exact hK.out _ _ (keepW _ _ _ hW1 (by decide)) RegJ.Tell.same rfl)
    focus (simp only [List.getElem_toArray, List.getElem_cons_succ, List.getElem_cons_zero] at hK; obtain ⟨v1, zc, B1, p1, q1⟩ := id hW1; obtain ⟨z1, cu1⟩ := zc (hx1.out 5 (.inr (by kernel_rfl))).1; have hP := fun x hx => own_cur (E := Tak.partE) p1 x hx; have hQ := fun x hx => own_cur (E := letE) q1 x hx; have j3 : x 3 = _ := (hJ1.out 3 (by kernel_rfl)); rw [j3] at hK; go_simp; refine (l1From _ _ _ _ cu1).mono ?_; rintro e wa ⟨y, rfl, cua, ka⟩; go_simp; exact hK.out _ _ ⟨v1.kept ka (by omega), fun _ => ⟨z1.kept ka (by omega), cua⟩, B1.trans (ka.below (by omega) B1.size), p1.kept ka (fun x hx => hP x hx), q1.kept ka (fun x hx => hQ x hx)⟩ (RegJ.Tell.keep ka) ⟨_, rfl⟩)
    focus (simp only [List.getElem_toArray, List.getElem_cons_succ, List.getElem_cons_zero] at hK; obtain ⟨v1, zc, B1, p1, q1⟩ := id hW1; obtain ⟨z1, cu1⟩ := zc (hx1.out 5 (.inl rfl)).1; have j0 : x 0 = _ := (hJ1.out 0 (by kernel_rfl)); rw [j0] at hK; have f0 := z1.cell (i := 0) rfl; have y0 := z1.free 0; have f1 := z1.cell (i := 1) rfl; have y1 := z1.free 1; have f2 := z1.cell (i := 2) rfl; have y2 := z1.free 2; have f3 := z1.cell (i := 3) rfl; have y3 := z1.free 3; have f4 := z1.cell (i := 4) rfl; have y4 := z1.free 4; have f5 := z1.cell (i := 5) rfl; have y5 := z1.free 5; have f6 := z1.cell (i := 6) rfl; have y6 := z1.free 6; have f7 := z1.cell (i := 7) rfl; have y7 := z1.free 7; have f8 := z1.cell (i := 8) rfl; have y8 := z1.free 8; have f9 := z1.cell (i := 9) rfl; have y9 := z1.free 9; have f10 := z1.cell (i := 10) rfl; have y10 := z1.free 10; have f11 := z1.cell (i := 11) rfl; have y11 := z1.free 11; have f12 := z1.cell (i := 12) rfl; have y12 := z1.free 12; go_simp; clear f0 y0 f1 y1 f2 y2 f3 y3 f4 y4 f5 y5 f6 y6 f7 y7 f8 y8 f9 y9 f10 y10 f11 y11 f12 y12; have zf : Var 31 ((((((((((((((w1.setCell ⟨w.heap.size, 0, none⟩ (.int .i64 h.g.ba)).setCell ⟨w.heap.size, 1, none⟩ (.string h.g.bs)).setCell ⟨w.heap.size, 2, none⟩ (.int .i64 h.g.cp)).setCell ⟨w.heap.size, 3, none⟩ (.int .i64 h.g.lm)).setCell ⟨w.heap.size, 4, none⟩ (.bool h.g.en)).setCell ⟨w.heap.size, 5, none⟩ (.bool h.g.dn)).setCell ⟨w.heap.size, 6, none⟩ (.int .i64 h.t.nx)).setCell ⟨w.heap.size, 7, none⟩ (.string h.t.bs)).setCell ⟨w.heap.size, 8, none⟩ (.slice aT h.t.l.length cT)).setCell ⟨w.heap.size, 9, none⟩ (.int .i64 h.t.cp)).setCell ⟨w.heap.size, 10, none⟩ (.int .i64 h.t.fi)).setCell ⟨w.heap.size, 11, none⟩ (.bool h.t.en)).setCell ⟨w.heap.size, 12, none⟩ (.slice aW h.ws.length cW))) w.heap.size [.int .i64 h.g.ba, .string h.g.bs, .int .i64 h.g.cp, .int .i64 h.g.lm, .bool h.g.en, .bool h.g.dn, .int .i64 h.t.nx, .string h.t.bs, .slice aT h.t.l.length cT, .int .i64 h.t.cp, .int .i64 h.t.fi, .bool h.t.en, .slice aW h.ws.length cW] := (((((((((((((z1.set 0 _).set 1 _).set 2 _).set 3 _).set 4 _).set 5 _).set 6 _).set 7 _).set 8 _).set 9 _).set 10 _).set 11 _).set 12 _); have km : Draw.Kept w.heap.size w1 ((((((((((((((w1.setCell ⟨w.heap.size, 0, none⟩ (.int .i64 h.g.ba)).setCell ⟨w.heap.size, 1, none⟩ (.string h.g.bs)).setCell ⟨w.heap.size, 2, none⟩ (.int .i64 h.g.cp)).setCell ⟨w.heap.size, 3, none⟩ (.int .i64 h.g.lm)).setCell ⟨w.heap.size, 4, none⟩ (.bool h.g.en)).setCell ⟨w.heap.size, 5, none⟩ (.bool h.g.dn)).setCell ⟨w.heap.size, 6, none⟩ (.int .i64 h.t.nx)).setCell ⟨w.heap.size, 7, none⟩ (.string h.t.bs)).setCell ⟨w.heap.size, 8, none⟩ (.slice aT h.t.l.length cT)).setCell ⟨w.heap.size, 9, none⟩ (.int .i64 h.t.cp)).setCell ⟨w.heap.size, 10, none⟩ (.int .i64 h.t.fi)).setCell ⟨w.heap.size, 11, none⟩ (.bool h.t.en)).setCell ⟨w.heap.size, 12, none⟩ (.slice aW h.ws.length cW))) := (Draw.Kept.setCell (Draw.Kept.setCell (Draw.Kept.setCell (Draw.Kept.setCell (Draw.Kept.setCell (Draw.Kept.setCell (Draw.Kept.setCell (Draw.Kept.setCell (Draw.Kept.setCell (Draw.Kept.setCell (Draw.Kept.setCell (Draw.Kept.setCell (Draw.Kept.setCell (Draw.Kept.refl w.heap.size w1) (p := ⟨w.heap.size, 0, none⟩) (.inl rfl) _) (p := ⟨w.heap.size, 1, none⟩) (.inl rfl) _) (p := ⟨w.heap.size, 2, none⟩) (.inl rfl) _) (p := ⟨w.heap.size, 3, none⟩) (.inl rfl) _) (p := ⟨w.heap.size, 4, none⟩) (.inl rfl) _) (p := ⟨w.heap.size, 5, none⟩) (.inl rfl) _) (p := ⟨w.heap.size, 6, none⟩) (.inl rfl) _) (p := ⟨w.heap.size, 7, none⟩) (.inl rfl) _) (p := ⟨w.heap.size, 8, none⟩) (.inl rfl) _) (p := ⟨w.heap.size, 9, none⟩) (.inl rfl) _) (p := ⟨w.heap.size, 10, none⟩) (.inl rfl) _) (p := ⟨w.heap.size, 11, none⟩) (.inl rfl) _) (p := ⟨w.heap.size, 12, none⟩) (.inl rfl) _); have Bf : Below w.heap.size w ((((((((((((((w1.setCell ⟨w.heap.size, 0, none⟩ (.int .i64 h.g.ba)).setCell ⟨w.heap.size, 1, none⟩ (.string h.g.bs)).setCell ⟨w.heap.size, 2, none⟩ (.int .i64 h.g.cp)).setCell ⟨w.heap.size, 3, none⟩ (.int .i64 h.g.lm)).setCell ⟨w.heap.size, 4, none⟩ (.bool h.g.en)).setCell ⟨w.heap.size, 5, none⟩ (.bool h.g.dn)).setCell ⟨w.heap.size, 6, none⟩ (.int .i64 h.t.nx)).setCell ⟨w.heap.size, 7, none⟩ (.string h.t.bs)).setCell ⟨w.heap.size, 8, none⟩ (.slice aT h.t.l.length cT)).setCell ⟨w.heap.size, 9, none⟩ (.int .i64 h.t.cp)).setCell ⟨w.heap.size, 10, none⟩ (.int .i64 h.t.fi)).setCell ⟨w.heap.size, 11, none⟩ (.bool h.t.en)).setCell ⟨w.heap.size, 12, none⟩ (.slice aW h.ws.length cW))) := (Below.setCell (Below.setCell (Below.setCell (Below.setCell (Below.setCell (Below.setCell (Below.setCell (Below.setCell (Below.setCell (Below.setCell (Below.setCell (Below.setCell (Below.setCell B1 (p := ⟨w.heap.size, 0, none⟩) (Nat.le_refl _) _) (p := ⟨w.heap.size, 1, none⟩) (Nat.le_refl _) _) (p := ⟨w.heap.size, 2, none⟩) (Nat.le_refl _) _) (p := ⟨w.heap.size, 3, none⟩) (Nat.le_refl _) _) (p := ⟨w.heap.size, 4, none⟩) (Nat.le_refl _) _) (p := ⟨w.heap.size, 5, none⟩) (Nat.le_refl _) _) (p := ⟨w.heap.size, 6, none⟩) (Nat.le_refl _) _) (p := ⟨w.heap.size, 7, none⟩) (Nat.le_refl _) _) (p := ⟨w.heap.size, 8, none⟩) (Nat.le_refl _) _) (p := ⟨w.heap.size, 9, none⟩) (Nat.le_refl _) _) (p := ⟨w.heap.size, 10, none⟩) (Nat.le_refl _) _) (p := ⟨w.heap.size, 11, none⟩) (Nat.le_refl _) _) (p := ⟨w.heap.size, 12, none⟩) (Nat.le_refl _) _); exact hK.out undef _ ⟨v1.kept km (by omega), fun hd => absurd hd (by simp), Bf, p1.kept km (own_win (by decide) p1 z1.win), q1.kept km (own_win (by decide) q1 z1.win)⟩ (RegJ.Tell.stored (by kernel_rfl) km (by omega)) ⟨by omega, zf⟩)
    focus (simp only [List.getElem_toArray, List.getElem_cons_succ, List.getElem_cons_zero] at hK; have j1 : x 1 = _ := (hJ1.out 1 (by kernel_rfl)); rw [j1] at hK; go_simp; exact hK.out _ _ (keepW _ _ _ hW1 (by decide)) RegJ.Tell.same rfl)
    focus (simp only [List.getElem_toArray, List.getElem_cons_succ, List.getElem_cons_zero] at hK; have j2 : x 2 = _ := (hJ1.out 2 (by kernel_rfl)); rw [j2] at hK; go_simp; exact hK.out _ _ (keepW _ _ _ hW1 (by decide)) RegJ.Tell.same rfl)
    focus (simp only [List.getElem_toArray, List.getElem_cons_succ, List.getElem_cons_zero] at hK; obtain ⟨y, j4⟩ := (hJ1.out 4 (by kernel_rfl)); rw [j4] at hK; go_simp; exact hK.out _ _ (keepW _ _ _ hW1 (by decide)) RegJ.Tell.same ⟨_, rfl⟩)
  obtain ⟨-, z8⟩ := hJR 5 (by simp)
  have j6 : x 6 = _ := hJR 6 (by simp)
  have j7 : x 7 = _ := hJR 7 (by simp)
  obtain ⟨n, j8⟩ := hJR 8 (by simp)
  rw [j6, j7, j8]
  clear hJR hdR keepW v8 z4 cu4 B4 p4 q4
  obtain ⟨-, -, B8, p8, q8⟩ := hWR
  have s0 := z8.cell (i := 0) rfl
  have s1 := z8.cell (i := 1) rfl
  have s2 := z8.cell (i := 2) rfl
  have s3 := z8.cell (i := 3) rfl
  have s4 := z8.cell (i := 4) rfl
  have s5 := z8.cell (i := 5) rfl
  have s6 := z8.cell (i := 6) rfl
  have s7 := z8.cell (i := 7) rfl
  have s8 := z8.cell (i := 8) rfl
  have s9 := z8.cell (i := 9) rfl
  have s10 := z8.cell (i := 10) rfl
  have s11 := z8.cell (i := 11) rfl
  have s12 := z8.cell (i := 12) rfl
  go_wp2_with fail
  refine bodyPost_ret (v := .tuple #[.agg #[.int .i64 h.g.ba, .string h.g.bs, .int .i64 h.g.cp, .int .i64 h.g.lm, .bool h.g.en, .bool h.g.dn, .int .i64 h.t.nx, .string h.t.bs, .slice aT h.t.l.length cT, .int .i64 h.t.cp, .int .i64 h.t.fi, .bool h.t.en, .slice aW h.ws.length cW], .int .i64 r, .int .i64 p, .int .i64 n]) (by rw [res_cell_tmp3 rfl]; clear z8 B8 p8 q8; go_simp; done) rfl ⟨h, aT, cT, aW, cW, r, p, n, hsm, hwl, rfl, p8.mono (by omega), q8.mono (by omega), B8⟩

set_option maxRecDepth 10000 in
set_option maxHeartbeats 16000000 in
theorem drawTells (a : Option Addr) (len cap : Nat) (w : World) (hb : Draw.Bytes w a len) (hl : len ≤ 4096) :
    Calls Try.prog 8 #[.slice a len cap] w fun e w' => ∃ (h : Hp) (aT : Option Addr) (cT : Nat) (aW : Option Addr) (cW : Nat) (r : Int) (b : Bool), h.Sm ∧ h.ws.length ≤ 31 ∧ e = .returned (.tuple #[h.v aT cT aW cW, .int .i64 r, .bool b]) ∧ Tak.partE.Own 55 w' w.heap.size aT cT h.t.l ∧ letE.Own 45 w' w.heap.size aW cW h.ws ∧ Below w.heap.size w w' := by
  have hmix := mix
  have z2 : Var 31 (w.alloc (.cells #[.int .i64 0, .string ⟨#[]⟩, .int .i64 0, .int .i64 0, .bool false, .bool false, .int .i64 0, .string ⟨#[]⟩, .slice none 0 0, .int .i64 0, .int .i64 0, .bool false, .slice none 0 0] 31)) w.heap.size [.int .i64 0, .string ⟨#[]⟩, .int .i64 0, .int .i64 0, .bool false, .bool false, .int .i64 0, .string ⟨#[]⟩, .slice none 0 0, .int .i64 0, .int .i64 0, .bool false, .slice none 0 0] := Var.new w _
  have b0 : Below w.heap.size w (w.alloc (.cells #[.int .i64 0, .string ⟨#[]⟩, .int .i64 0, .int .i64 0, .bool false, .bool false, .int .i64 0, .string ⟨#[]⟩, .slice none 0 0, .int .i64 0, .int .i64 0, .bool false, .slice none 0 0] 31)) := (Below.refl _ _).alloc (Nat.le_refl _) _
  have hs0 : (w.alloc (.cells #[.int .i64 0, .string ⟨#[]⟩, .int .i64 0, .int .i64 0, .bool false, .bool false, .int .i64 0, .string ⟨#[]⟩, .slice none 0 0, .int .i64 0, .int .i64 0, .bool false, .slice none 0 0] 31)).heap.size = w.heap.size + 1 := by simp
  have hb0 := hb.below b0 (Nat.le_refl _)
  go_enter Try.func8, Try.ntmps8
  go_wp2_with fail
  generalize w.alloc (.cells #[.int .i64 0, .string ⟨#[]⟩, .int .i64 0, .int .i64 0, .bool false, .bool false, .int .i64 0, .string ⟨#[]⟩, .slice none 0 0, .int .i64 0, .int .i64 0, .bool false, .slice none 0 0] 31) = W0 at *
  refine (Draw.l1New a len cap _ hb0 hl).mono ?_
  rintro x w1 ⟨rfl, hh, hw1⟩
  have c1 : Draw.Cur w1 W0.heap.size := by rw [hw1]; exact Draw.cur_new hb0 hl hh _
  have b1 : Below W0.heap.size W0 w1 := by rw [hw1]; exact (Below.refl _ _).alloc (Nat.le_refl _) _
  have h1 : W0.heap.size < w1.heap.size := by rw [hw1]; simp
  have z1 := z2.later b1
  have B1 := b0.trans (b1.mono b0.size)
  clear hw1 z2 b1 hb0
  rw [hs0] at c1 h1
  rw [hs0]
  clear hs0 b0
  go_wp2_with fail
  refine (l7DrawAny _ _ c1).mono ?_
  rintro x w2 ⟨h, aT, cT, aW, cW, hsm, hwl, rfl, o1, o2, cu2, k2⟩
  have z2 := (z1.kept k2 (by omega)).alloc (.cells #[.int .i64 h.g.ba, .string h.g.bs, .int .i64 h.g.cp, .int .i64 h.g.lm, .bool h.g.en, .bool h.g.dn, .int .i64 h.t.nx, .string h.t.bs, .slice aT h.t.l.length cT, .int .i64 h.t.cp, .int .i64 h.t.fi, .bool h.t.en, .slice aW h.ws.length cW] 31)
  have B2 : Below w.heap.size w w2 := B1.trans (k2.below (by omega) B1.size)
  have B3 : Below w.heap.size w (w2.alloc (.cells #[.int .i64 h.g.ba, .string h.g.bs, .int .i64 h.g.cp, .int .i64 h.g.lm, .bool h.g.en, .bool h.g.dn, .int .i64 h.t.nx, .string h.t.bs, .slice aT h.t.l.length cT, .int .i64 h.t.cp, .int .i64 h.t.fi, .bool h.t.en, .slice aW h.ws.length cW] 31)) := B2.alloc B2.size _
  have v7 : Var 31 (w2.alloc (.cells #[.int .i64 h.g.ba, .string h.g.bs, .int .i64 h.g.cp, .int .i64 h.g.lm, .bool h.g.en, .bool h.g.dn, .int .i64 h.t.nx, .string h.t.bs, .slice aT h.t.l.length cT, .int .i64 h.t.cp, .int .i64 h.t.fi, .bool h.t.en, .slice aW h.ws.length cW] 31)) w2.heap.size [.int .i64 h.g.ba, .string h.g.bs, .int .i64 h.g.cp, .int .i64 h.g.lm, .bool h.g.en, .bool h.g.dn, .int .i64 h.t.nx, .string h.t.bs, .slice aT h.t.l.length cT, .int .i64 h.t.cp, .int .i64 h.t.fi, .bool h.t.en, .slice aW h.ws.length cW] := Var.new w2 _
  have cu3 := cu2.alloc (.cells #[.int .i64 h.g.ba, .string h.g.bs, .int .i64 h.g.cp, .int .i64 h.g.lm, .bool h.g.en, .bool h.g.dn, .int .i64 h.t.nx, .string h.t.bs, .slice aT h.t.l.length cT, .int .i64 h.t.cp, .int .i64 h.t.fi, .bool h.t.en, .slice aW h.ws.length cW] 31)
  have p3 : Tak.partE.Own 55 (w2.alloc (.cells #[.int .i64 h.g.ba, .string h.g.bs, .int .i64 h.g.cp, .int .i64 h.g.lm, .bool h.g.en, .bool h.g.dn, .int .i64 h.t.nx, .string h.t.bs, .slice aT h.t.l.length cT, .int .i64 h.t.cp, .int .i64 h.t.fi, .bool h.t.en, .slice aW h.ws.length cW] 31)) (w.heap.size + 2) aT cT h.t.l := (o1.mono (by omega)).alloc _
  have q3 : letE.Own 45 (w2.alloc (.cells #[.int .i64 h.g.ba, .string h.g.bs, .int .i64 h.g.cp, .int .i64 h.g.lm, .bool h.g.en, .bool h.g.dn, .int .i64 h.t.nx, .string h.t.bs, .slice aT h.t.l.length cT, .int .i64 h.t.cp, .int .i64 h.t.fi, .bool h.t.en, .slice aW h.ws.length cW] 31)) (w.heap.size + 2) aW cW h.ws := (o2.mono (by omega)).alloc _
  have hk7 : w.heap.size + 1 < w2.heap.size := cu2.lt
  clear z1 B1 B2 o1 o2 cu2 k2 c1 h1
  go_upto_region 3 with (fail)
  generalize w2.alloc (.cells #[.int .i64 h.g.ba, .string h.g.bs, .int .i64 h.g.cp, .int .i64 h.g.lm, .bool h.g.en, .bool h.g.dn, .int .i64 h.t.nx, .string h.t.bs, .slice aT h.t.l.length cT, .int .i64 h.t.cp, .int .i64 h.t.fi, .bool h.t.en, .slice aW h.ws.length cW] 31) = W at *
  generalize w2.heap.size = k7 at *
  go_wp2_with fail
  refine (l1From _ _ _ _ cu3).mono ?_
  rintro x w3 ⟨r, rfl, cu4, k4⟩
  have v8 := v7.kept k4 (by omega)
  have z4 := z2.kept k4 (by omega)
  have B4 := B3.trans (k4.below (by omega) B3.size)
  have p4 := p3.kept k4 (own_cur p3)
  have q4 := q3.kept k4 (own_cur q3)
  clear v7 z2 B3 p3 q3 cu3 k4
  go_wp2_with fail
  have keepW : ∀ (i : Nat) (d : Nat → Bool) (w1 : World), (fun d wr => Var 31 wr k7 [.int .i64 h.g.ba, .string h.g.bs, .int .i64 h.g.cp, .int .i64 h.g.lm, .bool h.g.en, .bool h.g.dn, .int .i64 h.t.nx, .string h.t.bs, .slice aT h.t.l.length cT, .int .i64 h.t.cp, .int .i64 h.t.fi, .bool h.t.en, .slice aW h.ws.length cW] ∧ (d 4 = false → Var 31 wr w.heap.size [.int .i64 0, .string ⟨#[]⟩, .int .i64 0, .int .i64 0, .bool false, .bool false, .int .i64 0, .string ⟨#[]⟩, .slice none 0 0, .int .i64 0, .int .i64 0, .bool false, .slice none 0 0] ∧ Draw.Cur wr (w.heap.size + 1)) ∧ Below w.heap.size w wr ∧ Tak.partE.Own 55 wr (w.heap.size + 2) aT cT h.t.l ∧ letE.Own 45 wr (w.heap.size + 2) aW cW h.ws) d w1 → i ≠ 4 → (fun d wr => Var 31 wr k7 [.int .i64 h.g.ba, .string h.g.bs, .int .i64 h.g.cp, .int .i64 h.g.lm, .bool h.g.en, .bool h.g.dn, .int .i64 h.t.nx, .string h.t.bs, .slice aT h.t.l.length cT, .int .i64 h.t.cp, .int .i64 h.t.fi, .bool h.t.en, .slice aW h.ws.length cW] ∧ (d 4 = false → Var 31 wr w.heap.size [.int .i64 0, .string ⟨#[]⟩, .int .i64 0, .int .i64 0, .bool false, .bool false, .int .i64 0, .string ⟨#[]⟩, .slice none 0 0, .int .i64 0, .int .i64 0, .bool false, .slice none 0 0] ∧ Draw.Cur wr (w.heap.size + 1)) ∧ Below w.heap.size w wr ∧ Tak.partE.Own 55 wr (w.heap.size + 2) aT cT h.t.l ∧ letE.Own 45 wr (w.heap.size + 2) aW cW h.ws) (fun j => j == i || d j) w1 := fun i d w1 hW hi => ⟨hW.1, fun hd => hW.2.1 (by simpa using hd : (4 : Nat) ≠ i ∧ d 4 = false).2, hW.2.2⟩
  refine RegJ.wp_region_J (W := fun d wr => Var 31 wr k7 [.int .i64 h.g.ba, .string h.g.bs, .int .i64 h.g.cp, .int .i64 h.g.lm, .bool h.g.en, .bool h.g.dn, .int .i64 h.t.nx, .string h.t.bs, .slice aT h.t.l.length cT, .int .i64 h.t.cp, .int .i64 h.t.fi, .bool h.t.en, .slice aW h.ws.length cW] ∧ (d 4 = false → Var 31 wr w.heap.size [.int .i64 0, .string ⟨#[]⟩, .int .i64 0, .int .i64 0, .bool false, .bool false, .int .i64 0, .string ⟨#[]⟩, .slice none 0 0, .int .i64 0, .int .i64 0, .bool false, .slice none 0 0] ∧ Draw.Cur wr (w.heap.size + 1)) ∧ Below w.heap.size w wr ∧ Tak.partE.Own 55 wr (w.heap.size + 2) aT cT h.t.l ∧ letE.Own 45 wr (w.heap.size + 2) aW cW h.ws) (RegJ.Tell (w.heap.size + 1) [.eq (.agg #[.int .i64 h.g.ba, .string h.g.bs, .int .i64 h.g.cp, .int .i64 h.g.lm, .bool h.g.en, .bool h.g.dn, .int .i64 h.t.nx, .string h.t.bs, .slice aT h.t.l.length cT, .int .i64 h.t.cp, .int .i64 h.t.fi, .bool h.t.en, .slice aW h.ws.length cW]), .eq (.int .i64 r), .eq (.pointer (some ⟨w.heap.size + 1, 0, none⟩)), .flag, .at 31 w.heap.size [.int .i64 h.g.ba, .string h.g.bs, .int .i64 h.g.cp, .int .i64 h.g.lm, .bool h.g.en, .bool h.g.dn, .int .i64 h.t.nx, .string h.t.bs, .slice aT h.t.l.length cT, .int .i64 h.t.cp, .int .i64 h.t.fi, .bool h.t.en, .slice aW h.ws.length cW], .eq (.int .i64 r), .flag]) [some 14, some 15, some 16, some 17, none, some 3, some 4] (F := ?_) (is := [0, 1, 2, 3, 4, 5, 6]) hmix (by kernel_rfl) (by kernel_rfl) (by kernel_rfl) (by kernel_rfl) (fun x => ?_) (⟨v8.drew, fun _ => ⟨z4.drew, cu4.drew⟩, B4.drew, p4.drew, q4.drew⟩) ?_ (fun d x wR hWR hdR hJR => ?_)
  rotate_left 1
  focus (simp only [RegJ.lay, Act.put, Nat.reduceAdd, Nat.zero_add, List.getElem_toArray, List.getElem_cons_zero, List.getElem_cons_succ, List.setIfInBounds_toArray, List.set_cons_zero, List.set_cons_succ]; rfl)
  focus
    refine RegJ.Steps.cons (RegJ.StepAt.mk rfl (fun d x w1 hW1 hJ1 hx1 K hK => ?_)) (RegJ.Steps.cons (RegJ.StepAt.mk rfl (fun d x w1 hW1 hJ1 hx1 K hK => ?_)) (RegJ.Steps.cons (RegJ.StepAt.mk rfl (fun d x w1 hW1 hJ1 hx1 K hK => ?_)) (RegJ.Steps.cons (RegJ.StepAt.mk rfl (fun d x w1 hW1 hJ1 hx1 K hK => ?_)) (RegJ.Steps.cons (RegJ.StepAt.mk rfl (fun d x w1 hW1 hJ1 hx1 K hK => ?_)) (RegJ.Steps.cons (RegJ.StepAt.mk rfl (fun d x w1 hW1 hJ1 hx1 K hK => ?_)) (RegJ.Steps.cons (RegJ.StepAt.mk rfl (fun d x w1 hW1 hJ1 hx1 K hK => ?_)) (RegJ.Steps.nil)))))))
    focus (simp only [List.getElem_toArray, List.getElem_cons_succ, List.getElem_cons_zero] at hK; obtain ⟨v1, -⟩ := id hW1; have e0 := v1.cell (i := 0) rfl; have e1 := v1.cell (i := 1) rfl; have e2 := v1.cell (i := 2) rfl; have e3 := v1.cell (i := 3) rfl; have e4 := v1.cell (i := 4) rfl; have e5 := v1.cell (i := 5) rfl; have e6 := v1.cell (i := 6) rfl; have e7 := v1.cell (i := 7) rfl; have e8 := v1.cell (i := 8) rfl; have e9 := v1.cell (i := 9) rfl; have e10 := v1.cell (i := 10) rfl; have e11 := v1.cell (i := 11) rfl; have e12 := v1.cell (i := 12) rfl; go_simp; exact hK.out _ _ (keepW _ _ _ hW1 (by decide)) RegJ.Tell.same rfl)
    focus (simp only [List.getElem_toArray, List.getElem_cons_succ, List.getElem_cons_zero] at hK; go_simp; exact hK.out _ _ (keepW _ _ _ hW1 (by decide)) RegJ.Tell.same rfl)
    focus (simp only [List.getElem_toArray, List.getElem_cons_succ, List.getElem_cons_zero] at hK; go_simp; exact hK.out _ _ (keepW _ _ _ hW1 (by decide)) RegJ.Tell.same rfl)
    focus (simp only [List.getElem_toArray, List.getElem_cons_succ, List.getElem_cons_zero] at hK; obtain ⟨v1, zc, B1, p1, q1⟩ := id hW1; obtain ⟨z1, cu1⟩ := zc (hx1.out 4 (.inr (by kernel_rfl))).1; have hP := fun x hx => own_cur (E := Tak.partE) p1 x hx; have hQ := fun x hx => own_cur (E := letE) q1 x hx; have j2 : x 2 = _ := (hJ1.out 2 (by kernel_rfl)); rw [j2] at hK; go_simp; refine (Draw.l1Once _ _ _ cu1).mono ?_; rintro e wa ⟨y, rfl, cua, ka⟩; go_simp; exact hK.out _ _ ⟨v1.kept ka (by omega), fun _ => ⟨z1.kept ka (by omega), cua⟩, B1.trans (ka.below (by omega) B1.size), p1.kept ka (fun x hx => hP x hx), q1.kept ka (fun x hx => hQ x hx)⟩ (RegJ.Tell.keep ka) ⟨_, rfl⟩)
    focus (simp only [List.getElem_toArray, List.getElem_cons_succ, List.getElem_cons_zero] at hK; obtain ⟨v1, zc, B1, p1, q1⟩ := id hW1; obtain ⟨z1, cu1⟩ := zc (hx1.out 4 (.inl rfl)).1; have j0 : x 0 = _ := (hJ1.out 0 (by kernel_rfl)); rw [j0] at hK; have f0 := z1.cell (i := 0) rfl; have y0 := z1.free 0; have f1 := z1.cell (i := 1) rfl; have y1 := z1.free 1; have f2 := z1.cell (i := 2) rfl; have y2 := z1.free 2; have f3 := z1.cell (i := 3) rfl; have y3 := z1.free 3; have f4 := z1.cell (i := 4) rfl; have y4 := z1.free 4; have f5 := z1.cell (i := 5) rfl; have y5 := z1.free 5; have f6 := z1.cell (i := 6) rfl; have y6 := z1.free 6; have f7 := z1.cell (i := 7) rfl; have y7 := z1.free 7; have f8 := z1.cell (i := 8) rfl; have y8 := z1.free 8; have f9 := z1.cell (i := 9) rfl; have y9 := z1.free 9; have f10 := z1.cell (i := 10) rfl; have y10 := z1.free 10; have f11 := z1.cell (i := 11) rfl; have y11 := z1.free 11; have f12 := z1.cell (i := 12) rfl; have y12 := z1.free 12; go_simp; clear f0 y0 f1 y1 f2 y2 f3 y3 f4 y4 f5 y5 f6 y6 f7 y7 f8 y8 f9 y9 f10 y10 f11 y11 f12 y12; have zf : Var 31 ((((((((((((((w1.setCell ⟨w.heap.size, 0, none⟩ (.int .i64 h.g.ba)).setCell ⟨w.heap.size, 1, none⟩ (.string h.g.bs)).setCell ⟨w.heap.size, 2, none⟩ (.int .i64 h.g.cp)).setCell ⟨w.heap.size, 3, none⟩ (.int .i64 h.g.lm)).setCell ⟨w.heap.size, 4, none⟩ (.bool h.g.en)).setCell ⟨w.heap.size, 5, none⟩ (.bool h.g.dn)).setCell ⟨w.heap.size, 6, none⟩ (.int .i64 h.t.nx)).setCell ⟨w.heap.size, 7, none⟩ (.string h.t.bs)).setCell ⟨w.heap.size, 8, none⟩ (.slice aT h.t.l.length cT)).setCell ⟨w.heap.size, 9, none⟩ (.int .i64 h.t.cp)).setCell ⟨w.heap.size, 10, none⟩ (.int .i64 h.t.fi)).setCell ⟨w.heap.size, 11, none⟩ (.bool h.t.en)).setCell ⟨w.heap.size, 12, none⟩ (.slice aW h.ws.length cW))) w.heap.size [.int .i64 h.g.ba, .string h.g.bs, .int .i64 h.g.cp, .int .i64 h.g.lm, .bool h.g.en, .bool h.g.dn, .int .i64 h.t.nx, .string h.t.bs, .slice aT h.t.l.length cT, .int .i64 h.t.cp, .int .i64 h.t.fi, .bool h.t.en, .slice aW h.ws.length cW] := (((((((((((((z1.set 0 _).set 1 _).set 2 _).set 3 _).set 4 _).set 5 _).set 6 _).set 7 _).set 8 _).set 9 _).set 10 _).set 11 _).set 12 _); have km : Draw.Kept w.heap.size w1 ((((((((((((((w1.setCell ⟨w.heap.size, 0, none⟩ (.int .i64 h.g.ba)).setCell ⟨w.heap.size, 1, none⟩ (.string h.g.bs)).setCell ⟨w.heap.size, 2, none⟩ (.int .i64 h.g.cp)).setCell ⟨w.heap.size, 3, none⟩ (.int .i64 h.g.lm)).setCell ⟨w.heap.size, 4, none⟩ (.bool h.g.en)).setCell ⟨w.heap.size, 5, none⟩ (.bool h.g.dn)).setCell ⟨w.heap.size, 6, none⟩ (.int .i64 h.t.nx)).setCell ⟨w.heap.size, 7, none⟩ (.string h.t.bs)).setCell ⟨w.heap.size, 8, none⟩ (.slice aT h.t.l.length cT)).setCell ⟨w.heap.size, 9, none⟩ (.int .i64 h.t.cp)).setCell ⟨w.heap.size, 10, none⟩ (.int .i64 h.t.fi)).setCell ⟨w.heap.size, 11, none⟩ (.bool h.t.en)).setCell ⟨w.heap.size, 12, none⟩ (.slice aW h.ws.length cW))) := (Draw.Kept.setCell (Draw.Kept.setCell (Draw.Kept.setCell (Draw.Kept.setCell (Draw.Kept.setCell (Draw.Kept.setCell (Draw.Kept.setCell (Draw.Kept.setCell (Draw.Kept.setCell (Draw.Kept.setCell (Draw.Kept.setCell (Draw.Kept.setCell (Draw.Kept.setCell (Draw.Kept.refl w.heap.size w1) (p := ⟨w.heap.size, 0, none⟩) (.inl rfl) _) (p := ⟨w.heap.size, 1, none⟩) (.inl rfl) _) (p := ⟨w.heap.size, 2, none⟩) (.inl rfl) _) (p := ⟨w.heap.size, 3, none⟩) (.inl rfl) _) (p := ⟨w.heap.size, 4, none⟩) (.inl rfl) _) (p := ⟨w.heap.size, 5, none⟩) (.inl rfl) _) (p := ⟨w.heap.size, 6, none⟩) (.inl rfl) _) (p := ⟨w.heap.size, 7, none⟩) (.inl rfl) _) (p := ⟨w.heap.size, 8, none⟩) (.inl rfl) _) (p := ⟨w.heap.size, 9, none⟩) (.inl rfl) _) (p := ⟨w.heap.size, 10, none⟩) (.inl rfl) _) (p := ⟨w.heap.size, 11, none⟩) (.inl rfl) _) (p := ⟨w.heap.size, 12, none⟩) (.inl rfl) _); have Bf : Below w.heap.size w ((((((((((((((w1.setCell ⟨w.heap.size, 0, none⟩ (.int .i64 h.g.ba)).setCell ⟨w.heap.size, 1, none⟩ (.string h.g.bs)).setCell ⟨w.heap.size, 2, none⟩ (.int .i64 h.g.cp)).setCell ⟨w.heap.size, 3, none⟩ (.int .i64 h.g.lm)).setCell ⟨w.heap.size, 4, none⟩ (.bool h.g.en)).setCell ⟨w.heap.size, 5, none⟩ (.bool h.g.dn)).setCell ⟨w.heap.size, 6, none⟩ (.int .i64 h.t.nx)).setCell ⟨w.heap.size, 7, none⟩ (.string h.t.bs)).setCell ⟨w.heap.size, 8, none⟩ (.slice aT h.t.l.length cT)).setCell ⟨w.heap.size, 9, none⟩ (.int .i64 h.t.cp)).setCell ⟨w.heap.size, 10, none⟩ (.int .i64 h.t.fi)).setCell ⟨w.heap.size, 11, none⟩ (.bool h.t.en)).setCell ⟨w.heap.size, 12, none⟩ (.slice aW h.ws.length cW))) := (Below.setCell (Below.setCell (Below.setCell (Below.setCell (Below.setCell (Below.setCell (Below.setCell (Below.setCell (Below.setCell (Below.setCell (Below.setCell (Below.setCell (Below.setCell B1 (p := ⟨w.heap.size, 0, none⟩) (Nat.le_refl _) _) (p := ⟨w.heap.size, 1, none⟩) (Nat.le_refl _) _) (p := ⟨w.heap.size, 2, none⟩) (Nat.le_refl _) _) (p := ⟨w.heap.size, 3, none⟩) (Nat.le_refl _) _) (p := ⟨w.heap.size, 4, none⟩) (Nat.le_refl _) _) (p := ⟨w.heap.size, 5, none⟩) (Nat.le_refl _) _) (p := ⟨w.heap.size, 6, none⟩) (Nat.le_refl _) _) (p := ⟨w.heap.size, 7, none⟩) (Nat.le_refl _) _) (p := ⟨w.heap.size, 8, none⟩) (Nat.le_refl _) _) (p := ⟨w.heap.size, 9, none⟩) (Nat.le_refl _) _) (p := ⟨w.heap.size, 10, none⟩) (Nat.le_refl _) _) (p := ⟨w.heap.size, 11, none⟩) (Nat.le_refl _) _) (p := ⟨w.heap.size, 12, none⟩) (Nat.le_refl _) _); exact hK.out undef _ ⟨v1.kept km (by omega), fun hd => absurd hd (by simp), Bf, p1.kept km (own_win (by decide) p1 z1.win), q1.kept km (own_win (by decide) q1 z1.win)⟩ (RegJ.Tell.stored (by kernel_rfl) km (by omega)) ⟨by omega, zf⟩)
    focus (simp only [List.getElem_toArray, List.getElem_cons_succ, List.getElem_cons_zero] at hK; have j1 : x 1 = _ := (hJ1.out 1 (by kernel_rfl)); rw [j1] at hK; go_simp; exact hK.out _ _ (keepW _ _ _ hW1 (by decide)) RegJ.Tell.same rfl)
    focus (simp only [List.getElem_toArray, List.getElem_cons_succ, List.getElem_cons_zero] at hK; obtain ⟨y, j3⟩ := (hJ1.out 3 (by kernel_rfl)); rw [j3] at hK; go_simp; exact hK.out _ _ (keepW _ _ _ hW1 (by decide)) RegJ.Tell.same ⟨_, rfl⟩)
  obtain ⟨-, z8⟩ := hJR 4 (by simp)
  have j5 : x 5 = _ := hJR 5 (by simp)
  obtain ⟨b, j6⟩ := hJR 6 (by simp)
  rw [j5, j6]
  clear hJR hdR keepW v8 z4 cu4 B4 p4 q4
  obtain ⟨-, -, B8, p8, q8⟩ := hWR
  have s0 := z8.cell (i := 0) rfl
  have s1 := z8.cell (i := 1) rfl
  have s2 := z8.cell (i := 2) rfl
  have s3 := z8.cell (i := 3) rfl
  have s4 := z8.cell (i := 4) rfl
  have s5 := z8.cell (i := 5) rfl
  have s6 := z8.cell (i := 6) rfl
  have s7 := z8.cell (i := 7) rfl
  have s8 := z8.cell (i := 8) rfl
  have s9 := z8.cell (i := 9) rfl
  have s10 := z8.cell (i := 10) rfl
  have s11 := z8.cell (i := 11) rfl
  have s12 := z8.cell (i := 12) rfl
  go_wp2_with fail
  refine bodyPost_ret (v := .tuple #[.agg #[.int .i64 h.g.ba, .string h.g.bs, .int .i64 h.g.cp, .int .i64 h.g.lm, .bool h.g.en, .bool h.g.dn, .int .i64 h.t.nx, .string h.t.bs, .slice aT h.t.l.length cT, .int .i64 h.t.cp, .int .i64 h.t.fi, .bool h.t.en, .slice aW h.ws.length cW], .int .i64 r, .bool b]) (by rw [Giv.res_cell_tmp2 rfl]; clear z8 B8 p8 q8; go_simp; done) rfl ⟨h, aT, cT, aW, cW, r, b, hsm, hwl, rfl, p8.mono (by omega), q8.mono (by omega), B8⟩

set_option maxRecDepth 10000 in
set_option maxHeartbeats 8000000 in
theorem drawNewHop (a : Option Addr) (len cap : Nat) (w : World) (hb : Draw.Bytes w a len) (hl : len ≤ 4096) :
    Calls Try.prog 10 #[.slice a len cap] w fun e w' => ∃ p q : Int, e = .returned (.tuple #[.int .i64 p, .int .i64 q]) ∧ Below w.heap.size w w' := by
  have hmix := mix
  go_enter Try.func10, Try.ntmps10
  go_wp2_with fail
  refine (Draw.l1New a len cap _ hb hl).mono ?_
  rintro x w1 ⟨rfl, hh, hw1⟩
  have c1 : Draw.Cur w1 w.heap.size := by rw [hw1]; exact Draw.cur_new hb hl hh _
  have B1 : Below w.heap.size w w1 := by rw [hw1]; exact (Below.refl _ _).alloc (Nat.le_refl _) _
  have h1 : w.heap.size < w1.heap.size := c1.lt
  clear hw1
  have v1 : Var 2 (w1.alloc (.cells #[.int .i64 0, .int .i64 1, .int .i64 20, .int .i64 400, .int .i64 401] 2)) w1.heap.size ([0, 1, 20, 400, 401].map (Value.int .i64)) := Var.new w1 _
  have cA := c1.alloc (.cells #[.int .i64 0, .int .i64 1, .int .i64 20, .int .i64 400, .int .i64 401] 2)
  have BA : Below w.heap.size w (w1.alloc (.cells #[.int .i64 0, .int .i64 1, .int .i64 20, .int .i64 400, .int .i64 401] 2)) := B1.alloc B1.size _
  go_wp2_with fail
  refine (Draw.l1Below _ 5 _ cA).mono ?_
  rintro e wa ⟨y, y0, y1, rfl, cua, ka⟩
  have v2 := v1.kept ka (by omega)
  have B2 := BA.trans (ka.below (by omega) BA.size)
  have hy : y < 5 := by omega
  obtain ⟨n, hc⟩ := RegJ.int_cell (ns := [0, 1, 20, 400, 401]) (i := y.toNat) v2 (by simp; omega)
  have hwl : w.heap.size < wa.heap.size := cua.lt
  clear v1 cA BA ka c1 B1 h1 y1 v2
  go_wp2_with fail
  refine RegJ.wp_region_J (W := fun d wr => Draw.Cur wr w.heap.size ∧ Below w.heap.size w wr ∧ w.heap.size < wr.heap.size) (RegJ.Tell (w.heap.size) [.eq (.int .i64 n), .row 2 ([0, 1, 20, 400, 401].map (Value.int .i64)), .eq (.pointer (some ⟨w.heap.size, 0, none⟩)), .int 0 4, .elem 2 ([0, 1, 20, 400, 401].map (Value.int .i64)), .num, .eq (.int .i64 n), .num]) [some 13, some 14, some 15, some 16, some 17, some 18, some 2, some 3] (F := ?_) (is := [0, 1, 2, 3, 4, 5, 6, 7]) hmix (by kernel_rfl) (by kernel_rfl) (by kernel_rfl) (by kernel_rfl) (fun x => ?_) (⟨cua.drew, B2.drew, hwl⟩) ?_ (fun d x wR hWR hdR hJR => ?_)
  rotate_left 1
  focus (simp only [RegJ.lay, Act.put, Nat.reduceAdd, Nat.zero_add, List.getElem_toArray, List.getElem_cons_zero, List.getElem_cons_succ, List.setIfInBounds_toArray, List.set_cons_zero, List.set_cons_succ]; rfl)
  focus
    refine RegJ.Steps.cons (RegJ.StepAt.mk rfl (fun d x w1 hW1 hJ1 hx1 K hK => ?_)) (RegJ.Steps.cons (RegJ.StepAt.mk rfl (fun d x w1 hW1 hJ1 hx1 K hK => ?_)) (RegJ.Steps.cons (RegJ.StepAt.mk rfl (fun d x w1 hW1 hJ1 hx1 K hK => ?_)) (RegJ.Steps.cons (RegJ.StepAt.mk rfl (fun d x w1 hW1 hJ1 hx1 K hK => ?_)) (RegJ.Steps.cons (RegJ.StepAt.mk rfl (fun d x w1 hW1 hJ1 hx1 K hK => ?_)) (RegJ.Steps.cons (RegJ.StepAt.mk rfl (fun d x w1 hW1 hJ1 hx1 K hK => ?_)) (RegJ.Steps.cons (RegJ.StepAt.mk rfl (fun d x w1 hW1 hJ1 hx1 K hK => ?_)) (RegJ.Steps.cons (RegJ.StepAt.mk rfl (fun d x w1 hW1 hJ1 hx1 K hK => ?_)) (RegJ.Steps.nil))))))))
    focus (simp only [List.getElem_toArray, List.getElem_cons_succ, List.getElem_cons_zero] at hK; go_simp; exact hK.out _ _ hW1 RegJ.Tell.same rfl)
    focus (simp only [List.getElem_toArray, List.getElem_cons_succ, List.getElem_cons_zero] at hK; obtain ⟨cu1, B1, hl1⟩ := id hW1; go_simp; exact hK.out _ _ ⟨cu1.alloc _, B1.alloc B1.size _, by simp; omega⟩ (RegJ.Tell.keep ((Draw.Kept.refl _ _).alloc _)) ⟨w1.heap.size, hl1, rfl, Var.new _ _⟩)
    focus (simp only [List.getElem_toArray, List.getElem_cons_succ, List.getElem_cons_zero] at hK; go_simp; exact hK.out _ _ hW1 RegJ.Tell.same rfl)
    focus (simp only [List.getElem_toArray, List.getElem_cons_succ, List.getElem_cons_zero] at hK; obtain ⟨cu1, B1, hl1⟩ := id hW1; have j2 : x 2 = _ := (hJ1.out 2 (by kernel_rfl)); rw [j2] at hK; go_simp; refine (Draw.l1Below _ _ _ cu1).mono ?_; rintro e wa ⟨y, y0, y1, rfl, cua, ka⟩; go_simp; exact hK.out _ _ ⟨cua, B1.trans (ka.below (by omega) B1.size), by have := ka.size; omega⟩ (RegJ.Tell.keep ka) ⟨y, y0, by omega, rfl⟩)
    focus (simp only [List.getElem_toArray, List.getElem_cons_succ, List.getElem_cons_zero] at hK; obtain ⟨b, hb, j1, vb⟩ := (hJ1.out 1 (by kernel_rfl)); obtain ⟨y, y0, y1, j3⟩ := (hJ1.out 3 (by kernel_rfl)); rw [j1, j3] at hK; have hy : y < 5 := (by omega); go_simp; exact hK.out (.pointer (some ⟨b, y.toNat, none⟩)) _ hW1 RegJ.Tell.same ⟨b, y.toNat, hb, (by simp; omega), rfl, vb⟩)
    focus (simp only [List.getElem_toArray, List.getElem_cons_succ, List.getElem_cons_zero] at hK; obtain ⟨b, i, hb, hi, j4, vb⟩ := (hJ1.out 4 (by kernel_rfl)); rw [j4] at hK; obtain ⟨m, hc⟩ := RegJ.int_cell (ns := [0, 1, 20, 400, 401]) vb hi; go_simp; exact hK.out (.int .i64 m) _ hW1 RegJ.Tell.same ⟨m, rfl⟩)
    focus (simp only [List.getElem_toArray, List.getElem_cons_succ, List.getElem_cons_zero] at hK; have j0 : x 0 = _ := (hJ1.out 0 (by kernel_rfl)); rw [j0] at hK; go_simp; exact hK.out _ _ hW1 RegJ.Tell.same rfl)
    focus (simp only [List.getElem_toArray, List.getElem_cons_succ, List.getElem_cons_zero] at hK; obtain ⟨m, j5⟩ := (hJ1.out 5 (by kernel_rfl)); rw [j5] at hK; go_simp; exact hK.out _ _ hW1 RegJ.Tell.same ⟨_, rfl⟩)
  have j6 : x 6 = _ := hJR 6 (by simp)
  obtain ⟨q, j7⟩ := hJR 7 (by simp)
  rw [j6, j7]
  clear hJR hdR
  obtain ⟨-, B8, -⟩ := hWR
  go_wp2_with fail
  go_ret2
  exact ⟨n, q, rfl, B8⟩

end Go.Proofs.Ytonhjlhpppfcpaa.Hop
