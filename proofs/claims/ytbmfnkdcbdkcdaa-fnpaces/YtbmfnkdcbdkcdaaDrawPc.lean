/- Draws of chapter 9: l9Draw, DrawMeasured, DrawPaceOk, DrawLonger: they return a pace, whatever it is, and turn no block but the cursor's; at most 4096 bytes. -/
import Derived.Test.YtbmfnkdcbdkcdaaPacC
import Derived.Test.YtbmfnkdcbdkcdaaDrawS
import Derived.Test.YtbmfnkdcbdkcdaaSh
import Derived.Deep.CutRange
namespace Go.Proofs.Ytbmfnkdcbdkcdaa.Pac
open Go.RowKit RowG
set_option linter.unusedVariables false
set_option linter.unusedSimpArgs false

/-- The draw's pace p lies in block k3, its answer, still nought, in block w0.heap.size. -/
structure St (w0 : World) (c k3 : Nat) (w : World) (p : Pc) : Prop where
  lc : c < w0.heap.size
  l3 : w0.heap.size < k3
  v : Var 25 w k3 [.int .i64 p.mn, .int .i64 p.sp, .int .i64 p.wt, .int .i64 p.tm]
  z : Var 25 w w0.heap.size [.int .i64 0, .int .i64 0, .int .i64 0, .int .i64 0]
  cu : Draw.Cur w c
  kp : Draw.Kept c w0 w
theorem St.drew {w0 w : World} {c k3 : Nat} {p : Pc} (h : St w0 c k3 w p) : St w0 c k3 w.drew p := ⟨h.lc, h.l3, h.v.drew, h.z.drew, h.cu.drew, h.kp.drew⟩
theorem St.alloc {w0 w : World} {c k3 : Nat} {p : Pc} (h : St w0 c k3 w p) (o : Obj) : St w0 c k3 (w.alloc o) p := ⟨h.lc, h.l3, h.v.alloc o, h.z.alloc o, h.cu.alloc o, h.kp.alloc o⟩
theorem St.later {w0 w w' : World} {c k3 : Nat} {p : Pc} (h : St w0 c k3 w p) (b : Below w.heap.size w w') : St w0 c k3 w' p := ⟨h.lc, h.l3, h.v.later b, h.z.later b, h.cu.below b (Nat.le_refl _), h.kp.trans (Draw.Kept.ofBelow b (Nat.le_refl _))⟩
theorem St.drawn {w0 w w' : World} {c k3 : Nat} {p : Pc} (h : St w0 c k3 w p) (cu : Draw.Cur w' c) (k : Draw.Kept c w w') : St w0 c k3 w' p := ⟨h.lc, h.l3, h.v.kept k (by have := h.lc; have := h.l3; omega), h.z.kept k (by have := h.lc; omega), cu, h.kp.trans k⟩
theorem cur_other {w : World} {c : Nat} (h : Draw.Cur w c) {p : Addr} (hp : c < p.block) (v : Value) : Draw.Cur (w.setCell p v) c := h.upto fun i hi => Below.heap_setCell _ _ _ _ (by omega)
theorem St.one {w0 w : World} {c k3 i : Nat} {p q : Pc} {u : Value} (h : St w0 c k3 w p) (hi : i < 4) (hv : Var 25 (w.setCell ⟨k3, i, none⟩ u) k3 [.int .i64 q.mn, .int .i64 q.sp, .int .i64 q.wt, .int .i64 q.tm]) : St w0 c k3 (w.setCell ⟨k3, i, none⟩ u) q :=
  ⟨h.lc, h.l3, hv, h.z.other (by have := h.l3; dsimp only; omega) _, cur_other h.cu (by have := h.l3; have := h.lc; dsimp only; omega) _, h.kp.setCell (p := ⟨k3, i, none⟩) (.inr (by have := h.l3; dsimp only; omega)) _⟩
theorem put_kept (w : World) (k3 : Nat) (q : Pc) : Draw.Kept k3 w ((((w.setCell ⟨k3, 0, none⟩ (.int .i64 q.mn)).setCell ⟨k3, 1, none⟩ (.int .i64 q.sp)).setCell ⟨k3, 2, none⟩ (.int .i64 q.wt)).setCell ⟨k3, 3, none⟩ (.int .i64 q.tm)) :=
  ((((Draw.Kept.refl k3 w).setCell (p := ⟨k3, 0, none⟩) (.inl rfl) _).setCell (p := ⟨k3, 1, none⟩) (.inl rfl) _).setCell (p := ⟨k3, 2, none⟩) (.inl rfl) _).setCell (p := ⟨k3, 3, none⟩) (.inl rfl) _
theorem St.put {w0 w : World} {c k3 : Nat} {p : Pc} (h : St w0 c k3 w p) (q : Pc) : St w0 c k3 ((((w.setCell ⟨k3, 0, none⟩ (.int .i64 q.mn)).setCell ⟨k3, 1, none⟩ (.int .i64 q.sp)).setCell ⟨k3, 2, none⟩ (.int .i64 q.wt)).setCell ⟨k3, 3, none⟩ (.int .i64 q.tm)) q := by
  have k := put_kept w k3 q
  exact ⟨h.lc, h.l3, (((h.v.set 0 _).set 1 _).set 2 _).set 3 _, h.z.kept k (by have := h.l3; omega), h.cu.upto fun i hi => k.block i (by have := h.cu.lt; omega) (by have := h.l3; have := h.lc; omega), ⟨k.os.trans h.kp.os, k.tape.trans h.kp.tape, k.output.trans h.kp.output, Nat.le_trans h.kp.size k.size, fun i hi hc => (k.block i (Nat.lt_of_lt_of_le hi h.kp.size) (by have := h.l3; omega)).trans (h.kp.block i hi hc)⟩⟩

set_option maxRecDepth 10000 in
set_option maxHeartbeats 8000000 in
theorem l9Draw (c : Nat) (w : World) (h : Draw.Cur w c) :
    Calls Try.prog 24 #[.pointer (some ⟨c, 0, none⟩)] w fun x w' => ∃ p : Pc, x = .returned p.v ∧ Draw.Cur w' c ∧ Draw.Kept c w w' := by
  have hmix := Tak.mix
  have hlt := h.lt
  have z0 : Var 25 (w.alloc (.cells #[.int .i64 0, .int .i64 0, .int .i64 0, .int .i64 0] 25)) w.heap.size [.int .i64 0, .int .i64 0, .int .i64 0, .int .i64 0] := Var.new w _
  have c0 := h.alloc (.cells #[.int .i64 0, .int .i64 0, .int .i64 0, .int .i64 0] 25)
  have p0 := (Draw.Kept.refl c w).alloc (.cells #[.int .i64 0, .int .i64 0, .int .i64 0, .int .i64 0] 25)
  go_enter Try.func24, Try.ntmps24
  go_wp2_with fail
  refine (specNewPace _).mono ?_
  rintro x w1 ⟨rfl, b1⟩
  have hk3 : w.heap.size < w1.heap.size := (z0.later b1).lt
  have ST : St w c w1.heap.size (w1.alloc (.cells #[.int .i64 0, .int .i64 0, .int .i64 1000, .int .i64 0] 25)) ⟨0, 0, 1000, 0⟩ := ⟨hlt, hk3, Var.new w1 _, (z0.later b1).alloc _, (c0.below b1 (Nat.le_refl _)).alloc _, (p0.trans (Draw.Kept.ofBelow b1 (Nat.le_refl _))).alloc _⟩
  clear z0 c0 p0 b1 h
  go_upto_region 2 with (fail)
  generalize w1.alloc (.cells #[.int .i64 0, .int .i64 0, .int .i64 1000, .int .i64 0] 25) = W at *
  generalize w1.heap.size = k3 at *
  go_wp2_with fail
  refine (Draw.l1Below _ _ _ ST.cu).mono ?_
  rintro e w2 ⟨n, n0, n1, rfl, c2, k2⟩
  replace ST := ST.drawn c2 k2
  have n2 : n ≤ 8 := by omega
  clear n1 c2 k2
  go_wp2_with fail
  go_loopw [4] (fun nv wr => ∃ (m : Int) (p : Pc), 0 ≤ m ∧ m ≤ 8 ∧ nv = .int .i64 m ∧ St w c k3 wr p) (fun nv _ => (intOf nv).toNat)
  case atStart => exact ⟨n, _, n0, n2, rfl, ST⟩
  case round =>
    clear ST n0 n2
    obtain ⟨m, p, m0, m1, rfl, ST⟩ := hrel
    by_cases hm : 0 < m
    case neg =>
      go_wp2_with fail
      refine (Draw.l1Once _ _ _ ST.cu).mono ?_
      rintro e w2 ⟨b, rfl, c2, k2⟩
      replace ST := ST.drawn c2 k2
      clear c2 k2
      go_upto_if 24 with (fail)
      go_cut [] from 25 (fun wr => ∃ p, St w c k3 wr p)
      case first =>
        cases b
        case false =>
          go_wp2_with fail
          go_meet
          exact ⟨p, ST⟩
        case true =>
          go_wp2_with fail
          refine (Draw.l1Below _ _ _ ST.cu).mono ?_
          rintro e w3 ⟨q, q0, q1, rfl, c3, k3'⟩
          replace ST := ST.drawn c3 k3'
          have q2 : q = 0 ∨ q = 1 ∨ q = 2 ∨ q = 3 := by omega
          clear q0 q1 c3 k3'
          rcases q2 with rfl | rfl | rfl | rfl
          focus
            have va : Var 2 (w3.alloc (.cells #[.int .i64 (-1), .int .i64 480000, .int .i64 480001] 2)) w3.heap.size ([-1, 480000, 480001].map (Value.int .i64)) := Var.new w3 _
            have hk3 := ST.v.lt
            replace ST := ST.alloc (.cells #[.int .i64 (-1), .int .i64 480000, .int .i64 480001] 2)
            go_wp2_with fail
            refine (Draw.l1Below _ _ _ ST.cu).mono ?_
            rintro e w4 ⟨y, y0, y1, rfl, c4, k4⟩
            have y2 : y < 3 := by omega
            have vb := va.kept k4 (by omega)
            replace ST := ST.drawn c4 k4
            obtain ⟨m, hc⟩ := RegJ.int_cell (ns := [-1, 480000, 480001]) (i := y.toNat) vb (by simp; omega)
            clear va vb y1 k4 c4
            have e0 := ST.v.cell (i := 0) rfl
            have f0 := ST.v.free 0
            go_wp2_with fail
            have SE : St w c k3 (w4.setCell ⟨k3, 0, none⟩ (.int .i64 m)) ⟨m, p.sp, p.wt, p.tm⟩ := ST.one (by omega) (ST.v.set 0 (.int .i64 m))
            go_meet
            exact ⟨_, SE⟩
          focus
            have va : Var 2 (w3.alloc (.cells #[.int .i64 (-1), .int .i64 480000, .int .i64 480001] 2)) w3.heap.size ([-1, 480000, 480001].map (Value.int .i64)) := Var.new w3 _
            have hk3 := ST.v.lt
            replace ST := ST.alloc (.cells #[.int .i64 (-1), .int .i64 480000, .int .i64 480001] 2)
            go_wp2_with fail
            refine (Draw.l1Below _ _ _ ST.cu).mono ?_
            rintro e w4 ⟨y, y0, y1, rfl, c4, k4⟩
            have y2 : y < 3 := by omega
            have vb := va.kept k4 (by omega)
            replace ST := ST.drawn c4 k4
            obtain ⟨m, hc⟩ := RegJ.int_cell (ns := [-1, 480000, 480001]) (i := y.toNat) vb (by simp; omega)
            clear va vb y1 k4 c4
            have e1 := ST.v.cell (i := 1) rfl
            have f1 := ST.v.free 1
            go_wp2_with fail
            have SE : St w c k3 (w4.setCell ⟨k3, 1, none⟩ (.int .i64 m)) ⟨p.mn, m, p.wt, p.tm⟩ := ST.one (by omega) (ST.v.set 1 (.int .i64 m))
            go_meet
            exact ⟨_, SE⟩
          focus
            have va : Var 2 (w3.alloc (.cells #[.int .i64 199, .int .i64 200, .int .i64 60000, .int .i64 60001] 2)) w3.heap.size ([199, 200, 60000, 60001].map (Value.int .i64)) := Var.new w3 _
            have hk3 := ST.v.lt
            replace ST := ST.alloc (.cells #[.int .i64 199, .int .i64 200, .int .i64 60000, .int .i64 60001] 2)
            go_wp2_with fail
            refine (Draw.l1Below _ _ _ ST.cu).mono ?_
            rintro e w4 ⟨y, y0, y1, rfl, c4, k4⟩
            have y2 : y < 4 := by omega
            have vb := va.kept k4 (by omega)
            replace ST := ST.drawn c4 k4
            obtain ⟨m, hc⟩ := RegJ.int_cell (ns := [199, 200, 60000, 60001]) (i := y.toNat) vb (by simp; omega)
            clear va vb y1 k4 c4
            have e2 := ST.v.cell (i := 2) rfl
            have f2 := ST.v.free 2
            go_wp2_with fail
            have SE : St w c k3 (w4.setCell ⟨k3, 2, none⟩ (.int .i64 m)) ⟨p.mn, p.sp, m, p.tm⟩ := ST.one (by omega) (ST.v.set 2 (.int .i64 m))
            go_meet
            exact ⟨_, SE⟩
          focus
            have va : Var 2 (w3.alloc (.cells #[.int .i64 (-1), .int .i64 20, .int .i64 21] 2)) w3.heap.size ([-1, 20, 21].map (Value.int .i64)) := Var.new w3 _
            have hk3 := ST.v.lt
            replace ST := ST.alloc (.cells #[.int .i64 (-1), .int .i64 20, .int .i64 21] 2)
            go_wp2_with fail
            refine (Draw.l1Below _ _ _ ST.cu).mono ?_
            rintro e w4 ⟨y, y0, y1, rfl, c4, k4⟩
            have y2 : y < 3 := by omega
            have vb := va.kept k4 (by omega)
            replace ST := ST.drawn c4 k4
            obtain ⟨m, hc⟩ := RegJ.int_cell (ns := [-1, 20, 21]) (i := y.toNat) vb (by simp; omega)
            clear va vb y1 k4 c4
            have e3 := ST.v.cell (i := 3) rfl
            have f3 := ST.v.free 3
            go_wp2_with fail
            have SE : St w c k3 (w4.setCell ⟨k3, 3, none⟩ (.int .i64 m)) ⟨p.mn, p.sp, p.wt, m⟩ := ST.one (by omega) (ST.v.set 3 (.int .i64 m))
            go_meet
            exact ⟨_, SE⟩
      case rest =>
        clear ST
        obtain ⟨p, ST⟩ := hcut
        have e0 := ST.v.cell (i := 0) rfl; have e1 := ST.v.cell (i := 1) rfl; have e2 := ST.v.cell (i := 2) rfl; have e3 := ST.v.cell (i := 3) rfl
        have a0 := ST.z.cell (i := 0) rfl; have a1 := ST.z.cell (i := 1) rfl; have a2 := ST.z.cell (i := 2) rfl; have a3 := ST.z.cell (i := 3) rfl
        have y0 := ST.z.free 0; have y1 := ST.z.free 1; have y2 := ST.z.free 2; have y3 := ST.z.free 3
        go_wp2_with fail
        have r2 : Var 25 ((((wc.setCell ⟨w.heap.size, 0, none⟩ (.int .i64 p.mn)).setCell ⟨w.heap.size, 1, none⟩ (.int .i64 p.sp)).setCell ⟨w.heap.size, 2, none⟩ (.int .i64 p.wt)).setCell ⟨w.heap.size, 3, none⟩ (.int .i64 p.tm)) w.heap.size [.int .i64 p.mn, .int .i64 p.sp, .int .i64 p.wt, .int .i64 p.tm] := (((ST.z.set 0 _).set 1 _).set 2 _).set 3 _
        have cE : Draw.Cur ((((wc.setCell ⟨w.heap.size, 0, none⟩ (.int .i64 p.mn)).setCell ⟨w.heap.size, 1, none⟩ (.int .i64 p.sp)).setCell ⟨w.heap.size, 2, none⟩ (.int .i64 p.wt)).setCell ⟨w.heap.size, 3, none⟩ (.int .i64 p.tm)) c := cur_other (cur_other (cur_other (cur_other ST.cu (by exact hlt) _) (by exact hlt) _) (by exact hlt) _) (by exact hlt) _
        have kE : Draw.Kept c w ((((wc.setCell ⟨w.heap.size, 0, none⟩ (.int .i64 p.mn)).setCell ⟨w.heap.size, 1, none⟩ (.int .i64 p.sp)).setCell ⟨w.heap.size, 2, none⟩ (.int .i64 p.wt)).setCell ⟨w.heap.size, 3, none⟩ (.int .i64 p.tm)) := (((ST.kp.setCell (p := ⟨w.heap.size, 0, none⟩) (.inr (Nat.le_refl _)) _).setCell (p := ⟨w.heap.size, 1, none⟩) (.inr (Nat.le_refl _)) _).setCell (p := ⟨w.heap.size, 2, none⟩) (.inr (Nat.le_refl _)) _).setCell (p := ⟨w.heap.size, 3, none⟩) (.inr (Nat.le_refl _)) _
        generalize ((((wc.setCell ⟨w.heap.size, 0, none⟩ (.int .i64 p.mn)).setCell ⟨w.heap.size, 1, none⟩ (.int .i64 p.sp)).setCell ⟨w.heap.size, 2, none⟩ (.int .i64 p.wt)).setCell ⟨w.heap.size, 3, none⟩ (.int .i64 p.tm)) = W4 at *
        have s0 := r2.cell (i := 0) rfl; have s1 := r2.cell (i := 1) rfl; have s2 := r2.cell (i := 2) rfl; have s3 := r2.cell (i := 3) rfl
        refine bodyPost_ret (v := .agg #[.int .i64 p.mn, .int .i64 p.sp, .int .i64 p.wt, .int .i64 p.tm]) (by rw [res_cellP rfl]; clear r2 cE kE ST e0 e1 e2 e3 a0 a1 a2 a3 y0 y1 y2 y3; go_simp; done) rfl ⟨p, rfl, cE, kE⟩
    case pos =>
      go_wp2_with fail
      refine (Draw.l1Once _ _ _ ST.cu).mono ?_
      rintro e w2 ⟨b, rfl, c2, k2⟩
      replace ST := ST.drawn c2 k2
      clear c2 k2
      cases b
      case true =>
        have e0 := ST.v.cell (i := 0) rfl; have e1 := ST.v.cell (i := 1) rfl; have e2 := ST.v.cell (i := 2) rfl; have e3 := ST.v.cell (i := 3) rfl
        go_wp2_with fail
        refine (specLonger p _).mono ?_
        rintro e w3 ⟨rfl, b3⟩
        replace ST := ST.later b3
        clear b3 e0 e1 e2 e3
        generalize longP p = q at *
        have e0 := ST.v.cell (i := 0) rfl; have e1 := ST.v.cell (i := 1) rfl; have e2 := ST.v.cell (i := 2) rfl; have e3 := ST.v.cell (i := 3) rfl
        have f0 := ST.v.free 0; have f1 := ST.v.free 1; have f2 := ST.v.free 2; have f3 := ST.v.free 3
        go_wp2_with fail
        replace ST := ST.put q
        go_roundw
        case rel => exact ⟨m - 1, q, by omega, by omega, rfl, ST⟩
        case measure => simp [intOf]; omega
      case false =>
        have hl3 := ST.l3
        have keepW : ∀ (i : Nat) (d : Nat → Bool) (w1 : World), (fun d wr => (d 7 = false → St w c k3 wr p) ∧ (d 7 = true → ∃ q, St w c k3 wr q)) d w1 → i ≠ 7 → (fun d wr => (d 7 = false → St w c k3 wr p) ∧ (d 7 = true → ∃ q, St w c k3 wr q)) (fun j => j == i || d j) w1 := fun i d w1 hW hi => ⟨fun hd => hW.1 (by simpa using hd : (7 : Nat) ≠ i ∧ d 7 = false).2, fun hd => hW.2 (by rcases (by simpa using hd : (7 : Nat) = i ∨ d 7 = true) with q | q; exact absurd q.symm hi; exact q)⟩
        go_wp2_with fail
        refine RegJ.wp_region_J (W := fun d wr => (d 7 = false → St w c k3 wr p) ∧ (d 7 = true → ∃ q, St w c k3 wr q)) (RegJ.Tell (k3) [.eq p.v, .row 2 ([0, 7, 100, 250, 1000, 60000].map (Value.int .i64)), .eq (.pointer (some ⟨c, 0, none⟩)), .int 0 5, .elem 2 ([0, 7, 100, 250, 1000, 60000].map (Value.int .i64)), .num, .sat (fun v => ∃ q : Pc, v = q.v), .any]) [some 16, some 17, some 18, some 19, some 20, some 21, some 22, none] (F := ?_) (is := [0, 1, 2, 3, 4, 5, 6, 7]) hmix (by kernel_rfl) (by kernel_rfl) (by kernel_rfl) (by kernel_rfl) (fun x => ?_) (⟨fun _ => ST.drew, fun hd => (by cases hd)⟩) ?_ (fun d x wR hWR hdR hJR => ?_)
        rotate_left 1
        focus (simp only [RegJ.lay, Act.put, Nat.reduceAdd, Nat.zero_add, List.getElem_toArray, List.getElem_cons_zero, List.getElem_cons_succ, List.setIfInBounds_toArray, List.set_cons_zero, List.set_cons_succ]; rfl)
        focus
          refine RegJ.Steps.cons (RegJ.StepAt.mk rfl (fun d x w1 hW1 hJ1 hx1 K hK => ?_)) (RegJ.Steps.cons (RegJ.StepAt.mk rfl (fun d x w1 hW1 hJ1 hx1 K hK => ?_)) (RegJ.Steps.cons (RegJ.StepAt.mk rfl (fun d x w1 hW1 hJ1 hx1 K hK => ?_)) (RegJ.Steps.cons (RegJ.StepAt.mk rfl (fun d x w1 hW1 hJ1 hx1 K hK => ?_)) (RegJ.Steps.cons (RegJ.StepAt.mk rfl (fun d x w1 hW1 hJ1 hx1 K hK => ?_)) (RegJ.Steps.cons (RegJ.StepAt.mk rfl (fun d x w1 hW1 hJ1 hx1 K hK => ?_)) (RegJ.Steps.cons (RegJ.StepAt.mk rfl (fun d x w1 hW1 hJ1 hx1 K hK => ?_)) (RegJ.Steps.cons (RegJ.StepAt.mk rfl (fun d x w1 hW1 hJ1 hx1 K hK => ?_)) (RegJ.Steps.nil))))))))
          focus (simp only [List.getElem_toArray, List.getElem_cons_succ, List.getElem_cons_zero] at hK; have S1 := hW1.1 (hx1.out 7 (.inr (by kernel_rfl))).1; have e0 := S1.v.cell (i := 0) rfl; have e1 := S1.v.cell (i := 1) rfl; have e2 := S1.v.cell (i := 2) rfl; have e3 := S1.v.cell (i := 3) rfl; go_simp; exact hK.out _ _ (keepW _ _ _ hW1 (by decide)) RegJ.Tell.same rfl)
          focus (simp only [List.getElem_toArray, List.getElem_cons_succ, List.getElem_cons_zero] at hK; have S1 := hW1.1 (hx1.out 7 (.inr (by kernel_rfl))).1; have hl := S1.v.lt; go_simp; exact hK.out _ _ ⟨fun _ => S1.alloc _, fun hd => absurd hd (by simp [(hx1.out 7 (.inr (by kernel_rfl))).1])⟩ (RegJ.Tell.keep ((Draw.Kept.refl _ _).alloc _)) ⟨w1.heap.size, hl, rfl, Var.new _ _⟩)
          focus (simp only [List.getElem_toArray, List.getElem_cons_succ, List.getElem_cons_zero] at hK; go_simp; exact hK.out _ _ (keepW _ _ _ hW1 (by decide)) RegJ.Tell.same rfl)
          focus (simp only [List.getElem_toArray, List.getElem_cons_succ, List.getElem_cons_zero] at hK; have S1 := hW1.1 (hx1.out 7 (.inr (by kernel_rfl))).1; have j2 : x 2 = _ := (hJ1.out 2 (by kernel_rfl)); rw [j2] at hK; go_simp; refine (Draw.l1Below _ _ _ S1.cu).mono ?_; rintro e wa ⟨y, y0, y1, rfl, cua, ka⟩; go_simp; exact hK.out _ _ ⟨fun _ => S1.drawn cua ka, fun hd => absurd hd (by simp [(hx1.out 7 (.inr (by kernel_rfl))).1])⟩ (RegJ.Tell.keepLe ka (by omega)) ⟨y, y0, by omega, rfl⟩)
          focus (simp only [List.getElem_toArray, List.getElem_cons_succ, List.getElem_cons_zero] at hK; obtain ⟨b, hb, j1, vb⟩ := (hJ1.out 1 (by kernel_rfl)); obtain ⟨y, y0, y1, j3⟩ := (hJ1.out 3 (by kernel_rfl)); rw [j1, j3] at hK; have hy : y < 6 := (by omega); go_simp; exact hK.out (.pointer (some ⟨b, y.toNat, none⟩)) _ (keepW _ _ _ hW1 (by decide)) RegJ.Tell.same ⟨b, y.toNat, hb, (by simp; omega), rfl, vb⟩)
          focus (simp only [List.getElem_toArray, List.getElem_cons_succ, List.getElem_cons_zero] at hK; obtain ⟨b, i, hb, hi, j4, vb⟩ := (hJ1.out 4 (by kernel_rfl)); rw [j4] at hK; obtain ⟨m, hc⟩ := RegJ.int_cell (ns := [0, 7, 100, 250, 1000, 60000]) vb hi; go_simp; exact hK.out (.int .i64 m) _ (keepW _ _ _ hW1 (by decide)) RegJ.Tell.same ⟨m, rfl⟩)
          focus (simp only [List.getElem_toArray, List.getElem_cons_succ, List.getElem_cons_zero] at hK; have S1 := hW1.1 (hx1.out 7 (.inr (by kernel_rfl))).1; have j0 : x 0 = _ := (hJ1.out 0 (by kernel_rfl)); rw [j0] at hK; obtain ⟨m, j5⟩ := (hJ1.out 5 (by kernel_rfl)); rw [j5] at hK; go_simp; refine (specMeasured p m _).mono ?_; rintro e wa ⟨rfl, ba⟩; go_simp; exact hK.out _ _ ⟨fun _ => S1.later ba, fun hd => absurd hd (by simp [(hx1.out 7 (.inr (by kernel_rfl))).1])⟩ (RegJ.Tell.keepLe (Draw.Kept.ofBelow (c := c) ba (Nat.le_refl _)) (by omega)) ⟨measP p m, rfl⟩)
          focus (simp only [List.getElem_toArray, List.getElem_cons_succ, List.getElem_cons_zero] at hK; have S1 := hW1.1 (hx1.out 7 (.inl rfl)).1; obtain ⟨q, j6⟩ := (hJ1.out 6 (by kernel_rfl)); rw [j6] at hK; have e0 := S1.v.cell (i := 0) rfl; have e1 := S1.v.cell (i := 1) rfl; have e2 := S1.v.cell (i := 2) rfl; have e3 := S1.v.cell (i := 3) rfl; have f0 := S1.v.free 0; have f1 := S1.v.free 1; have f2 := S1.v.free 2; have f3 := S1.v.free 3; go_simp; exact hK.out undef _ ⟨fun hd => absurd hd (by simp), fun _ => ⟨q, S1.put q⟩⟩ (RegJ.Tell.stored (k0 := k3) (by kernel_rfl) (put_kept _ _ q) (Nat.le_refl _)) trivial)
        obtain ⟨q, ST'⟩ := hWR.2 (hdR 7 (by simp))
        clear hJR hdR hWR keepW ST
        go_wp2_with fail
        go_roundw
        case rel => exact ⟨m - 1, q, by omega, by omega, rfl, ST'⟩
        case measure => simp [intOf]; omega

set_option maxRecDepth 10000 in
set_option maxHeartbeats 4000000 in
theorem drawPaceOk (a : Option Addr) (len cap : Nat) (w : World) (hb : Draw.Bytes w a len) (hl : len ≤ 4096) :
    Calls Try.prog 29 #[.slice a len cap] w fun x w' => ∃ p : Pc, x = .returned p.v ∧ Below w.heap.size w w' := by
  have z0 : Var 25 (w.alloc (.cells #[.int .i64 0, .int .i64 0, .int .i64 0, .int .i64 0] 25)) w.heap.size [.int .i64 0, .int .i64 0, .int .i64 0, .int .i64 0] := Var.new w _
  have b0 : Below w.heap.size w (w.alloc (.cells #[.int .i64 0, .int .i64 0, .int .i64 0, .int .i64 0] 25)) := (Below.refl _ _).alloc (Nat.le_refl _) _
  have hb0 := hb.below b0 (Nat.le_refl _)
  go_enter Try.func29, Try.ntmps29
  go_wp2_with fail
  refine (Draw.l1New a len cap _ hb0 hl).mono ?_
  rintro x w1 ⟨rfl, hh, hw1⟩
  have c1 : Draw.Cur w1 (w.heap.size + 1) := by rw [hw1]; simpa using Draw.cur_new hb0 hl hh _
  have b1 : Below (w.heap.size + 1) (w.alloc (.cells #[.int .i64 0, .int .i64 0, .int .i64 0, .int .i64 0] 25)) w1 := by rw [hw1]; exact (Below.refl _ _).alloc (by simp) _
  replace z0 := z0.later (b1.mono (by simp))
  replace b0 := b0.trans (b1.mono (by simp))
  clear b1 hw1 hb0
  go_wp2_with fail
  refine (l9Draw _ _ c1).mono ?_
  rintro x w2 ⟨p, rfl, c2, k2⟩
  replace z0 := z0.kept k2 (by omega)
  replace b0 := b0.trans (k2.below (by omega) b0.size)
  clear c1 c2 k2
  have a0 := z0.cell (i := 0) rfl; have a1 := z0.cell (i := 1) rfl; have a2 := z0.cell (i := 2) rfl; have a3 := z0.cell (i := 3) rfl
  have y0 := z0.free 0; have y1 := z0.free 1; have y2 := z0.free 2; have y3 := z0.free 3
  go_wp2_with fail
  have r2 : Var 25 ((((w2.setCell ⟨w.heap.size, 0, none⟩ (.int .i64 p.mn)).setCell ⟨w.heap.size, 1, none⟩ (.int .i64 p.sp)).setCell ⟨w.heap.size, 2, none⟩ (.int .i64 p.wt)).setCell ⟨w.heap.size, 3, none⟩ (.int .i64 p.tm)) w.heap.size [.int .i64 p.mn, .int .i64 p.sp, .int .i64 p.wt, .int .i64 p.tm] := (((z0.set 0 _).set 1 _).set 2 _).set 3 _
  have bE : Below w.heap.size w ((((w2.setCell ⟨w.heap.size, 0, none⟩ (.int .i64 p.mn)).setCell ⟨w.heap.size, 1, none⟩ (.int .i64 p.sp)).setCell ⟨w.heap.size, 2, none⟩ (.int .i64 p.wt)).setCell ⟨w.heap.size, 3, none⟩ (.int .i64 p.tm)) := (((b0.setCell (p := ⟨w.heap.size, 0, none⟩) (Nat.le_refl _) _).setCell (p := ⟨w.heap.size, 1, none⟩) (Nat.le_refl _) _).setCell (p := ⟨w.heap.size, 2, none⟩) (Nat.le_refl _) _).setCell (p := ⟨w.heap.size, 3, none⟩) (Nat.le_refl _) _
  generalize ((((w2.setCell ⟨w.heap.size, 0, none⟩ (.int .i64 p.mn)).setCell ⟨w.heap.size, 1, none⟩ (.int .i64 p.sp)).setCell ⟨w.heap.size, 2, none⟩ (.int .i64 p.wt)).setCell ⟨w.heap.size, 3, none⟩ (.int .i64 p.tm)) = W4 at *
  have s0 := r2.cell (i := 0) rfl; have s1 := r2.cell (i := 1) rfl; have s2 := r2.cell (i := 2) rfl; have s3 := r2.cell (i := 3) rfl
  refine bodyPost_ret (v := .agg #[.int .i64 p.mn, .int .i64 p.sp, .int .i64 p.wt, .int .i64 p.tm]) (by rw [res_cellP rfl]; clear r2 bE z0 b0 a0 a1 a2 a3 y0 y1 y2 y3; go_simp; done) rfl ⟨p, rfl, bE⟩

set_option maxRecDepth 10000 in
set_option maxHeartbeats 4000000 in
theorem drawLonger (a : Option Addr) (len cap : Nat) (w : World) (hb : Draw.Bytes w a len) (hl : len ≤ 4096) :
    Calls Try.prog 12 #[.slice a len cap] w fun x w' => ∃ p : Pc, x = .returned p.v ∧ Below w.heap.size w w' := by
  have z0 : Var 25 (w.alloc (.cells #[.int .i64 0, .int .i64 0, .int .i64 0, .int .i64 0] 25)) w.heap.size [.int .i64 0, .int .i64 0, .int .i64 0, .int .i64 0] := Var.new w _
  have b0 : Below w.heap.size w (w.alloc (.cells #[.int .i64 0, .int .i64 0, .int .i64 0, .int .i64 0] 25)) := (Below.refl _ _).alloc (Nat.le_refl _) _
  have hb0 := hb.below b0 (Nat.le_refl _)
  go_enter Try.func12, Try.ntmps12
  go_wp2_with fail
  refine (drawPaceOk a len cap _ hb0 hl).mono ?_
  rintro x w2 ⟨p, rfl, b1⟩
  replace z0 := z0.later b1
  replace b0 := b0.trans (b1.mono b0.size)
  clear b1 hb0
  have a0 := z0.cell (i := 0) rfl; have a1 := z0.cell (i := 1) rfl; have a2 := z0.cell (i := 2) rfl; have a3 := z0.cell (i := 3) rfl
  have y0 := z0.free 0; have y1 := z0.free 1; have y2 := z0.free 2; have y3 := z0.free 3
  go_wp2_with fail
  have r2 : Var 25 ((((w2.setCell ⟨w.heap.size, 0, none⟩ (.int .i64 p.mn)).setCell ⟨w.heap.size, 1, none⟩ (.int .i64 p.sp)).setCell ⟨w.heap.size, 2, none⟩ (.int .i64 p.wt)).setCell ⟨w.heap.size, 3, none⟩ (.int .i64 p.tm)) w.heap.size [.int .i64 p.mn, .int .i64 p.sp, .int .i64 p.wt, .int .i64 p.tm] := (((z0.set 0 _).set 1 _).set 2 _).set 3 _
  have bE : Below w.heap.size w ((((w2.setCell ⟨w.heap.size, 0, none⟩ (.int .i64 p.mn)).setCell ⟨w.heap.size, 1, none⟩ (.int .i64 p.sp)).setCell ⟨w.heap.size, 2, none⟩ (.int .i64 p.wt)).setCell ⟨w.heap.size, 3, none⟩ (.int .i64 p.tm)) := (((b0.setCell (p := ⟨w.heap.size, 0, none⟩) (Nat.le_refl _) _).setCell (p := ⟨w.heap.size, 1, none⟩) (Nat.le_refl _) _).setCell (p := ⟨w.heap.size, 2, none⟩) (Nat.le_refl _) _).setCell (p := ⟨w.heap.size, 3, none⟩) (Nat.le_refl _) _
  generalize ((((w2.setCell ⟨w.heap.size, 0, none⟩ (.int .i64 p.mn)).setCell ⟨w.heap.size, 1, none⟩ (.int .i64 p.sp)).setCell ⟨w.heap.size, 2, none⟩ (.int .i64 p.wt)).setCell ⟨w.heap.size, 3, none⟩ (.int .i64 p.tm)) = W4 at *
  have s0 := r2.cell (i := 0) rfl; have s1 := r2.cell (i := 1) rfl; have s2 := r2.cell (i := 2) rfl; have s3 := r2.cell (i := 3) rfl
  refine bodyPost_ret (v := .agg #[.int .i64 p.mn, .int .i64 p.sp, .int .i64 p.wt, .int .i64 p.tm]) (by rw [res_cellP rfl]; clear r2 bE z0 b0 a0 a1 a2 a3 y0 y1 y2 y3; go_simp; done) rfl ⟨p, rfl, bE⟩

theorem res_cell_tmpP {fn : Func} {p q : Tmp} {ty : TypeId} (h : fn.results = #[.cell p ty, .tmp q]) (tmps : Array Value) (P : Program) (w : World) :
    (results fn tmps).run P w = (((asAddr (tmps.getD p undef)).run P w).andThen fun a w₁ => (loadVar ty a).run P w₁).andThen fun v w' => .ok (.tuple #[v, tmps.getD q undef]) w' := by
  simp only [results, h]
  simp [Sem.run_bind, Result.andThen]
  split <;> rfl

set_option maxRecDepth 10000 in
set_option maxHeartbeats 8000000 in
theorem drawMeasured (a : Option Addr) (len cap : Nat) (w : World) (hb : Draw.Bytes w a len) (hl : len ≤ 4096) :
    Calls Try.prog 10 #[.slice a len cap] w fun x w' => ∃ (p : Pc) (t : Int), x = .returned (.tuple #[p.v, .int .i64 t]) ∧ Below w.heap.size w w' := by
  have hmix := Tak.mix
  have z0 : Var 25 (w.alloc (.cells #[.int .i64 0, .int .i64 0, .int .i64 0, .int .i64 0] 25)) w.heap.size [.int .i64 0, .int .i64 0, .int .i64 0, .int .i64 0] := Var.new w _
  have b0 : Below w.heap.size w (w.alloc (.cells #[.int .i64 0, .int .i64 0, .int .i64 0, .int .i64 0] 25)) := (Below.refl _ _).alloc (Nat.le_refl _) _
  have hb0 := hb.below b0 (Nat.le_refl _)
  go_enter Try.func10, Try.ntmps10
  go_wp2_with fail
  refine (Draw.l1New a len cap _ hb0 hl).mono ?_
  rintro x w1 ⟨rfl, hh, hw1⟩
  have c1 : Draw.Cur w1 (w.heap.size + 1) := by rw [hw1]; simpa using Draw.cur_new hb0 hl hh _
  have b1 : Below (w.heap.size + 1) (w.alloc (.cells #[.int .i64 0, .int .i64 0, .int .i64 0, .int .i64 0] 25)) w1 := by rw [hw1]; exact (Below.refl _ _).alloc (by simp) _
  replace z0 := z0.later (b1.mono (by simp))
  replace b0 := b0.trans (b1.mono (by simp))
  clear b1 hw1 hb0
  go_wp2_with fail
  refine (l9Draw _ _ c1).mono ?_
  rintro x w2 ⟨p, rfl, c2, k2⟩
  have v5 : Var 25 (w2.alloc (.cells #[.int .i64 p.mn, .int .i64 p.sp, .int .i64 p.wt, .int .i64 p.tm] 25)) w2.heap.size [.int .i64 p.mn, .int .i64 p.sp, .int .i64 p.wt, .int .i64 p.tm] := Var.new w2 _
  replace z0 := (z0.kept k2 (by omega)).alloc (.cells #[.int .i64 p.mn, .int .i64 p.sp, .int .i64 p.wt, .int .i64 p.tm] 25)
  replace b0 := (b0.trans (k2.below (by omega) b0.size)).alloc (b0.trans (k2.below (by omega) b0.size)).size (.cells #[.int .i64 p.mn, .int .i64 p.sp, .int .i64 p.wt, .int .i64 p.tm] 25)
  have hk5 : w.heap.size + 1 < w2.heap.size := c2.lt
  replace c2 := c2.alloc (.cells #[.int .i64 p.mn, .int .i64 p.sp, .int .i64 p.wt, .int .i64 p.tm] 25)
  clear c1 k2
  go_upto_region 3 with (fail)
  generalize w2.alloc (.cells #[.int .i64 p.mn, .int .i64 p.sp, .int .i64 p.wt, .int .i64 p.tm] 25) = V at *
  generalize w2.heap.size = k5 at *
  refine RegJ.wp_region_J (W := fun d wr => Var 25 wr k5 [.int .i64 p.mn, .int .i64 p.sp, .int .i64 p.wt, .int .i64 p.tm] ∧ (d 6 = false → Var 25 wr w.heap.size [.int .i64 0, .int .i64 0, .int .i64 0, .int .i64 0] ∧ Draw.Cur wr (w.heap.size + 1)) ∧ (d 6 = true → Var 25 wr w.heap.size [.int .i64 p.mn, .int .i64 p.sp, .int .i64 p.wt, .int .i64 p.tm]) ∧ Below w.heap.size w wr) (RegJ.Tell (w.heap.size + 1) [.eq p.v, .row 2 ([-1, 0, 7, 250, 1000, 60000, 60001].map (Value.int .i64)), .eq (.pointer (some ⟨w.heap.size + 1, 0, none⟩)), .int 0 6, .elem 2 ([-1, 0, 7, 250, 1000, 60000, 60001].map (Value.int .i64)), .num, .any, .num]) [some 10, some 11, some 12, some 13, some 14, some 15, none, some 3] (F := ?_) (is := [0, 1, 2, 3, 4, 5, 6, 7]) hmix (by kernel_rfl) (by kernel_rfl) (by kernel_rfl) (by kernel_rfl) (fun x => ?_) (⟨v5.drew, fun _ => ⟨z0.drew, c2.drew⟩, fun hd => (by cases hd), b0.drew⟩) ?_ (fun d x wR hWR hdR hJR => ?_)
  rotate_left 1
  focus (simp only [RegJ.lay, Act.put, Nat.reduceAdd, Nat.zero_add, List.getElem_toArray, List.getElem_cons_zero, List.getElem_cons_succ, List.setIfInBounds_toArray, List.set_cons_zero, List.set_cons_succ]; rfl)
  focus
    refine RegJ.Steps.cons (RegJ.StepAt.mk rfl (fun d x w1 hW1 hJ1 hx1 K hK => ?_)) (RegJ.Steps.cons (RegJ.StepAt.mk rfl (fun d x w1 hW1 hJ1 hx1 K hK => ?_)) (RegJ.Steps.cons (RegJ.StepAt.mk rfl (fun d x w1 hW1 hJ1 hx1 K hK => ?_)) (RegJ.Steps.cons (RegJ.StepAt.mk rfl (fun d x w1 hW1 hJ1 hx1 K hK => ?_)) (RegJ.Steps.cons (RegJ.StepAt.mk rfl (fun d x w1 hW1 hJ1 hx1 K hK => ?_)) (RegJ.Steps.cons (RegJ.StepAt.mk rfl (fun d x w1 hW1 hJ1 hx1 K hK => ?_)) (RegJ.Steps.cons (RegJ.StepAt.mk rfl (fun d x w1 hW1 hJ1 hx1 K hK => ?_)) (RegJ.Steps.cons (RegJ.StepAt.mk rfl (fun d x w1 hW1 hJ1 hx1 K hK => ?_)) (RegJ.Steps.nil))))))))
    focus (simp only [List.getElem_toArray, List.getElem_cons_succ, List.getElem_cons_zero] at hK; have e0 := hW1.1.cell (i := 0) rfl; have e1 := hW1.1.cell (i := 1) rfl; have e2 := hW1.1.cell (i := 2) rfl; have e3 := hW1.1.cell (i := 3) rfl; go_simp; exact hK.out _ _ ⟨hW1.1, fun hd => hW1.2.1 (by simpa using hd), fun hd => hW1.2.2.1 (by simpa using hd), hW1.2.2.2⟩ RegJ.Tell.same rfl)
    focus (simp only [List.getElem_toArray, List.getElem_cons_succ, List.getElem_cons_zero] at hK; have hl : w.heap.size + 1 < w1.heap.size := Nat.lt_trans hk5 hW1.1.lt; go_simp; exact hK.out _ _ ⟨hW1.1.alloc _, fun hd => ⟨(hW1.2.1 (by simpa using hd)).1.alloc _, (hW1.2.1 (by simpa using hd)).2.alloc _⟩, fun hd => (hW1.2.2.1 (by simpa using hd)).alloc _, hW1.2.2.2.alloc hW1.2.2.2.size _⟩ (RegJ.Tell.keep ((Draw.Kept.refl _ _).alloc _)) ⟨w1.heap.size, hl, rfl, Var.new _ _⟩)
    focus (simp only [List.getElem_toArray, List.getElem_cons_succ, List.getElem_cons_zero] at hK; go_simp; exact hK.out _ _ ⟨hW1.1, fun hd => hW1.2.1 (by simpa using hd), fun hd => hW1.2.2.1 (by simpa using hd), hW1.2.2.2⟩ RegJ.Tell.same rfl)
    focus (simp only [List.getElem_toArray, List.getElem_cons_succ, List.getElem_cons_zero] at hK; have h6 := hW1.2.1 (hx1.out 6 (.inr (by kernel_rfl))).1; have j2 : x 2 = _ := (hJ1.out 2 (by kernel_rfl)); rw [j2] at hK; go_simp; refine (Draw.l1Below _ _ _ h6.2).mono ?_; rintro e wa ⟨y, y0, y1, rfl, cua, ka⟩; go_simp; exact hK.out _ _ ⟨hW1.1.kept ka (by omega), fun _ => ⟨h6.1.kept ka (by omega), cua⟩, fun hd => absurd hd (by simp [(hx1.out 6 (.inr (by kernel_rfl))).1]), hW1.2.2.2.trans (ka.below (by omega) hW1.2.2.2.size)⟩ (RegJ.Tell.keep ka) ⟨y, y0, by omega, rfl⟩)
    focus (simp only [List.getElem_toArray, List.getElem_cons_succ, List.getElem_cons_zero] at hK; obtain ⟨b, hb, j1, vb⟩ := (hJ1.out 1 (by kernel_rfl)); obtain ⟨y, y0, y1, j3⟩ := (hJ1.out 3 (by kernel_rfl)); rw [j1, j3] at hK; have hy : y < 7 := (by omega); go_simp; exact hK.out (.pointer (some ⟨b, y.toNat, none⟩)) _ ⟨hW1.1, fun hd => hW1.2.1 (by simpa using hd), fun hd => hW1.2.2.1 (by simpa using hd), hW1.2.2.2⟩ RegJ.Tell.same ⟨b, y.toNat, hb, (by simp; omega), rfl, vb⟩)
    focus (simp only [List.getElem_toArray, List.getElem_cons_succ, List.getElem_cons_zero] at hK; obtain ⟨b, i, hb, hi, j4, vb⟩ := (hJ1.out 4 (by kernel_rfl)); rw [j4] at hK; obtain ⟨m, hc⟩ := RegJ.int_cell (ns := [-1, 0, 7, 250, 1000, 60000, 60001]) vb hi; go_simp; exact hK.out (.int .i64 m) _ ⟨hW1.1, fun hd => hW1.2.1 (by simpa using hd), fun hd => hW1.2.2.1 (by simpa using hd), hW1.2.2.2⟩ RegJ.Tell.same ⟨m, rfl⟩)
    focus (simp only [List.getElem_toArray, List.getElem_cons_succ, List.getElem_cons_zero] at hK; have j0 : x 0 = _ := (hJ1.out 0 (by kernel_rfl)); rw [j0] at hK; have vz := (hW1.2.1 (hx1.out 6 (.inl rfl)).1).1; have e0 := vz.cell (i := 0) rfl; have e1 := vz.cell (i := 1) rfl; have e2 := vz.cell (i := 2) rfl; have e3 := vz.cell (i := 3) rfl; have f0 := vz.free 0; have f1 := vz.free 1; have f2 := vz.free 2; have f3 := vz.free 3; go_simp; exact hK.out undef _ ⟨hW1.1.kept (put_kept _ _ p) (by omega), fun hd => absurd hd (by simp), fun _ => (((vz.set 0 _).set 1 _).set 2 _).set 3 _, (hW1.2.2.2.trans ((put_kept _ _ p).below (Nat.le_refl _) hW1.2.2.2.size))⟩ (RegJ.Tell.stored (k0 := w.heap.size) (by kernel_rfl) (put_kept _ _ p) (by omega)) trivial)
    focus (simp only [List.getElem_toArray, List.getElem_cons_succ, List.getElem_cons_zero] at hK; obtain ⟨m, j5⟩ := (hJ1.out 5 (by kernel_rfl)); rw [j5] at hK; go_simp; exact hK.out _ _ ⟨hW1.1, fun hd => hW1.2.1 (by simpa using hd), fun hd => hW1.2.2.1 (by simpa using hd), hW1.2.2.2⟩ RegJ.Tell.same ⟨m, rfl⟩)
  have j6 := hJR 3 (by simp)
  obtain ⟨t, j7⟩ := hJR 7 (by simp)
  rw [j7]
  clear hJR
  obtain ⟨-, h6, h7, bE⟩ := hWR
  have r2 := h7 (hdR 6 (by simp))
  clear h6 h7 hdR v5 z0 b0 c2
  have s0 := r2.cell (i := 0) rfl; have s1 := r2.cell (i := 1) rfl; have s2 := r2.cell (i := 2) rfl; have s3 := r2.cell (i := 3) rfl
  go_wp2_with fail
  refine bodyPost_ret (v := .tuple #[.agg #[.int .i64 p.mn, .int .i64 p.sp, .int .i64 p.wt, .int .i64 p.tm], .int .i64 t]) (by rw [res_cell_tmpP rfl]; clear r2 bE; go_simp; done) rfl ⟨p, t, rfl, bE⟩

end Go.Proofs.Ytbmfnkdcbdkcdaa.Pac
