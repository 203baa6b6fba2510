/- The program's heap of alarms in memory; contracts of its Push and Pop, waitingOf, rings (chapter 8); lists of at most 2^21 alarms. -/
import Derived.Test.YtdipdenekhffcaaAlmS
import Derived.Test.YtdipdenekhffcaaTakeP
namespace Go.Proofs.Ytdipdenekhffcaa.Alm
open Go.RowKit RowG
set_option linter.unusedVariables false
set_option linter.unusedSimpArgs false

/-- The heap lies in a variable v, its row in g. -/
structure Wt (w : World) (B v g c : Nat) (l : List Al) : Prop where
  var : Var 72 w v [.slice (some ⟨g, 0, none⟩) l.length c]
  own : E.Own 26 w B (some ⟨g, 0, none⟩) c l
/-- Of the blocks of w none but v and g has turned. -/
structure Tw (v g : Nat) (w w' : World) : Prop where
  os : w'.os = w.os
  tape : w'.tape = w.tape
  output : w'.output = w.output
  size : w.heap.size ≤ w'.heap.size
  block : ∀ k, k < w.heap.size → k ≠ v → k ≠ g → w'.heap[k]? = w.heap[k]?
theorem Tw.refl (v g : Nat) (w : World) : Tw v g w w := ⟨rfl, rfl, rfl, Nat.le_refl _, fun _ _ _ _ => rfl⟩
theorem Tw.trans {v g : Nat} {a b c : World} (h : Tw v g a b) (k : Tw v g b c) : Tw v g a c :=
  ⟨k.os.trans h.os, k.tape.trans h.tape, k.output.trans h.output, Nat.le_trans h.size k.size, fun i hi h1 h2 => (k.block i (Nat.lt_of_lt_of_le hi h.size) h1 h2).trans (h.block i hi h1 h2)⟩
theorem Tw.ofKept {v g : Nat} {w w' : World} (k : Draw.Kept g w w') : Tw v g w w' := ⟨k.os, k.tape, k.output, k.size, fun i hi _ h => k.block i hi h⟩
theorem Tw.ofKeptV {v g : Nat} {w w' : World} (k : Draw.Kept v w w') : Tw v g w w' := ⟨k.os, k.tape, k.output, k.size, fun i hi h _ => k.block i hi h⟩
theorem Tw.ofBelow {v g : Nat} {w w' : World} (k : Below w.heap.size w w') : Tw v g w w' := .ofKept (Draw.Kept.ofBelow k (Nat.le_refl _))
theorem Tw.below {v g B : Nat} {w w' : World} (k : Tw v g w w') (h1 : B ≤ v) (h2 : B ≤ g) (h3 : B ≤ w.heap.size) : Below B w w' :=
  ⟨k.os, k.tape, k.output, k.size, fun i hi => k.block i (by omega) (by omega) (by omega)⟩
theorem Tw.own {α : Type} {E : El α} {T : TypeId} {v g : Nat} {w w' : World} (k : Tw v g w w') {B a c : Nat} {l : List α} (o : E.Own T w B (some ⟨a, 0, none⟩) c l) (h1 : a ≠ v) (h2 : a ≠ g) : E.Own T w' B (some ⟨a, 0, none⟩) c l :=
  o.same fun x hx => by cases hx; exact k.block a (o.lt _ rfl).2 h1 h2
theorem wne : (72 : Nat) ≠ 26 := by decide
theorem Wt.ne {w : World} {B v g c : Nat} {l : List Al} (h : Wt w B v g c l) : g ≠ v := own_varS wne h.own h.var
theorem Wt.later {w w' : World} {B v g c : Nat} {l : List Al} (h : Wt w B v g c l) (b : Below w.heap.size w w') : Wt w' B v g c l := ⟨h.var.later b, h.own.later b⟩
theorem Wt.kept {w w' : World} {B v g c : Nat} {l l' : List Al} (h : Wt w B v g c l) (k : Draw.Kept g w w') (o : E.Own 26 w' B (some ⟨g, 0, none⟩) c l') (hl : l'.length = l.length) : Wt w' B v g c l' :=
  ⟨by rw [hl]; exact h.var.kept k (Ne.symm h.ne), o⟩

theorem asAlarm (x : Value) (T0 : TypeId) (w : World) : (Instr.typeAssert (.iface 26 x) T0 26 false).run Try.prog w = .ok x w := by kernel_rfl

set_option maxRecDepth 10000 in
set_option maxHeartbeats 4000000 in
theorem wPush (B v g c : Nat) (l : List Al) (f t : Int) (w : World) (h : Wt w B v g c l) (hB : B ≤ w.heap.size) (hl : l.length ≤ 2097152) :
    Calls Try.prog 82 #[.pointer (some ⟨v, 0, none⟩), .iface 26 (.agg #[.int .i64 f, .int .i64 t])] w fun x w' => ∃ g' c', x = .returned (.tuple #[]) ∧ Wt w' B v g' c' (l ++ [(f, t)]) ∧ Tw v g w w' := by
  have hne := h.ne
  have v0 := h.var.drew.alloc (.cells #[.int .i64 f, .int .i64 t] 26)
  have o0 := h.own.drew.alloc (.cells #[.int .i64 f, .int .i64 t] 26)
  have k0 : Tw v g w (w.drew.alloc (.cells #[.int .i64 f, .int .i64 t] 26)) := Tw.ofKept (((Draw.Kept.refl g w).drew).alloc _)
  have L0 := El.lies_new (E := E) (T := 26) (w := w.drew) (x := (f, t)) (cs := #[.int .i64 f, .int .i64 t]) rfl
  have s0 := h.var.cell (i := 0) rfl
  have n0 : B ≤ (w.drew.alloc (.cells #[.int .i64 f, .int .i64 t] 26)).heap.size := Nat.le_trans hB k0.size
  have hz : l.length + [(f, t)].length ≤ 4194304 := by simp; omega
  have hAs := asAlarm
  go_enter Try.func82, Try.ntmps82
  go_wp2_with fail
  refine Draw.wp_region_Y (S := (fun w' => w'.cell? ⟨v, 0, none⟩ = some (.slice (some ⟨g, 0, none⟩) l.length c))) 9 (by kernel_rfl) ?_ (fun hHeld => ?_)
  focus ((try dsimp only) <;> (first | with_reducible exact hHeld | with_reducible exact hS2 | exact s0 | exact alloc_cell hHeld _))
  refine Draw.wpAnyY_takeT (i := 0) (v := ?_) rfl (by kernel_rfl) (by kernel_rfl) (by kernel_rfl) (fun _ _ _ h => h) (Or.inl ⟨by rfl, ?_⟩) ?_
  rotate_left 1
  focus (intro wS hSw; (try dsimp only at hSw); go_simp; first | done | (constructor <;> with_reducible rfl) | with_reducible rfl)
  (try simp only [Act.put, List.getElem_toArray, List.getElem_cons_zero, List.getElem_cons_succ, List.setIfInBounds_toArray, List.set_cons_zero, List.set_cons_succ])
  refine Draw.wpAnyY_takeT (i := 1) (v := ?_) rfl (by kernel_rfl) (by kernel_rfl) (by kernel_rfl) (fun _ _ _ h => h) (Or.inl ⟨by rfl, ?_⟩) ?_
  rotate_left 1
  focus (intro wS hSw; (try dsimp only at hSw); go_simp; first | done | (constructor <;> with_reducible rfl) | with_reducible rfl)
  (try simp only [Act.put, List.getElem_toArray, List.getElem_cons_zero, List.getElem_cons_succ, List.setIfInBounds_toArray, List.set_cons_zero, List.set_cons_succ])
  refine Draw.wpAnyY_takeT (i := 2) (v := ?_) rfl (by kernel_rfl) (by kernel_rfl) (by kernel_rfl) (fun _ _ _ h => h) (Or.inl ⟨by rfl, ?_⟩) ?_
  rotate_left 1
  focus (intro wS hSw; (try dsimp only at hSw); go_simp; first | done | (constructor <;> with_reducible rfl) | with_reducible rfl)
  (try simp only [Act.put, List.getElem_toArray, List.getElem_cons_zero, List.getElem_cons_succ, List.setIfInBounds_toArray, List.set_cons_zero, List.set_cons_succ])
  refine Draw.wpAnyY_takeP (ps := [7]) (i := 3) (v := ?_) rfl (by kernel_rfl) (by kernel_rfl) (by kernel_rfl) (by kernel_rfl) (by kernel_rfl) (fun _ _ _ h => h) (Or.inl ⟨by rfl, ?_⟩) (by assumption) ?_
  rotate_left 1
  focus (intro wS hSw; (try dsimp only at hSw); go_simp; first | done | (constructor <;> with_reducible rfl) | with_reducible rfl)
  (try simp only [Act.put, List.getElem_toArray, List.getElem_cons_zero, List.getElem_cons_succ, List.setIfInBounds_toArray, List.set_cons_zero, List.set_cons_succ])
  refine Draw.wpAnyY_takeT (i := 4) (v := ?_) rfl (by kernel_rfl) (by kernel_rfl) (by kernel_rfl) (fun _ _ _ h => h) (Or.inl ⟨by rfl, ?_⟩) ?_
  rotate_left 1
  focus (intro wS hSw; (try dsimp only at hSw); go_simp; first | done | (constructor <;> with_reducible rfl) | with_reducible rfl)
  (try simp only [Act.put, List.getElem_toArray, List.getElem_cons_zero, List.getElem_cons_succ, List.setIfInBounds_toArray, List.set_cons_zero, List.set_cons_succ])
  refine Draw.wpAnyY_takeT (i := 5) (v := ?_) rfl (by kernel_rfl) (by kernel_rfl) (by kernel_rfl) (fun _ _ _ h => h) (Or.inl ⟨by rfl, ?_⟩) ?_
  rotate_left 1
  focus (intro wS hSw; (try dsimp only at hSw); go_simp; first | done | (constructor <;> with_reducible rfl) | with_reducible rfl)
  (try simp only [Act.put, List.getElem_toArray, List.getElem_cons_zero, List.getElem_cons_succ, List.setIfInBounds_toArray, List.set_cons_zero, List.set_cons_succ])
  refine Draw.wpAnyY_ready (rs := [6]) (by kernel_rfl) (by simp) ?_
  refine Draw.AllReadyY.cons rfl (fun K hK => ?_) Draw.AllReadyY.nil
  go_simp
  refine hK.out _ _ ?_ (fun hHeld2 => ?_)
  focus (intro _ _; (try dsimp only) <;> (first | with_reducible exact hHeld | with_reducible exact hS2 | exact s0 | exact alloc_cell hHeld _))
  clear hK K
  replace hHeld := hHeld2 (by decide) hHeld
  clear hHeld2
  (try simp only [Act.put, List.getElem_toArray, List.getElem_cons_zero, List.getElem_cons_succ, List.setIfInBounds_toArray, List.set_cons_zero, List.set_cons_succ])
  refine Draw.wpAnyY_ready (rs := [7]) (by kernel_rfl) (by simp) ?_
  refine Draw.AllReadyY.cons rfl (fun K hK => ?_) Draw.AllReadyY.nil
  (refine step_appS tyW (by decide) (by rfl) _ _ (by rfl) B g c l.length l [(f, t)] rfl (by rfl) o0 n0 (some ⟨w.heap.size, 0, none⟩) 1 1 rfl (by rfl) L0 (fun e => by cases e) hz ?_; intro g1 c1 w1 o1 gr1; have hS2 := grown_cell gr1 hHeld (by simp; omega); have v1 := v0.grown gr1 (fun j hj => by cases hj; exact Ne.symm hne); have k1 : Tw v g w w1 := k0.trans (Tw.ofKept (grown_kept gr1 (.inr rfl))); have s1 := v1.cell (i := 0) rfl; have f1 := v1.free 0)
  refine hK.out _ _ ?_ (fun hHeld2 => ?_)
  focus (intro _ _; (try dsimp only) <;> (first | with_reducible exact hHeld | with_reducible exact hS2 | exact s0 | exact alloc_cell hHeld _))
  clear hK K
  replace hHeld := hHeld2 (by decide) hHeld
  clear hHeld2
  (try simp only [Act.put, List.getElem_toArray, List.getElem_cons_zero, List.getElem_cons_succ, List.setIfInBounds_toArray, List.set_cons_zero, List.set_cons_succ])
  refine Draw.wpAnyY_takeT (i := 8) (v := ?_) rfl (by kernel_rfl) (by kernel_rfl) (by kernel_rfl) (fun _ _ _ h => h) (Or.inl ⟨by rfl, ?_⟩) ?_
  rotate_left 1
  focus (intro wS hSw; (try dsimp only at hSw); go_simp; first | done | (constructor <;> with_reducible rfl) | with_reducible rfl)
  (try simp only [Act.put, List.getElem_toArray, List.getElem_cons_zero, List.getElem_cons_succ, List.setIfInBounds_toArray, List.set_cons_zero, List.set_cons_succ])
  refine Draw.wpAnyY_ready (rs := [9]) (by kernel_rfl) (by simp) ?_
  refine Draw.AllReadyY.cons rfl (fun K hK => ?_) Draw.AllReadyY.nil
  go_simp
  refine hK.out _ _ (fun h => absurd rfl h) (fun hHeld2 => ?_)
  clear hK K hHeld hHeld2
  (try simp only [Act.put, List.getElem_toArray, List.getElem_cons_zero, List.getElem_cons_succ, List.setIfInBounds_toArray, List.set_cons_zero, List.set_cons_succ])
  refine Draw.wpAnyY_done (by kernel_rfl) ?_ _
  have v2 := v1.set 0 (.slice (some ⟨g1, 0, none⟩) (l.length + 1) c1)
  have hne1 : g1 ≠ v := own_varS wne o1 v1
  have o2 := o1.setCell (p := ⟨v, 0, none⟩) (fun x hx => by cases hx; exact hne1) (.slice (some ⟨g1, 0, none⟩) (l.length + 1) c1)
  have k2 : Tw v g w (w1.setCell ⟨v, 0, none⟩ (.slice (some ⟨g1, 0, none⟩) (l.length + 1) c1)) := k1.trans (Tw.ofKeptV ((Draw.Kept.refl v w1).setCell (.inl rfl) _))
  go_wp2_with fail
  go_end0
  exact ⟨g1, c1, rfl, ⟨by rw [List.length_append]; exact v2, o2⟩, k2⟩

set_option maxRecDepth 10000 in
set_option maxHeartbeats 4000000 in
theorem wPop (B v g c : Nat) (l : List Al) (w : World) (h : Wt w B v g c l) (hl : l.length ≤ 2097152) (h0 : 0 < l.length) :
    Calls Try.prog 81 #[.pointer (some ⟨v, 0, none⟩)] w fun x w' => x = .returned (.iface 26 (.agg #[.int .i64 (at' l (l.length - 1)).1, .int .i64 (at' l (l.length - 1)).2])) ∧ Wt w' B v g c (l.take (l.length - 1)) ∧ Tw v g w w' := by
  have hne := h.ne
  obtain ⟨m, hm⟩ : ∃ m, l.length = m + 1 := ⟨l.length - 1, by omega⟩
  have s0 := h.var.cell (i := 0) rfl
  obtain ⟨⟨c0, c1⟩, _, _⟩ := (el_own h.own).at (k := m) (by omega)
  rw [getD_at] at c0 c1
  have hcap := h.own.cap
  have hlen : (l.take m).length = m := by rw [List.length_take]; omega
  have v1 := h.var
  have o1 := own_take h.own m
  rw [hm] at s0 v1 hcap
  rw [show l.length - 1 = m by omega]
  have HLEN : Hid _ := hlen
  have hm1 : (m : Int) + 1 ≤ 2097152 := by omega
  clear h hlen hl h0 hm
  have HS : Hid (at' l m = at' l m) := rfl
  generalize at' l m = s at *
  obtain ⟨f, t⟩ := s
  simp only at c0 c1
  have v2 := v1.set 0 (.slice (some ⟨g, 0, none⟩) m c)
  have o2 := o1.setCell (p := ⟨v, 0, none⟩) (fun x hx => by cases hx; exact hne) (.slice (some ⟨g, 0, none⟩) m c)
  have f2 := v1.free 0
  have v3 := v2.alloc (.cells #[.int .i64 f, .int .i64 t] 26)
  have o3 := o2.alloc (.cells #[.int .i64 f, .int .i64 t] 26)
  have k3 : Tw v g w ((w.setCell ⟨v, 0, none⟩ (.slice (some ⟨g, 0, none⟩) m c)).alloc (.cells #[.int .i64 f, .int .i64 t] 26)) := Tw.ofKeptV (((Draw.Kept.refl v w).setCell (.inl rfl) _).alloc _)
  have hvl : v < w.heap.size := v1.lt
  have hc0 : ¬ c = 0 := by omega
  have i0 : (0 : Int) ≤ (m : Int) := by omega
  have i1 : (m : Int) < (m : Int) + 1 := by omega
  have i2 : (m : Int) ≤ (c : Int) := by omega
  have V3 : Hid _ := v3
  have O3 : Hid _ := o3
  have K3 : Hid _ := k3
  clear v1 v2 v3 o1 o2 o3 k3
  go_enter Try.func81, Try.ntmps81
  go_wp2_with fail
  go_ret
  exact ⟨rfl, ⟨by rw [HLEN.out]; exact V3.out, O3.out⟩, K3.out⟩

set_option maxHeartbeats 2000000 in
theorem waitingOf (a : Option Addr) (n cap : Nat) (l : List Al) (w : World) (hn : n = l.length) (h : Alarms w a l) (hl : l.length ≤ 2097152) (ha : a = none → cap = 0) :
    Calls Try.prog 37 #[.slice a n cap] w fun x w' => ∃ v g c, x = .returned (.pointer (some ⟨v, 0, none⟩)) ∧ Wt w' w.heap.size v g c l ∧ w.heap.size ≤ v ∧ Below w.heap.size w w' := by
  subst hn
  go_enter Try.func37, Try.ntmps37
  go_wp2_with fail
  refine (ownAlarms _ _ _ l _ rfl h hl ha).mono ?_
  rintro x w1 ⟨g, c, rfl, o1, b1⟩
  have v2 : Var 72 (w1.alloc (.cells #[.slice (some ⟨g, 0, none⟩) l.length c] 72)) w1.heap.size [.slice (some ⟨g, 0, none⟩) l.length c] := Var.new w1 _
  have o2 := El.Own.alloc (E := E) o1 (.cells #[.slice (some ⟨g, 0, none⟩) l.length c] 72)
  have b2 := b1.alloc b1.size (.cells #[.slice (some ⟨g, 0, none⟩) l.length c] 72)
  go_wp2_with fail
  go_ret
  exact ⟨w1.heap.size, g, c, rfl, ⟨v2, o2⟩, b1.size, b2⟩

set_option maxHeartbeats 2000000 in
theorem wRings (B g c n : Nat) (l : List Al) (now : Int) (w : World) (hn : n = l.length) (ho : E.Own 26 w B (some ⟨g, 0, none⟩) c l) (hl : l.length ≤ 2097152) :
    Calls Try.prog 44 #[.slice (some ⟨g, 0, none⟩) n c, .int .i64 now] w fun x w' => x = .returned (.bool (decide (0 < l.length ∧ (at' l 0).1 ≤ now))) ∧ w = w' := by
  subst hn
  by_cases h0 : 0 < l.length
  · obtain ⟨⟨c0, c1⟩, _, _⟩ := (el_own ho).at h0
    rw [getD_at] at c0 c1
    rw [Nat.zero_mul] at c0
    have i0 : (0 : Int) < (l.length : Int) := by omega
    generalize at' l 0 = s at *
    obtain ⟨f, t⟩ := s
    simp only at c0 c1
    by_cases h1 : f ≤ now
    all_goals
      go_enter Try.func44, Try.ntmps44
      go_wp2_with fail
      go_ret
      exact ⟨Num.ret_bool (by simp [h0, h1]), rfl⟩
  · have i0 : ¬ (0 : Int) < (l.length : Int) := by omega
    go_enter Try.func44, Try.ntmps44
    go_wp2_with fail
    go_ret
    exact ⟨Num.ret_bool (by simp [h0]), rfl⟩

end Go.Proofs.Ytdipdenekhffcaa.Alm
