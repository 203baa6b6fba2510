/- Contracts of this seat's functions, and their mathematics (LawLo). -/
import Derived.Test.YtldghgadkncehaaM32
set_option linter.unusedVariables false
set_option linter.unusedSimpArgs false
set_option maxHeartbeats 1000000
namespace Go.Proofs.Ytldghgadkncehaa.Lin
open Go.RowKit RowG
theorem eqLine0 (a a' r r' : Option Addr) (c c' d d' n m : Nat) (l : List (Int × Int)) (rs : List Roa.Rd) (w : World) (hn : n = l.length) (hm : m = rs.length) (h : H0.Lies w a l) (h' : H0.Lies w a' l) (k : Roa.E.Lies w r rs) (k' : Roa.E.Lies w r' rs) (hl : l.length ≤ 1000) (hr : rs.length ≤ 1000) :
    Calls Try.prog 40 #[.agg #[.slice a n c, .slice r m d], .agg #[.slice a' n c', .slice r' m d']] w fun x w' => x = .returned (.bool true) ∧ Below w.heap.size w w' := by
  subst hn hm
  have hmix := Roa.mix
  have v1 : Var 37 ((w.alloc (.cells #[.slice a l.length c, .slice r rs.length d] 37)).alloc (.cells #[.slice a' l.length c', .slice r' rs.length d'] 37)) w.heap.size [.slice a l.length c, .slice r rs.length d] := (Var.new w _).alloc _
  have v2 : Var 37 ((w.alloc (.cells #[.slice a l.length c, .slice r rs.length d] 37)).alloc (.cells #[.slice a' l.length c', .slice r' rs.length d'] 37)) (w.heap.size + 1) [.slice a' l.length c', .slice r' rs.length d'] := by
    have q := Var.new (T := 37) (w.alloc (.cells #[.slice a l.length c, .slice r rs.length d] 37)) [.slice a' l.length c', .slice r' rs.length d']
    simpa using q
  have b0 : Below w.heap.size w ((w.alloc (.cells #[.slice a l.length c, .slice r rs.length d] 37)).alloc (.cells #[.slice a' l.length c', .slice r' rs.length d'] 37)) := ((Below.refl _ _).alloc (Nat.le_refl _) _).alloc (by simp) _
  go_enter Try.func40, Try.ntmps40
  go_wp2_with fail
  refine (eqHopS0 _ _ _ _ l _ (h.later b0) (h'.later b0) hl).mono ?_
  rintro e w1 ⟨rfl, b1⟩
  replace v1 := v1.later b1
  replace v2 := v2.later b1
  have B1 := b0.trans (b1.mono b0.size)
  clear b0 b1
  have x0 := v1.cell (i := 1) rfl
  have x1 := v2.cell (i := 1) rfl
  go_wp2_with fail
  refine (Roa.eqRoadS _ _ _ _ _ _ rs rs _ rfl rfl (k.later B1) (k'.later B1) (by omega) (by omega)).mono ?_
  rintro e w2 ⟨rfl, b2⟩
  have B2 := B1.trans (b2.mono B1.size)
  have hd : decide (rs = rs) = true := by simp
  rw [hd]
  go_wp2_with fail
  go_ret
  exact ⟨rfl, B2⟩
theorem markLine0 (B g c g' c' n m : Nat) (l : List (Int × Int)) (rs : List Roa.Rd) (q : Int) (w : World) (hn : n = l.length) (hm : m = rs.length) (h : H0.Own 85 w B (some ⟨g, 0, none⟩) c l) (h' : Roa.E.Own 97 w B (some ⟨g', 0, none⟩) c' rs) (hB : B ≤ w.heap.size) (hl : l.length ≤ 30) (hr : rs.length ≤ 100) (q0 : 0 < q) (q1 : q ≤ 500) :
    Calls Try.prog 45 #[.agg #[.slice (some ⟨g, 0, none⟩) n c, .slice (some ⟨g', 0, none⟩) m c'], .int .i64 q] w fun x w' => x = .returned (.int .i64 (q + 11 * (n : Int) + 4 * (m : Int))) ∧ A13.Own 85 w' B (some ⟨g, 0, none⟩) c (mks q n) ∧ Roa.E.Own 97 w' B (some ⟨g', 0, none⟩) c' (Roa.marks (q + 11 * (n : Int)) m) ∧ Below B w w' ∧ ∀ i, i < w.heap.size → i ≠ g → i ≠ g' → w'.heap[i]? = w.heap[i]? := by
  subst hn hm
  have v1 : Var 37 (w.alloc (.cells #[.slice (some ⟨g, 0, none⟩) l.length c, .slice (some ⟨g', 0, none⟩) rs.length c'] 37)) w.heap.size [.slice (some ⟨g, 0, none⟩) l.length c, .slice (some ⟨g', 0, none⟩) rs.length c'] := Var.new w _
  have A1 := h.alloc (.cells #[.slice (some ⟨g, 0, none⟩) l.length c, .slice (some ⟨g', 0, none⟩) rs.length c'] 37)
  have A2 := h'.alloc (.cells #[.slice (some ⟨g, 0, none⟩) l.length c, .slice (some ⟨g', 0, none⟩) rs.length c'] 37)
  have A3 : Below B w (w.alloc (.cells #[.slice (some ⟨g, 0, none⟩) l.length c, .slice (some ⟨g', 0, none⟩) rs.length c'] 37)) := (Below.refl _ _).alloc hB _
  have hg := h.lt _ rfl
  have hg' := h'.lt _ rfl
  have hgg := own_twoS (by decide) h h'
  simp only at hg hg'
  go_enter Try.func45, Try.ntmps45
  go_wp2_with fail
  refine (markHopS0 B g c l q _ A1 (by omega) q0 (by omega)).mono ?_
  rintro e w1 ⟨rfl, o1, k1⟩
  replace v1 := v1.kept k1 (by omega)
  replace A2 := A2.kept k1 (fun x hx => by cases hx; exact Ne.symm hgg)
  have B1 := A3.trans (k1.below (by omega) (Nat.le_trans hB A3.size))
  have S1 : ∀ i, i < w.heap.size → i ≠ g → w1.heap[i]? = w.heap[i]? := fun i hi hg => (k1.block i (by simp; omega) hg).trans (Below.heap_alloc _ _ _ hi)
  have z1 : w.heap.size ≤ w1.heap.size := B1.size
  clear A1 A3 k1 h h'
  have x0 := v1.cell (i := 1) rfl
  go_wp2_with fail
  refine (Roa.markRoadS B g' _ c' rs _ _ rfl A2 (by omega) (by omega) (by omega)).mono ?_
  rintro e w2 ⟨rfl, o2, k2⟩
  have o3 := o1.kept k2 (fun x hx => by cases hx; exact hgg)
  have B2 := B1.trans (k2.below (by omega) (Nat.le_trans hB B1.size))
  go_wp2_with fail
  go_ret
  exact ⟨rfl, o3, o2, B2, fun i hi h1 h2 => (k2.block i (by omega) h2).trans (S1 i hi h1)⟩
theorem markNil (w : World) : Calls Try.prog 62 #[.slice none 0 0, .int .i64 1] w fun x w' => x = .returned (.int .i64 1) ∧ w' = w := by
  go_enter Try.func62, Try.ntmps62
  go_wp2_with fail
  go_loopw [1, 5] (fun kv iv wr => kv = .int .i64 1 ∧ iv = .int .i64 0 ∧ wr = w) (fun _ _ _ => 0)
  case atStart => exact ⟨rfl, rfl, rfl⟩
  case round =>
    obtain ⟨rfl, rfl, rfl⟩ := hrel
    go_wp2_with fail
    go_ret
    exact ⟨rfl, rfl⟩
theorem markNilR (w : World) : Calls Try.prog 63 #[.slice none 0 0, .int .i64 1] w fun x w' => x = .returned (.int .i64 1) ∧ w' = w := by
  go_enter Try.func63, Try.ntmps63
  go_wp2_with fail
  go_loopw [1, 5] (fun kv iv wr => kv = .int .i64 1 ∧ iv = .int .i64 0 ∧ wr = w) (fun _ _ _ => 0)
  case atStart => exact ⟨rfl, rfl, rfl⟩
  case round =>
    obtain ⟨rfl, rfl, rfl⟩ := hrel
    go_wp2_with fail
    go_ret
    exact ⟨rfl, rfl⟩
theorem markLineNil (w : World) : Calls Try.prog 45 #[.agg #[.slice none 0 0, .slice none 0 0], .int .i64 1] w fun x w' => x = .returned (.int .i64 1) ∧ Below w.heap.size w w' := by
  have b0 : Below w.heap.size w (w.alloc (.cells #[.slice none 0 0, .slice none 0 0] 37)) := (Below.refl _ _).alloc (Nat.le_refl _) _
  go_enter Try.func45, Try.ntmps45
  go_wp2_with fail
  refine (markNil _).mono ?_
  rintro e w1 ⟨rfl, rfl⟩
  go_wp2_with fail
  refine (markNilR _).mono ?_
  rintro e w1 ⟨rfl, rfl⟩
  go_wp2_with fail
  go_ret
  exact ⟨rfl, b0⟩
theorem heldLine0 (a r : Option Addr) (c d n m : Nat) (q : Int) (w : World) (h : A13.Lies w a (mks q n)) (k : Roa.E.Lies w r (Roa.marks (q + 11 * (n : Int)) m)) (hl : n ≤ 30) (hr : m ≤ 100) (q0 : 0 < q) (q1 : q ≤ 500) :
    Calls Try.prog 46 #[.agg #[.slice a n c, .slice r m d], .int .i64 q] w fun x w' => x = .returned (.int .i64 (q + 11 * (n : Int) + 4 * (m : Int))) ∧ Below w.heap.size w w' := by
  have v1 : Var 37 (w.alloc (.cells #[.slice a n c, .slice r m d] 37)) w.heap.size [.slice a n c, .slice r m d] := Var.new w _
  have b0 : Below w.heap.size w (w.alloc (.cells #[.slice a n c, .slice r m d] 37)) := (Below.refl _ _).alloc (Nat.le_refl _) _
  have n1 : ¬ (q + 11 * (n : Int)) < 0 := by omega
  have n2 : ¬ (q + 11 * (n : Int) + 4 * (m : Int)) < 0 := by omega
  go_enter Try.func46, Try.ntmps46
  go_wp2_with fail
  refine (heldHopS0 a c n q _ (h.later b0) (by omega) q0 (by omega)).mono ?_
  rintro e w1 ⟨rfl, b1⟩
  replace v1 := v1.later b1
  have B1 := b0.trans (b1.mono b0.size)
  clear b0 b1
  have x0 := v1.cell (i := 1) rfl
  go_wp2_with fail
  refine (Roa.heldRoadS r _ d m _ _ rfl (k.later B1) (by omega) (by omega) (by omega)).mono ?_
  rintro e w2 ⟨rfl, rfl⟩
  go_wp2_with fail
  go_ret
  exact ⟨rfl, B1⟩
theorem caps_n {l : List Int} {n : Int} (h : capsB l n = true) : 1 ≤ n.toNat ∧ n.toNat ≤ 4 := by
  simp only [capsB, Bool.and_eq_true, decide_eq_true_eq] at h
  omega
end Go.Proofs.Ytldghgadkncehaa.Lin
