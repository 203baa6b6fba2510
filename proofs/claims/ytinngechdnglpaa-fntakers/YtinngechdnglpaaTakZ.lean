/- Contracts of slices.Grow of nil and slices.Concat of two slices of parts; at most 2^21 parts each. -/
import Derived.Test.YtinngechdnglpaaTakV
import Derived.Lib.AppendZerosOnto
import Derived.Lib.Walk
import Derived.Lib.SliceRun
namespace Go.Proofs.Ytinngechdnglpaa.Tak
open Go.RowKit RowG
set_option linter.unusedVariables false
set_option linter.unusedSimpArgs false

set_option maxRecDepth 100000 in
set_option maxHeartbeats 2000000 in
theorem growNil (n : Nat) (w : World) (hn : n ≤ 4194304) : Calls Try.prog 67 #[.slice none 0 0, .int .i64 n] w fun e w' => ∃ a c, e = .returned (.slice a 0 c) ∧ partE.Own 53 w' w.heap.size a c [] ∧ Below w.heap.size w w' := by
  by_cases h0 : n = 0
  · subst h0
    go_enter Try.func67, Try.ntmps67
    go_wp2_with fail
    go_ret
    exact ⟨none, 0, rfl, El.Own.none _ _, Below.refl _ _⟩
  · obtain ⟨i, hi, hz0, hz1, hz2⟩ := info_parts infoPart
    have hold : (Builtin.firstCells i.size 0 (.slice none 0 0)).run Try.prog w.drew = .ok ([] : List Value).toArray w.drew := run_firstCells_none w.drew i.size 0 0 0
    have hfit := growslice_fits (need := 0 + n) (old := 0) (bytes := i.bytes) (by omega) (by rw [hz2]; omega)
    have hrz := fun ty => Lib.run_append_grow_zeros w 24 3 ty 53 i _ .i64 .i64 (by kernel_rfl) (by kernel_rfl) hi hz0 none 0 0 [] hold n (by omega) (by rw [hz1]; decide) (by omega) (by omega) (by rw [hz2]; omega) hfit
    rw [Nat.zero_add] at hrz
    have hGn : n ≤ grownCap w n 0 53 := grownCap_ge w _ _ _
    have hGm : grownCap w n 0 53 ≤ maxLen := grownCap_le_maxLen w n 0 53 (by unfold maxLen; omega)
    generalize grownCap w n 0 53 = G at *
    obtain ⟨cur, hcur⟩ : ∃ cur, #[] ++ Builtin.zeroCells (Value.agg #[Value.int IntKind.i64 0, Value.string ByteArray.empty]).cells n ++ Builtin.zeroCells (Value.agg #[Value.int IntKind.i64 0, Value.string ByteArray.empty]).cells (G - n) = cur := ⟨_, rfl⟩
    have hcs : cur.size = G * 2 := by
      rw [← hcur]
      simp only [Array.size_append, size_zeroCells]
      show 0 + n * 2 + (G - n) * 2 = G * 2
      omega
    rw [show ([] : List Value).toArray = #[] from rfl, hcur] at hrz
    have hG63 : G ≤ 9223372036854775807 := by unfold maxLen at hGm; omega
    have HO : Hid (partE.Own 53 (w.drew.alloc (.cells cur 53)) w.heap.size (some ⟨w.heap.size, 0, none⟩) G []) := ⟨rfl, .inr ⟨w.heap.size, G, cur, rfl, Nat.le_refl _, World.alloc_heap_new w.drew _, Nat.zero_le _, hGm, hcs, by simp [El.vals]⟩⟩
    have HB : Hid (Below w.heap.size w (w.drew.alloc (.cells cur 53))) := (Below.refl _ _).drew.alloc (Nat.le_refl _) _
    have hnp : (0 : Int) < (n : Int) := by omega
    clear hcs hcur hold hfit hi hz0 hz1 hz2 hGm
    go_enter Try.func67, Try.ntmps67
    go_wp2_with (at_builtin; refine Lib.wpList_append_run _ rfl _ _ _ _ rfl _ _ rfl rfl _ _ (hrz _) ?_)
    all_goals (go_ret; exact ⟨_, _, rfl, HO.out, HB.out⟩)

/-- What is known while the second of two loops of Concat goes. -/
def CatI (w : World) (bb : Nat) (a1 a2 : Option Addr) (c1 c2 : Nat) (l1 l2 l : List Pt) (v : Value) (w' : World) : Prop :=
  ∃ (a' : Option Addr) (c' : Nat), v = .slice a' l.length c' ∧ partE.Own 53 w' w.heap.size a' c' l ∧ Below w.heap.size w w' ∧ w'.cell? ⟨bb, 0, none⟩ = some (.slice a1 l1.length c1) ∧ w'.cell? ⟨bb, 1, none⟩ = some (.slice a2 l2.length c2)

set_option maxRecDepth 100000 in
set_option maxHeartbeats 4000000 in
theorem concat2 (bb : Nat) (a1 a2 : Option Addr) (c1 c2 : Nat) (l1 l2 : List Pt) (w : World) (h1 : w.cell? ⟨bb, 0, none⟩ = some (.slice a1 l1.length c1)) (h2 : w.cell? ⟨bb, 1, none⟩ = some (.slice a2 l2.length c2)) (L1 : partE.Lies w a1 l1) (L2 : partE.Lies w a2 l2) (hl1 : l1.length ≤ 1048576) (hl2 : l2.length ≤ 1048576) (ha1 : a1 = none → c1 = 0) (ha2 : a2 = none → c2 = 0) :
    Calls Try.prog 58 #[.slice (some ⟨bb, 0, none⟩) 2 2] w fun x w' => ∃ a' c', x = .returned (.slice a' (l1 ++ l2).length c') ∧ partE.Own 53 w' w.heap.size a' c' (l1 ++ l2) ∧ Below w.heap.size w w' := by
  have hbb := Draw.lt_of_cell h1
  have HL1 : Hid (partE.Lies w a1 l1) := L1
  have HL2 : Hid (partE.Lies w a2 l2) := L2
  have HA1 : Hid _ := ha1
  have HA2 : Hid _ := ha2
  clear L1 L2 ha1 ha2
  go_enter Try.func58, Try.ntmps58
  go_wp2_with fail
  go_loopw [3, 11] (fun s i wr => wr = w ∧ ((i = .int .i64 0 ∧ s = .int .i64 0) ∨ (i = .int .i64 1 ∧ s = .int .i64 l1.length) ∨ (i = .int .i64 2 ∧ s = .int .i64 (l1.length + l2.length : Nat))))
    (fun _ i _ => 2 - (intOf i).toNat)
  case atStart => exact ⟨rfl, .inl ⟨rfl, rfl⟩⟩
  case round =>
    obtain ⟨rfl, ⟨rfl, rfl⟩ | ⟨rfl, rfl⟩ | ⟨rfl, rfl⟩⟩ := hrel
    · go_wp2_with fail
      go_roundw
      case rel => simp
      case measure => simp [intOf]
    · go_wp2_with fail
      go_roundw
      case rel => simp
      case measure => simp [intOf]
    · go_wp2_with fail
      obtain ⟨w0, hw0⟩ : ∃ w0, w0 = wr := ⟨_, rfl⟩
      subst hw0
      have hg := growNil (l1.length + l2.length) w0 (by omega)
      rw [Int.natCast_add] at hg
      refine hg.mono ?_
      clear hg
      rintro x w1 ⟨a', c', rfl, o1, b1⟩
      have k1 := (b1.cell (p := ⟨bb, 0, none⟩) hbb).trans h1
      have k2 := (b1.cell (p := ⟨bb, 1, none⟩) hbb).trans h2
      have HC : Hid (CatI w0 bb a1 a2 c1 c2 l1 l2 [] (.slice a' 0 c') w1) := ⟨a', c', rfl, o1, b1, k1, k2⟩
      clear k1 k2 o1 b1 h1 h2
      go_wp2_with fail
      go_loopw [6, 27] (fun s i w2 => (i = .int .i64 0 ∧ CatI w0 bb a1 a2 c1 c2 l1 l2 [] s w2) ∨ (i = .int .i64 1 ∧ CatI w0 bb a1 a2 c1 c2 l1 l2 l1 s w2) ∨ (i = .int .i64 2 ∧ CatI w0 bb a1 a2 c1 c2 l1 l2 (l1 ++ l2) s w2))
        (fun _ i _ => 2 - (intOf i).toNat)
      case atStart => exact .inl ⟨rfl, HC.out⟩
      case round =>
        clear HC
        rcases hrel with ⟨rfl, a', c', rfl, o1, b1, k1, k2⟩ | ⟨rfl, a', c', rfl, o1, b1, k1, k2⟩ | ⟨rfl, a', c', rfl, o1, b1, k1, k2⟩
        · go_wp2_with (at_builtin; refine wpList_app typ (by decide) (by rfl) _ _ (by rfl) w0.heap.size a' c' 0 [] l1 rfl (by rfl) o1 b1.size a1 l1.length c1 rfl (by rfl) (HL1.out.later b1) HA1.out (by simp; omega) ?_; intro a3 c3 w3 o3 g3; refine stand ?_)
          have HI : Hid (CatI w0 bb a1 a2 c1 c2 l1 l2 l1 (.slice a3 l1.length c3) w3) := by
            have hne : ∀ g, blk a' = some g → w0.heap.size ≤ g := fun g hg => by
              cases a' with
              | none => simp [blk] at hg
              | some x => simp [blk] at hg; have := (o1.lt x rfl).1; omega
            have b3 := grown_below b1 (Nat.le_refl _) hne g3
            refine ⟨a3, c3, by simp, by simpa using o3, b3, ?_, ?_⟩
            · exact grown_cell g3 k1 (fun e => by have := hne bb e.symm; omega)
            · exact grown_cell g3 k2 (fun e => by have := hne bb e.symm; omega)
          show wpList _ _ _ _ _ _
          clear o1 b1 k1 k2 o3 g3
          go_wp2_with fail
          go_roundw
          case rel => exact .inr (.inl ⟨rfl, HI.out⟩)
          case measure => simp [intOf]
        · go_wp2_with (at_builtin; refine wpList_app typ (by decide) (by rfl) _ _ (by rfl) w0.heap.size a' c' l1.length l1 l2 rfl (by rfl) o1 b1.size a2 l2.length c2 rfl (by rfl) (HL2.out.later b1) HA2.out (by omega) ?_; intro a3 c3 w3 o3 g3; refine stand ?_)
          have HI : Hid (CatI w0 bb a1 a2 c1 c2 l1 l2 (l1 ++ l2) (.slice a3 (l1.length + l2.length) c3) w3) := by
            have hne : ∀ g, blk a' = some g → w0.heap.size ≤ g := fun g hg => by
              cases a' with
              | none => simp [blk] at hg
              | some x => simp [blk] at hg; have := (o1.lt x rfl).1; omega
            have b3 := grown_below b1 (Nat.le_refl _) hne g3
            refine ⟨a3, c3, by simp, o3, b3, ?_, ?_⟩
            · exact grown_cell g3 k1 (fun e => by have := hne bb e.symm; omega)
            · exact grown_cell g3 k2 (fun e => by have := hne bb e.symm; omega)
          show wpList _ _ _ _ _ _
          clear o1 b1 k1 k2 o3 g3
          go_wp2_with fail
          go_roundw
          case rel => exact .inr (.inr ⟨rfl, HI.out⟩)
          case measure => simp [intOf]
        · have HO : Hid _ := o1
          clear o1 k1 k2
          go_wp2_with fail
          go_ret
          exact ⟨a', c', rfl, HO.out, b1⟩

end Go.Proofs.Ytinngechdnglpaa.Tak
