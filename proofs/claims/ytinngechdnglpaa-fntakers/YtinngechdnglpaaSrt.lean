/- Contracts of the program's comparison of two parts and of slices.SortFunc over parts: a permutation, rising by At; rows of fewer than 2^62 parts. -/
import Derived.Test.YtinngechdnglpaaShl
import Derived.Test.YtinngechdnglpaaTakA
namespace Go.Proofs.Ytinngechdnglpaa.Tak
open Go.RowKit RowG Go.Shelf Go.Lib Go.Sort
set_option linter.unusedVariables false
set_option linter.unusedSimpArgs false

def cfP (x y : Pt) : Int := Lib.compareInt x.1 y.1
theorem ltP (x y : Pt) : ltOf cfP x y = decide (x.1 < y.1) := by
  unfold ltOf cfP Lib.compareInt
  by_cases h1 : x.1 < y.1
  · simp [h1]
  · by_cases h2 : y.1 < x.1 <;> simp [h1, h2]
theorem swoP : SWO (ltOf cfP) where
  irrefl x := by rw [ltP]; simp
  trans x y z h1 h2 := by rw [ltP] at *; simp at *; omega
  ntrans x y z h1 h2 := by rw [ltP] at *; simp at *; omega

set_option maxHeartbeats 1000000 in
theorem inOrder1 (x y : Pt) (W : World) : Calls Try.prog 60 #[.agg #[.int .i64 x.1, .string x.2], .agg #[.int .i64 y.1, .string y.2]] W fun e w' => e = .returned (.int .i64 (cfP x y)) ∧ ∃ q os', w' = grow (W.drewN q) os' := by
  have hcon := fun W' => AnyG.cmp_Compare_int Shl.cmpI x.1 y.1 W'
  change ∀ W', Calls Try.prog 61 _ _ _ at hcon
  unfold cfP
  generalize Lib.compareInt x.1 y.1 = r at hcon ⊢
  go_enter Try.func60, Try.ntmps60
  go_wp2_with (go_at_call 61; refine (hcon _).mono ?_; rintro e w' ⟨rfl, rfl⟩)
  go_ret
  exact ⟨rfl, 0, _, by rw [alloc_eq_grow, alloc_eq_grow, grow_grow]; rfl⟩

theorem cmpLaysP (blk off size : Nat) (w : World) : CmpLays Try.prog 60 #[] partE.enc 2 cfP blk off size w :=
  fun _ _ _ _ x y => inOrder1 x y _

theorem sortFunc (blk off cap : Nat) (d : Array Pt) (w : World) (hH : HoldsK partE.enc 2 w blk off d) (hblk : blk < w.heap.size) (hsz : d.size < 4611686018427387904) :
    Calls Try.prog 59 #[.slice (some ⟨blk, off, none⟩) d.size cap, .func (.func 60) #[] #[]] w fun e w' => e = .returned (.tuple #[]) ∧ ∃ d' n os, PermIn 0 d.size d d' ∧ SortedIn (ltOf cfP) 0 d.size d' ∧ w' = sortWorldK partE.enc 2 w blk off n d' os :=
  AnyQ.slices_SortFunc Shl.sortP 2 Try.isAgg53 Try.sizeOf53 partE.enc (fun _ => rfl) (fun x v hv => partE.one x v hv) cfP swoP 60 #[] blk off cap d w (enters_of Try.func60 (by kernel_rfl) rfl) (cmpLaysP blk off d.size w) hH hblk hsz

end Go.Proofs.Ytinngechdnglpaa.Tak
