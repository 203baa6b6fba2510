/- Contracts of the specification's Turn, Used, OpenOnes (chapter 10); lists of at most 2^21 roads. -/
import Derived.Test.YtldghgadkncehaaRoaA
namespace Go.Proofs.Ytldghgadkncehaa.Roa
open Go.RowKit RowG
set_option linter.unusedVariables false
set_option linter.unusedSimpArgs false

/-- Is there a road r? -/
def hasB (l : List Rd) (r : Int) : Bool := decide (0 ≤ r ∧ r < (l.length : Int))
def turnB (l : List Rd) (r : Int) (o : Bool) : Bool := roadsB l && (hasB l r && ((at' l r.toNat).op != o))
def turnL (l : List Rd) (r : Int) (o : Bool) : List Rd := if roadsB l then (if turnB l r o then l.set r.toNat { at' l r.toNat with op := o } else l) else []
def usedB (l : List Rd) (r : Int) : Bool := roadsB l && (hasB l r && ((at' l r.toNat).se != 1000000000))
def usedR (x : Rd) (lost : Bool) : Rd := ⟨x.op, x.co, x.se + 1, if lost then x.lo + 1 else x.lo⟩
def usedL (l : List Rd) (r : Int) (lost : Bool) : List Rd := if roadsB l then (if usedB l r then l.set r.toNat (usedR (at' l r.toNat) lost) else l) else []
/-- The numbers of those that are open, rising. -/
def openN : Nat → List Rd → List Int
  | _, [] => []
  | k, x :: l => if x.op then (k : Int) :: openN (k + 1) l else openN (k + 1) l
def openL (l : List Rd) : List Int := if roadsB l then openN 0 l else []
theorem openN_append : ∀ (l l' : List Rd) (k : Nat), openN k (l ++ l') = openN k l ++ openN (k + l.length) l'
  | [], l', k => by simp [openN]
  | x :: l, l', k => by
    have := openN_append l l' (k + 1)
    simp only [List.cons_append, openN, List.length_cons]
    rw [this, show k + 1 + l.length = k + (l.length + 1) by omega]
    split <;> simp
theorem take_at {l : List Rd} {k : Nat} (h : k < l.length) : l.take (k + 1) = l.take k ++ [at' l k] := by
  rw [List.take_add_one, at_some h]
  rfl
theorem openN_step {l : List Rd} {k : Nat} (h : k < l.length) : openN 0 (l.take (k + 1)) = openN 0 (l.take k) ++ (if (at' l k).op then [(k : Int)] else []) := by
  rw [take_at h, openN_append, List.length_take, Nat.min_eq_left (by omega)]
  simp [openN]
theorem openN_len : ∀ (l : List Rd) (k : Nat), (openN k l).length ≤ l.length
  | [], k => by simp [openN]
  | x :: l, k => by
    have := openN_len l (k + 1)
    simp only [openN, List.length_cons]
    split
    · simp only [List.length_cons]; omega
    · omega

/-- A row of numbers. -/
def EI : El Int where
  enc n := [.int .i64 n]
  size := 1
  len _ := rfl
  one x u hu := by simp at hu; rw [hu]; rfl
  pos := by decide
theorem infoInt : (Try.prog.info? 2).map (fun i => (i.zero, i.size, i.bytes)) = some (some (.int .i64 0), 1, 8) := by kernel_rfl
theorem tyI : Typ Try.prog 46 2 EI 8 := ⟨Try.underlying46, by
  obtain ⟨i, hi, h0, h1, h2⟩ := info_parts infoInt
  exact ⟨i, _, hi, h0, h1, h2, rfl⟩⟩
def OwnI (w : World) (B g c : Nat) (l : List Int) : Prop := EI.Own 2 w B (some ⟨g, 0, none⟩) c l
theorem ownI_empty (w : World) : EI.Own 2 (w.alloc (.cells #[] 2)) w.heap.size (some ⟨w.heap.size, 0, none⟩) 0 [] := El.Own.made w
theorem tne : (2 : Nat) ≠ 97 := by decide
theorem tne' : (97 : Nat) ≠ 2 := by decide

set_option maxHeartbeats 1000000 in
theorem l10Copy (a : Option Addr) (n cap : Nat) (l : List Rd) (w : World) (hn : n = l.length) (h : E.Lies w a l) (ha : a = none → cap = 0) (hl : l.length ≤ 2097152) :
    Calls Try.prog 59 #[.slice a n cap] w fun x w' => ∃ g c, x = .returned (.slice (some ⟨g, 0, none⟩) l.length c) ∧ Own w' w.heap.size g c l ∧ Below w.heap.size w w' := by
  subst hn
  have b0 : Below w.heap.size w (w.alloc (.cells #[] 97)) := (Below.refl _ _).alloc (Nat.le_refl _) _
  have o0 := own_empty w
  have L0 := h.alloc (.cells #[] 97)
  have n0 : w.heap.size ≤ (w.alloc (.cells #[] 97)).heap.size := b0.size
  go_enter Try.func59, Try.ntmps59
  go_wp2_with (at_builtin; refine wpList_appS ty (by decide) (by rfl) _ _ (by rfl) w.heap.size w.heap.size 0 0 [] l rfl (by rfl) o0 n0 a _ cap rfl (by rfl) L0 ha (by simp only [List.length_nil]; omega) ?_; intro g1 c1 w3 o3 gr3)
  have b3 : Below w.heap.size w w3 := grown_below b0 (Nat.le_refl _) (fun j hj => by cases hj; exact Nat.le_refl _) gr3
  go_ret
  exact ⟨g1, c1, rfl, o3, b3⟩

theorem put4 {w : World} {B g c : Nat} {l : List Rd} (h : Own w B g c l) {k : Nat} (hk : k < l.length) (y : Rd) :
    Own ((((w.setCell ⟨g, k * 4, none⟩ (.bool y.op)).setCell ⟨g, k * 4 + 1, none⟩ (.int .i64 y.co)).setCell ⟨g, k * 4 + 2, none⟩ (.int .i64 y.se)).setCell ⟨g, k * 4 + 3, none⟩ (.int .i64 y.lo)) B g c (l.set k y) := by
  have h0 := at_some hk
  generalize at' l k = x at h0
  have s0 : Own (w.setCell ⟨g, k * 4 + 0, none⟩ (.bool y.op)) B g c (l.set k ⟨y.op, x.co, x.se, x.lo⟩) := El.Own.put (E := E) h h0 (j := 0) (by decide) rfl
  rw [Nat.add_zero] at s0
  have g1 : (l.set k ⟨y.op, x.co, x.se, x.lo⟩)[k]? = some ⟨y.op, x.co, x.se, x.lo⟩ := by simp [hk]
  have s1 : Own ((w.setCell ⟨g, k * 4, none⟩ (.bool y.op)).setCell ⟨g, k * 4 + 1, none⟩ (.int .i64 y.co)) B g c ((l.set k ⟨y.op, x.co, x.se, x.lo⟩).set k ⟨y.op, y.co, x.se, x.lo⟩) := El.Own.put (E := E) s0 g1 (j := 1) (by decide) rfl
  rw [List.set_set] at s1
  have g2 : (l.set k ⟨y.op, y.co, x.se, x.lo⟩)[k]? = some ⟨y.op, y.co, x.se, x.lo⟩ := by simp [hk]
  have s2 : Own (((w.setCell ⟨g, k * 4, none⟩ (.bool y.op)).setCell ⟨g, k * 4 + 1, none⟩ (.int .i64 y.co)).setCell ⟨g, k * 4 + 2, none⟩ (.int .i64 y.se)) B g c ((l.set k ⟨y.op, y.co, x.se, x.lo⟩).set k ⟨y.op, y.co, y.se, x.lo⟩) := El.Own.put (E := E) s1 g2 (j := 2) (by decide) rfl
  rw [List.set_set] at s2
  have g3 : (l.set k ⟨y.op, y.co, y.se, x.lo⟩)[k]? = some ⟨y.op, y.co, y.se, x.lo⟩ := by simp [hk]
  have s3 : Own ((((w.setCell ⟨g, k * 4, none⟩ (.bool y.op)).setCell ⟨g, k * 4 + 1, none⟩ (.int .i64 y.co)).setCell ⟨g, k * 4 + 2, none⟩ (.int .i64 y.se)).setCell ⟨g, k * 4 + 3, none⟩ (.int .i64 y.lo)) B g c ((l.set k ⟨y.op, y.co, y.se, x.lo⟩).set k y) := El.Own.put (E := E) s2 g3 (j := 3) (by decide) rfl
  rwa [List.set_set] at s3

end Go.Proofs.Ytldghgadkncehaa.Roa
