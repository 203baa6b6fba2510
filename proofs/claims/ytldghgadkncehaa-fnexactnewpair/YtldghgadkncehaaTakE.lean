/- Contracts of the specification's l5Put and l5Join, through a pointer; lists of at most 2^20 parts. -/
import Derived.Test.YtldghgadkncehaaTakD
import Derived.Test.YtldghgadkncehaaWin
import Derived.Test.YtldghgadkncehaaTakeZ
import Derived.Test.YtldghgadkncehaaRowH
namespace Go.Proofs.Ytldghgadkncehaa.Tak
open Go.RowKit RowG
set_option linter.unusedVariables false
set_option linter.unusedSimpArgs false

/-- How many of a list's first elements f holds of. -/
def cnt {α : Type} (f : α → Bool) : List α → Nat
  | [] => 0
  | x :: l => if f x = true then cnt f l + 1 else 0
theorem cnt_le {α : Type} (f : α → Bool) : ∀ l : List α, cnt f l ≤ l.length
  | [] => Nat.le_refl _
  | x :: l => by
    have := cnt_le f l
    simp only [cnt, List.length_cons]
    split <;> omega
theorem cnt_is {α : Type} {f : α → Bool} : ∀ {l : List α} {k : Nat}, k ≤ l.length → (∀ j x, j < k → l[j]? = some x → f x = true) → (∀ x, l[k]? = some x → f x = false) → cnt f l = k
  | [], k, h, _, _ => by simp at h; simp [cnt, h]
  | x :: l, 0, _, _, h => by
    have h0 : f x = false := h x rfl
    simp [cnt, h0]
  | x :: l, k + 1, h, ha, hb => by
    have h0 : f x = true := ha 0 x (by omega) rfl
    have h1 := cnt_is (f := f) (l := l) (k := k) (by simpa using h) (fun j y hj hy => ha (j + 1) y (by omega) (by simpa using hy)) (fun y hy => hb y (by simpa using hy))
    simp [cnt, h0, h1]
def ahead (p : Pt) (x : Pt) : Bool := decide (x.1 < p.1)
theorem triple {α : Type} {E : El α} {w w' : World} {r : Option Nat} {p q s : Addr} {x y z : Value} (g : w.grownBy w' r) (h : w.cell? p = some x ∧ w.cell? q = some y ∧ w.cell? s = some z) (hp : some p.block ≠ r) (hq : some q.block ≠ r) (hs : some s.block ≠ r) : w'.cell? p = some x ∧ w'.cell? q = some y ∧ w'.cell? s = some z :=
  ⟨grown_cell g h.1 hp, grown_cell g h.2.1 hq, grown_cell g h.2.2 hs⟩
theorem _root_.Go.Proofs.Ytldghgadkncehaa.RowG.El.Own.blk_ne {α : Type} {E : El α} {T : TypeId} {w : World} {B : Nat} {a : Option Addr} {c : Nat} {l : List α} (h : E.Own T w B a c l) {k : Nat} (hk : k < B) : some k ≠ blk a := by
  intro e
  cases a with
  | none => simp [blk] at e
  | some x =>
    have := (h.lt x rfl).1
    simp [blk] at e
    omega
theorem _root_.Go.Proofs.Ytldghgadkncehaa.RowG.El.Own.blk_le {α : Type} {E : El α} {T : TypeId} {w : World} {B : Nat} {a : Option Addr} {c : Nat} {l : List α} (h : E.Own T w B a c l) {k : Nat} (hk : blk a = some k) : B ≤ k := by
  cases a with
  | none => simp [blk] at hk
  | some x =>
    have := (h.lt x rfl).1
    simp [blk] at hk
    omega
/-- A part more, where it belongs. -/
def putP (l : List Pt) (p : Pt) : List Pt := l.take (cnt (ahead p) l) ++ [p] ++ l.drop (cnt (ahead p) l)
theorem putP_len (l : List Pt) (p : Pt) : (putP l p).length = l.length + 1 := by
  have := cnt_le (ahead p) l
  simp [putP]
  omega

end Go.Proofs.Ytldghgadkncehaa.Tak
