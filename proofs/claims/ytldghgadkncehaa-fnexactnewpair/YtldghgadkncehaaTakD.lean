/- Contracts of the specification's l5There and TakenAway; lists of at most 2^21 parts, none beyond 2^62. -/
import Derived.Test.YtldghgadkncehaaTakC
import Derived.Deep.Cut
import Derived.BigRegion
namespace Go.Proofs.Ytldghgadkncehaa.Tak
open Go.RowKit RowG
set_option linter.unusedVariables false
set_option linter.unusedSimpArgs false

/-- A taker. -/
structure Tk where
  nx : Int
  bs : ByteArray
  l : List Pt
  cp : Int
  fi : Int
  en : Bool
def Tk.v (t : Tk) (a : Option Addr) (c : Nat) : Value := .agg #[.int .i64 t.nx, .string t.bs, .slice a t.l.length c, .int .i64 t.cp, .int .i64 t.fi, .bool t.en]
def Tk.ok (t : Tk) : Bool := takerB t.nx t.bs t.l t.cp t.fi t.en
def zeroK : Tk := ⟨0, ⟨#[]⟩, [], 0, 0, false⟩
/-- Parts that the specification's sums do not go round at. -/
def Bd (l : List Pt) : Prop := ∀ p ∈ l, -1152921504606846976 ≤ p.1 ∧ p.1 ≤ 4611686018427387904 ∧ p.2.size ≤ 2097152
theorem Bd.up {l : List Pt} (h : Bd l) : ∀ p ∈ l, p.1 ≤ 4611686018427387904 ∧ p.2.size ≤ 2097152 := fun p hp => (h p hp).2
def inP (k : Int) (p : Pt) : Bool := decide (p.1 ≤ k ∧ k < endP p)
def thereB (l : List Pt) (k : Int) : Bool := l.any (inP k)
theorem any_take {α : Type} {l : List α} {k : Nat} {x : α} (h : l[k]? = some x) (p : α → Bool) : (l.take (k + 1)).any p = ((l.take k).any p || p x) := by
  have hk : k < l.length := (List.getElem?_eq_some_iff.1 h).1
  have e : l.take (k + 1) = l.take k ++ [x] := by
    rw [List.take_add_one, h]
    rfl
  rw [e, List.any_append]
  simp

/-- What TakenAway answers. -/
def takenAway (t : Tk) (n : Int) : Tk × ByteArray :=
  if t.ok then (if n < 0 ∨ (t.bs.size : Int) < n then (t, ⟨#[]⟩) else ({ t with bs := t.bs.extract n.toNat t.bs.size }, t.bs.extract 0 n.toNat)) else (zeroK, ⟨#[]⟩)

end Go.Proofs.Ytldghgadkncehaa.Tak
