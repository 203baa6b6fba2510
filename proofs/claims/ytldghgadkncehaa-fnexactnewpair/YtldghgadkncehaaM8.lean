/- Contracts of this seat's functions, and their mathematics (TakF TakG). -/
import Derived.Test.YtldghgadkncehaaM7
import Derived.Deep.Cut
import Derived.BigRegion
set_option linter.unusedVariables false
set_option linter.unusedSimpArgs false
namespace Go.Proofs.Ytldghgadkncehaa.Tak
open Go.RowKit RowG
/-- What is next goes to the bytes, as far as there is no hole. -/
def joinT : Int → ByteArray → List Pt → Int × ByteArray × List Pt
  | nx, bs, [] => (nx, bs, [])
  | nx, bs, p :: r => if p.1 = nx then joinT (endP p) (bs ++ p.2) r else (nx, bs, p :: r)
def tot : List Pt → Nat
  | [] => 0
  | p :: r => p.2.size + tot r
/-- How long the list is to which a variable's third cell leads. -/
def lenAt (k ow : Nat) (w : World) : Nat := match w.cell? ⟨k, ow + 2, none⟩ with
  | some (.slice _ n _) => n
  | _ => 0
theorem lenAt_is {k ow : Nat} {w : World} {a : Option Addr} {n c : Nat} (h : w.cell? ⟨k, ow + 2, none⟩ = some (.slice a n c)) : lenAt k ow w = n := by unfold lenAt; rw [h]
end Go.Proofs.Ytldghgadkncehaa.Tak
namespace Go.Proofs.Ytldghgadkncehaa.Tak
open Go.RowKit RowG
def lastEnd (nx : Int) (l : List Pt) : Int := match l.getLast? with
  | none => nx
  | some p => endP p
/-- Is nothing of it taken? -/
def takeBad (t : Tk) (p : Int) (bz : ByteArray) (e : Bool) : Prop :=
  Num.plB p = false ∨ Num.plB (p + bz.size) = false ∨ 40 < bz.size ∨ (0 ≤ t.fi ∧ t.fi < p + bz.size) ∨ (e = true ∧ (p + bz.size < lastEnd t.nx t.l ∨ (0 ≤ t.fi ∧ t.fi ≠ p + bz.size)))
instance (t : Tk) (p : Int) (bz : ByteArray) (e : Bool) : Decidable (takeBad t p bz e) := by unfold takeBad; exact inferInstance
def freshB (nx lim stop : Int) (l : List Pt) (k : Int) : Bool := decide (k < stop) && (decide (nx ≤ k) && (decide (k < lim) && !thereB l k))
/-- One place more: the parts, where a run began (or -1), whether anything changed. -/
def stepK (nx lim p : Int) (bz : ByteArray) (st : List Pt × Int × Bool) (k : Int) : List Pt × Int × Bool :=
  if freshB nx lim (p + bz.size) st.1 k = true then (if st.2.1 < 0 then (st.1, k, st.2.2) else st)
  else (if 0 ≤ st.2.1 then (putP st.1 (st.2.1, bz.extract (st.2.1 - p).toNat (k - p).toNat), -1, true) else st)
def foldK (nx lim p : Int) (bz : ByteArray) (l : List Pt) (n : Nat) : List Pt × Int × Bool := (List.range n).foldl (fun st (i : Nat) => stepK nx lim p bz st (p + i)) (l, -1, false)
theorem foldK_succ (nx lim p : Int) (bz : ByteArray) (l : List Pt) (n : Nat) : foldK nx lim p bz l (n + 1) = stepK nx lim p bz (foldK nx lim p bz l n) (p + n) := by
  unfold foldK
  rw [List.range_succ, List.foldl_append]
  rfl
theorem tot_append (l r : List Pt) : tot (l ++ r) = tot l + tot r := by
  induction l with
  | nil => simp [tot]
  | cons x l ih => simp [tot, ih]; omega
theorem tot_putP (l : List Pt) (q : Pt) : tot (putP l q) = tot l + q.2.size := by
  unfold putP
  have h := tot_append (l.take (cnt (ahead q) l)) (l.drop (cnt (ahead q) l))
  rw [List.take_append_drop] at h
  rw [tot_append, tot_append, h]
  simp [tot]
  omega
theorem Bd_putP {l : List Pt} {q : Pt} (h : Bd l) (hq : -1152921504606846976 ≤ q.1 ∧ q.1 ≤ 4611686018427387904 ∧ q.2.size ≤ 2097152) : Bd (putP l q) := by
  intro x hx
  unfold putP at hx
  simp at hx
  rcases hx with hx | hx | hx
  · exact h x (List.mem_of_mem_take hx)
  · subst hx; exact hq
  · exact h x (List.mem_of_mem_drop hx)
theorem ext_le (b : ByteArray) (i j : Nat) : (b.extract i j).size ≤ b.size := by
  rw [ByteArray.size_extract]
  omega
def takeT (t : Tk) (p : Int) (bz : ByteArray) (e : Bool) : Tk × Bool :=
  if takeBad t p bz e then (t, false) else
    let st := foldK t.nx (limT t.nx t.bs t.cp) p bz t.l (bz.size + 1)
    let j := joinT t.nx t.bs st.1
    let fi := if e = true ∧ t.fi < 0 then p + bz.size else t.fi
    (⟨j.1, j.2.1, j.2.2, t.cp, fi, decide (fi = j.1)⟩, st.2.2 || (e && decide (t.fi < 0)))
end Go.Proofs.Ytldghgadkncehaa.Tak
