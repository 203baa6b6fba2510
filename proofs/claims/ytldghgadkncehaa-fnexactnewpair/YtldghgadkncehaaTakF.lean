/- Contract of the specification's l5Join, through a pointer; lists of at most 2^20 parts. -/
import Derived.Test.YtldghgadkncehaaTakE
namespace Go.Proofs.Ytldghgadkncehaa.Tak
open Go.RowKit RowG
set_option linter.unusedVariables false
set_option linter.unusedSimpArgs false

/-- What is next goes to the bytes, as far as there is no hole. -/
def joinT : Int → ByteArray → List Pt → Int × ByteArray × List Pt
  | nx, bs, [] => (nx, bs, [])
  | nx, bs, p :: r => if p.1 = nx then joinT (endP p) (bs ++ p.2) r else (nx, bs, p :: r)
def tot : List Pt → Nat
  | [] => 0
  | p :: r => p.2.size + tot r
/-- How long the list is to which a variable's third cell leads. -/
def lenAt (k ow : Nat) (w : World) : Nat := match w.cell? ⟨k, ow + 2, none⟩ with
  | some (.slice _ n _) => n
  | _ => 0
theorem lenAt_is {k ow : Nat} {w : World} {a : Option Addr} {n c : Nat} (h : w.cell? ⟨k, ow + 2, none⟩ = some (.slice a n c)) : lenAt k ow w = n := by unfold lenAt; rw [h]

end Go.Proofs.Ytldghgadkncehaa.Tak
