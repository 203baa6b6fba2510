/- Contracts of this seat's functions, and their mathematics (HopE). -/
import Derived.Test.YtldghgadkncehaaM39
import Derived.Test.YtldghgadkncehaaM26
set_option linter.unusedVariables false
set_option linter.unusedSimpArgs false
namespace Go.Proofs.Ytldghgadkncehaa.Hop
open Go.RowKit RowG
/-- What is offered is a letter more. -/
def sendL (o : (Int × ByteArray) × Bool × Bool) (road : Int) : Lt := ⟨false, road, o.1.1, o.1.2, o.2.1, 0, false⟩
def sendH (h : Hp) (road p n : Int) : Hp × Bool := if (Giv.offerG h.g p n).2.2 then (postH h (sendL (Giv.offerG h.g p n) road), postB h (sendL (Giv.offerG h.g p n) road)) else (h, false)
/-- What is told is a letter back more. -/
def tellL (t : Tak.Tk) (road : Int) (done : Bool) : Lt := ⟨true, road, t.nx, ⟨#[]⟩, false, (if 1000000000 < Tak.limT t.nx t.bs t.cp then 1000000000 else Tak.limT t.nx t.bs t.cp), done && t.en⟩
def tellH (h : Hp) (road : Int) (done : Bool) : Hp × Bool := (postH h (tellL h.t road done), postB h (tellL h.t road done))
theorem offer_size {g : Giv.Gv} (h : g.ok = true) (p n : Int) : (Giv.offerG g p n).1.2.size ≤ 400 := by
  have hb := (Giv.ok_iff.1 h)
  have h1 : (g.bs.size : Int) ≤ 400 := by omega
  unfold Giv.offerG
  split
  · exact Nat.zero_le _
  · split
    · exact Nat.zero_le _
    · dsimp only
      rw [ByteArray.size_extract]
      omega
end Go.Proofs.Ytldghgadkncehaa.Hop
