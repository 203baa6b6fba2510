/- Givers (chapter 6): the specification's l6Write and Writes. -/
import Derived.Test.YtldghgadkncehaaGivA
import Derived.Test.YtldghgadkncehaaWin
import Derived.Test.YtldghgadkncehaaTakeY
import Derived.BigQuiet
namespace Go.Proofs.Ytldghgadkncehaa.Giv
open Go.RowKit RowG
set_option linter.unusedVariables false
set_option linter.unusedSimpArgs false

/-- How many bytes are taken, and what the giver is then. -/
def fitN (g : Gv) (s : ByteArray) : Int := min (s.size : Int) (min (g.cp - g.bs.size) (1000000000 - (g.ba + g.bs.size)))
def writeG (g : Gv) (s : ByteArray) : Gv × Int := if g.en then (g, 0) else (⟨g.ba, g.bs ++ s.extract 0 (fitN g s).toNat, g.cp, g.lm, g.en, g.dn⟩, fitN g s)
def writesG (g : Gv) (s : ByteArray) : Gv × Int := if g.ok then writeG g s else (zeroG, -1)
theorem fit_in {g : Gv} (h : g.ok = true) (s : ByteArray) : 0 ≤ fitN g s ∧ fitN g s ≤ s.size ∧ g.bs.size + fitN g s ≤ g.cp ∧ g.ba + (g.bs.size + fitN g s) ≤ 1000000000 := by
  obtain ⟨h1, h2, h3, h4, h5, h6, h7⟩ := ok_iff.1 h
  unfold fitN
  omega
theorem ext_size (b : ByteArray) (i j : Nat) (h : j ≤ b.size) : (b.extract i j).size = j - i := by
  rw [ByteArray.size_extract]
  omega
theorem write_ok {g : Gv} (h : g.ok = true) (s : ByteArray) : (writeG g s).1.ok = true := by
  obtain ⟨f1, f2, f3, f4⟩ := fit_in h s
  obtain ⟨h1, h2, h3, h4, h5, h6, h7⟩ := ok_iff.1 h
  unfold writeG
  split
  · exact h
  · rename_i he
    have e : (s.extract 0 (fitN g s).toNat).size = (fitN g s).toNat := by rw [ext_size _ _ _ (by omega)]; omega
    refine ok_iff.2 ⟨h1, h2, ?_, ?_, h5, h6, fun hd => absurd (h7 hd).1 he⟩
    · show ((g.bs ++ s.extract 0 (fitN g s).toNat).size : Int) ≤ g.cp
      rw [ByteArray.size_append, e]; omega
    · show g.ba + ((g.bs ++ s.extract 0 (fitN g s).toNat).size : Int) ≤ 1000000000
      rw [ByteArray.size_append, e]; omega

end Go.Proofs.Ytldghgadkncehaa.Giv
