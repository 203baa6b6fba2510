/- Givers (chapter 6): the specification's l6Offer and Offers. -/
import Derived.Test.YtldghgadkncehaaGivB
namespace Go.Proofs.Ytldghgadkncehaa.Giv
open Go.RowKit RowG
set_option linter.unusedVariables false
set_option linter.unusedSimpArgs false

def stopG (g : Gv) (at' n : Int) : Int := min (at' + n) (min (g.ba + g.bs.size) (max at' g.lm))
/-- What is offered: the part's place and bytes, whether the end is told, whether there is anything. -/
def offerG (g : Gv) (p n : Int) : (Int × ByteArray) × Bool × Bool :=
  if p < g.ba ∨ g.ba + g.bs.size < p ∨ ¬ (0 ≤ n ∧ n ≤ 40) then ((0, ⟨#[]⟩), false, false) else
  if stopG g p n = p ∧ (g.en && decide (stopG g p n = g.ba + g.bs.size)) = false then ((0, ⟨#[]⟩), false, false) else
  ((p, g.bs.extract (p - g.ba).toNat (stopG g p n - g.ba).toNat), (g.en && decide (stopG g p n = g.ba + g.bs.size)), true)
def offersG (g : Gv) (p n : Int) : (Int × ByteArray) × Bool × Bool := if g.ok then offerG g p n else ((0, ⟨#[]⟩), false, false)
abbrev offV (r : (Int × ByteArray) × Bool × Bool) : Value := .tuple #[.agg #[.int .i64 r.1.1, .string r.1.2], .bool r.2.1, .bool r.2.2]
theorem res_cell_tmp2 {fn : Func} {p u v : Tmp} {ty : TypeId} (h : fn.results = #[.cell p ty, .tmp u, .tmp v]) (tmps : Array Value) (P : Program) (w : World) :
    (results fn tmps).run P w = ((asAddr (tmps.getD p undef)).run P w).andThen fun a w₁ => ((loadVar ty a).run P w₁).andThen fun r w₂ => .ok (.tuple #[r, tmps.getD u undef, tmps.getD v undef]) w₂ := by
  simp only [results, h]
  simp [Sem.run_bind, Result.andThen]

end Go.Proofs.Ytldghgadkncehaa.Giv
