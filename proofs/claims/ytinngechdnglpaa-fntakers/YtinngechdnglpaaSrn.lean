/- slices.SortFunc of no parts at all: nothing turns; no condition. -/
import Derived.Test.YtinngechdnglpaaShl
import Derived.Test.YtinngechdnglpaaTakA
import Derived.Shelf.SlSortCmp.NoneTotal
namespace Go.Proofs.Ytinngechdnglpaa.Tak
open Go.RowKit RowG Go.Shelf Go.Lib Go.Sort
set_option linter.unusedVariables false

theorem sortNil (cap : Nat) (fv : Value) (w : World) : Calls Try.prog 59 #[.slice none 0 cap, fv] w fun e w' => e = .returned (.tuple #[]) ∧ w' = w :=
  AnyF.slices_SortFunc_none { Shl.sortP with } none cap fv w

end Go.Proofs.Ytinngechdnglpaa.Tak
