/- Contract of the program's TakenAway; lists of at most 2^21 parts, none beyond 2^62. -/
import Derived.Test.YtldghgadkncehaaTakT
import Derived.Deep.Cut
namespace Go.Proofs.Ytldghgadkncehaa.Tak
open Go.RowKit RowG Rng
set_option linter.unusedVariables false
set_option linter.unusedSimpArgs false

end Go.Proofs.Ytldghgadkncehaa.Tak
