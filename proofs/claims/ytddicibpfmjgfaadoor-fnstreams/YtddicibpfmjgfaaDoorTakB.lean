/- Contract of the specification's TakerOk; lists of at most 2^21 parts, none beyond 2^62. -/
import Derived.Test.YtddicibpfmjgfaaDoorTakA
namespace Go.Proofs.YtddicibpfmjgfaaDoor.Tak
open Go.RowKit RowG
set_option linter.unusedVariables false
set_option linter.unusedSimpArgs false

end Go.Proofs.YtddicibpfmjgfaaDoor.Tak
