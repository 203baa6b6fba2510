/- Hops: the specification's l7Send and l7Tell, and where the letters lie then. -/
import Derived.Test.YtldghgadkncehaaHopE
import Derived.Test.YtldghgadkncehaaHopDL
namespace Go.Proofs.Ytldghgadkncehaa.Hop
open Go.RowKit RowG
set_option linter.unusedVariables false
set_option linter.unusedSimpArgs false

end Go.Proofs.Ytldghgadkncehaa.Hop
