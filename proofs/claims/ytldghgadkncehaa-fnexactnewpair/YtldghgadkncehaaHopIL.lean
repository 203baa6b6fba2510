/- Hops: the specification's l7Out, and where the letters lie then. -/
import Derived.Test.YtldghgadkncehaaHopI
import Derived.Test.YtldghgadkncehaaRowL
namespace Go.Proofs.Ytldghgadkncehaa.Hop
open Go.RowKit RowG
set_option linter.unusedVariables false
set_option linter.unusedSimpArgs false

end Go.Proofs.Ytldghgadkncehaa.Hop
