/- Hops: the specification's l7Come, and where the letters lie then; of a right hop. -/
import Derived.Test.YtldghgadkncehaaHopJ
import Derived.Test.YtldghgadkncehaaHopIL
namespace Go.Proofs.Ytldghgadkncehaa.Hop
open Go.RowKit RowG
set_option linter.unusedVariables false
set_option linter.unusedSimpArgs false

end Go.Proofs.Ytldghgadkncehaa.Hop
