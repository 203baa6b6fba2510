/- Hops: the specification's l7Post, and where the letters lie then; at most 30 letters. -/
import Derived.Test.YtldghgadkncehaaHopD
import Derived.Test.YtldghgadkncehaaRowL
namespace Go.Proofs.Ytldghgadkncehaa.Hop
open Go.RowKit RowG
set_option linter.unusedVariables false
set_option linter.unusedSimpArgs false

end Go.Proofs.Ytldghgadkncehaa.Hop
