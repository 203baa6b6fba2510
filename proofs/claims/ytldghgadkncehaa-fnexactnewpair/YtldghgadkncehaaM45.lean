/- Contracts of this seat's functions, and their mathematics (HopJL HopDL). -/
import Derived.Test.YtldghgadkncehaaM44
import Derived.Test.YtldghgadkncehaaM39
import Derived.Test.YtldghgadkncehaaM38
set_option linter.unusedVariables false
set_option linter.unusedSimpArgs false
namespace Go.Proofs.Ytldghgadkncehaa.Hop
open Go.RowKit RowG
end Go.Proofs.Ytldghgadkncehaa.Hop
namespace Go.Proofs.Ytldghgadkncehaa.Hop
open Go.RowKit RowG
end Go.Proofs.Ytldghgadkncehaa.Hop
