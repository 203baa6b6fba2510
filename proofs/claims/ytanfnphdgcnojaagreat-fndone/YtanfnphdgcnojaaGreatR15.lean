/- Contracts of this seat's functions, and their mathematics (HopEL). -/
import Derived.Test.YtanfnphdgcnojaaGreatR10
import Derived.Test.YtanfnphdgcnojaaGreatR14
set_option linter.unusedVariables false
set_option linter.unusedSimpArgs false
namespace Go.Proofs.YtanfnphdgcnojaaGreat.Hop
open Go.RowKit RowG
end Go.Proofs.YtanfnphdgcnojaaGreat.Hop
