/- Contracts of this seat's functions, and their mathematics (HopJL HopDL). -/
import Derived.Test.YtanfnphdgcnojaaGreatQ15
import Derived.Test.YtanfnphdgcnojaaGreatQ10
import Derived.Test.YtanfnphdgcnojaaGreatQ9
set_option linter.unusedVariables false
set_option linter.unusedSimpArgs false
namespace Go.Proofs.YtanfnphdgcnojaaGreat.Hop
open Go.RowKit RowG
end Go.Proofs.YtanfnphdgcnojaaGreat.Hop
namespace Go.Proofs.YtanfnphdgcnojaaGreat.Hop
open Go.RowKit RowG
end Go.Proofs.YtanfnphdgcnojaaGreat.Hop
