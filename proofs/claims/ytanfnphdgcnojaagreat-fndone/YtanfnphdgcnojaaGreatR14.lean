/- Contracts of this seat's functions, and their mathematics (HopJL HopDL). -/
import Derived.Test.YtanfnphdgcnojaaGreatR13
import Derived.Test.YtanfnphdgcnojaaGreatR9
import Derived.Test.YtanfnphdgcnojaaGreatR8
set_option linter.unusedVariables false
set_option linter.unusedSimpArgs false
namespace Go.Proofs.YtanfnphdgcnojaaGreat.Hop
open Go.RowKit RowG
end Go.Proofs.YtanfnphdgcnojaaGreat.Hop
namespace Go.Proofs.YtanfnphdgcnojaaGreat.Hop
open Go.RowKit RowG
end Go.Proofs.YtanfnphdgcnojaaGreat.Hop
