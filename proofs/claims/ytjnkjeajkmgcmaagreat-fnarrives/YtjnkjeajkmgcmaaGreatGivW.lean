/- Mathematics of FnOffers: what is offered of a right giver; plain. -/
import Derived.Test.YtjnkjeajkmgcmaaGreatGivD
namespace Go.Proofs.YtjnkjeajkmgcmaaGreat.Giv
open Go.RowKit RowG
set_option linter.unusedVariables false
set_option linter.unusedSimpArgs false

end Go.Proofs.YtjnkjeajkmgcmaaGreat.Giv
