/- Lines (chapter 13): what all texts of lines and worlds stand on. -/
import Derived.Test.YtldghgadkncehaaHopJL
import Derived.Test.YtldghgadkncehaaHopEL
import Derived.Test.YtldghgadkncehaaHopK
import Derived.Test.YtldghgadkncehaaRoaB
import Derived.Test.YtldghgadkncehaaPumM
import Derived.Test.YtldghgadkncehaaRowW
