/- errors.Is of a refusal against a sentinel (chapter 15). -/
import Derived.Test.YtddicibpfmjgfaaStrA
import Derived.WalkKit
import Derived.LaidEql
import Derived.Stop.Asserts
import Derived.RowKitTokens
namespace Go.Proofs.Ytddicibpfmjgfaa.Err
open Go.RowKit Go.Extern.Stop Go.Stop Go.Extern RowG Str
set_option linter.unusedVariables false
set_option linter.unusedSimpArgs false

end Go.Proofs.Ytddicibpfmjgfaa.Err
