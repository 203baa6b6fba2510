/- Package errors at the program's own refusals (chapter 15): errors.As at a target of the refusal's type, errors.Is of a refusal against a sentinel; after the guide's worked contracts (Toyas, Sentry), for a struct that wraps an error. -/
import Derived.Test.YtddicibpfmjgfaaProg
import Derived.Test.YtddicibpfmjgfaaStrA
import Derived.Test.YtddicibpfmjgfaaMem
import Derived.WalkKit
import Derived.LaidEql
import Derived.Stop.Asserts
import Derived.RowKitTokens
namespace Go.Proofs.Ytddicibpfmjgfaa.Err
open Go.RowKit Go.Extern.Stop Go.Stop Go.Extern RowG Str
set_option linter.unusedVariables false
set_option linter.unusedSimpArgs false

end Go.Proofs.Ytddicibpfmjgfaa.Err
