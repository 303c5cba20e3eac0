import Derived.Test.YtfdokliebmeplacVlacT16
namespace Go.Vl
set_option linter.unusedVariables false
set_option linter.unusedSimpArgs false
open Go.Proofs

end Go.Vl
