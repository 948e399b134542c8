/- Contracts of the functions that the laws run. -/
import Derived.Test.Ytdbhfkbfajljpaach04
import Derived.Test.YtdbhfkbfajljpaaEngB
namespace Go.Proofs.Ytdbhfkbfajljpaa
open Go Go.Eng
set_option linter.unusedSimpArgs false
set_option linter.unusedVariables false
set_option maxRecDepth 10000
set_option maxHeartbeats 1000000
end Go.Proofs.Ytdbhfkbfajljpaa
