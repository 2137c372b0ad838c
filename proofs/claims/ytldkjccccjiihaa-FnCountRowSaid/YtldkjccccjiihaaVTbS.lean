/-
  Tables out of rows, as the model makes them. No condition.
-/
import Derived.Test.YtldkjccccjiihaaVDrawTb
import Derived.Test.YtldkjccccjiihaaVClone
set_option maxHeartbeats 4000000
set_option maxRecDepth 100000
set_option linter.unusedVariables false
set_option linter.unusedSimpArgs false
namespace Go.Proofs.Ytldkjccccjiihaa
open Go.RowKit

end Go.Proofs.Ytldkjccccjiihaa
