/-
  Lists of numbers, as the exact laws treat them. No condition.
-/
import Derived.Test.YtbdpdmojepiepaaVGateI
import Derived.Test.YtbdpdmojepiepaaVSzV
import Derived.Test.YtbdpdmojepiepaaDc0
import Derived.Test.YtbdpdmojepiepaaDc8
set_option maxHeartbeats 4000000
set_option maxRecDepth 100000
namespace Go.Proofs.Ytbdpdmojepiepaa
open Go.RowKit

end Go.Proofs.Ytbdpdmojepiepaa
