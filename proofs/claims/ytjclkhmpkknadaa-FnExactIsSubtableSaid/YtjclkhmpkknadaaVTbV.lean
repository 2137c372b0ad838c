/-
  Valid rows, in both packages (for a seat without expressions); the order of values. No condition.
-/
import Derived.Test.YtjclkhmpkknadaaVVa
import Derived.Test.YtjclkhmpkknadaaVSem
import Derived.Test.YtjclkhmpkknadaaVLib
set_option maxHeartbeats 4000000
set_option maxRecDepth 100000
namespace Go.Proofs.Ytjclkhmpkknadaa
open Go.RowKit

end Go.Proofs.Ytjclkhmpkknadaa
