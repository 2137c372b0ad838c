/-
  Valid rows, in both packages (for a seat without expressions); the order of values. No condition.
-/
import Derived.Test.YtabcmmhmpfplpaaVVa
import Derived.Test.YtabcmmhmpfplpaaVSem
import Derived.Test.YtabcmmhmpfplpaaVLib
set_option maxHeartbeats 4000000
set_option maxRecDepth 100000
namespace Go.Proofs.Ytabcmmhmpfplpaa
open Go.RowKit

end Go.Proofs.Ytabcmmhmpfplpaa
