/-
  Small functions of the expression seat do what they say.
-/
import Derived.Test.YtedmegmhjmabcaaVLib
import Derived.Test.YtedmegmhjmabcaaVSem
namespace Go.Proofs.Ytedmegmhjmabcaa
open Go.RowKit

end Go.Proofs.Ytedmegmhjmabcaa
