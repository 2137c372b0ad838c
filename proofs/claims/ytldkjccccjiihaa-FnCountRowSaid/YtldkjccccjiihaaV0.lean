/-
  Small functions of the expression seat do what they say.
-/
import Derived.Test.YtldkjccccjiihaaVLib
import Derived.Test.YtldkjccccjiihaaVSem
namespace Go.Proofs.Ytldkjccccjiihaa
open Go.RowKit

end Go.Proofs.Ytldkjccccjiihaa
