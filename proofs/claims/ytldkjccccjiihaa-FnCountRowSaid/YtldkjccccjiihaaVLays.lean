/-
  The library's sort of rows lies at this program: its closure's bodies and types. Closed facts of the program alone.
-/
import Derived.Shelf.SlLaysF
import Derived.Shelf.SlGeneric
import Derived.Test.YtldkjccccjiihaaVLib
import Derived.KernelRfl
namespace Go.Proofs.Ytldkjccccjiihaa
open Go.Shelf
end Go.Proofs.Ytldkjccccjiihaa
