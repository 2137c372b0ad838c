/-
  The library's sort of rows lies at this program: its closure's bodies and types. Closed facts of the program alone.
-/
import Derived.Shelf.SlLaysF
import Derived.Shelf.SlGeneric
import Derived.Test.YtjjcokmnebkbiaaVLib
import Derived.KernelRfl
namespace Go.Proofs.Ytjjcokmnebkbiaa
open Go.Shelf
end Go.Proofs.Ytjjcokmnebkbiaa
