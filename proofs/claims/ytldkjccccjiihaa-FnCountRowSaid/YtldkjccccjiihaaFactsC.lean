/-
  A closed fact of the program alone.
-/
import Derived.Test.YtldkjccccjiihaaRows
import Derived.JoinedOf
import Derived.KernelRfl
namespace Go.Proofs.Ytldkjccccjiihaa.Facts
open Go
theorem p24c : (Try.prog.make == some .cut) = true := by kernel_rfl
end Go.Proofs.Ytldkjccccjiihaa.Facts
