/-
  A closed fact of the program alone.
-/
import Derived.Test.YtclkehekhdfnnaaRows
import Derived.JoinedOf
import Derived.KernelRfl
namespace Go.Proofs.Ytclkehekhdfnnaa.Facts
open Go
theorem p24c : (Try.prog.make == some .cut) = true := by kernel_rfl
end Go.Proofs.Ytclkehekhdfnnaa.Facts
