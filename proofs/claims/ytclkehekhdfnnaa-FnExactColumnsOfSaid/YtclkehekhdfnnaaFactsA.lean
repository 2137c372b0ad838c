/-
  A closed fact of the program alone.
-/
import Derived.Test.YtclkehekhdfnnaaRows
import Derived.JoinedOf
import Derived.KernelRfl
namespace Go.Proofs.Ytclkehekhdfnnaa.Facts
open Go
theorem p24 : Try.prog.mayEnter = true := by kernel_rfl
end Go.Proofs.Ytclkehekhdfnnaa.Facts
