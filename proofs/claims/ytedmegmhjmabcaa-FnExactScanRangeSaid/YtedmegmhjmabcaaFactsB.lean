/-
  A closed fact of the program alone.
-/
import Derived.Test.YtedmegmhjmabcaaRows
import Derived.JoinedOf
import Derived.KernelRfl
namespace Go.Proofs.Ytedmegmhjmabcaa.Facts
open Go
theorem p24b : (false == Try.prog.liftsFinal) = true := by kernel_rfl
end Go.Proofs.Ytedmegmhjmabcaa.Facts
