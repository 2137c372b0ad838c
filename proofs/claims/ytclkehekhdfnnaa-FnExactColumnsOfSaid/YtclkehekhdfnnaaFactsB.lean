/-
  A closed fact of the program alone.
-/
import Derived.Test.YtclkehekhdfnnaaRows
import Derived.JoinedOf
import Derived.KernelRfl
namespace Go.Proofs.Ytclkehekhdfnnaa.Facts
open Go
theorem p24b : (false == Try.prog.liftsFinal) = true := by kernel_rfl
end Go.Proofs.Ytclkehekhdfnnaa.Facts
