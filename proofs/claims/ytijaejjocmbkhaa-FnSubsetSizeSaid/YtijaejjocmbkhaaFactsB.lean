/-
  A closed fact of the program alone.
-/
import Derived.Test.YtijaejjocmbkhaaRows
import Derived.JoinedOf
import Derived.KernelRfl
namespace Go.Proofs.Ytijaejjocmbkhaa.Facts
open Go
theorem p24b : (false == Try.prog.liftsFinal) = true := by kernel_rfl
end Go.Proofs.Ytijaejjocmbkhaa.Facts
