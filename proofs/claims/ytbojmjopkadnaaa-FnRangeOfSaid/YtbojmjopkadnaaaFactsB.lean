/-
  A closed fact of the program alone.
-/
import Derived.Test.YtbojmjopkadnaaaRows
import Derived.JoinedOf
import Derived.KernelRfl
namespace Go.Proofs.Ytbojmjopkadnaaa.Facts
open Go
theorem p24b : (false == Try.prog.liftsFinal) = true := by kernel_rfl
end Go.Proofs.Ytbojmjopkadnaaa.Facts
