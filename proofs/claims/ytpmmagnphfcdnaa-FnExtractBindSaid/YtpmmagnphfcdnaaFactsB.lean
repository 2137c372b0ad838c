/-
  A closed fact of the program alone.
-/
import Derived.Test.YtpmmagnphfcdnaaRows
import Derived.JoinedOf
import Derived.KernelRfl
namespace Go.Proofs.Ytpmmagnphfcdnaa.Facts
open Go
theorem p24b : (false == Try.prog.liftsFinal) = true := by kernel_rfl
end Go.Proofs.Ytpmmagnphfcdnaa.Facts
