/-
  A closed fact of the program alone.
-/
import Derived.Test.YtmdijgcaffpgiaaRows
import Derived.JoinedOf
import Derived.KernelRfl
namespace Go.Proofs.Ytmdijgcaffpgiaa.Facts
open Go
theorem p24c : (Try.prog.make == some .cut) = true := by kernel_rfl
end Go.Proofs.Ytmdijgcaffpgiaa.Facts
