/-
  Functions of the program read as code on plain data. Closed facts of the program alone.
-/
import Derived.Test.YtcnijpepnjenjaaRows
import Derived.Test.YtcnijpepnjenjaaVLib
import Derived.KernelRfl
namespace Go.Proofs.Ytcnijpepnjenjaa
open Go.RowKit
noncomputable section
theorem mixed : Try.prog.follows .mixedOrders = true := by kernel_rfl
end
end Go.Proofs.Ytcnijpepnjenjaa
