/-
  Functions of the program read as code on plain data. Closed facts of the program alone.
-/
import Derived.Test.YtenbhgkfbjfocaaRows
import Derived.Test.YtenbhgkfbjfocaaVLib
import Derived.KernelRfl
namespace Go.Proofs.Ytenbhgkfbjfocaa
open Go.RowKit
noncomputable section
theorem mixed : Try.prog.follows .mixedOrders = true := by kernel_rfl
end
end Go.Proofs.Ytenbhgkfbjfocaa
