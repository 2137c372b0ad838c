/-
  Functions of the program read as code on plain data. Closed facts of the program alone.
-/
import Derived.Test.YtiiodbjiacicbaaRows
import Derived.Test.YtiiodbjiacicbaaVLib
import Derived.KernelRfl
namespace Go.Proofs.Ytiiodbjiacicbaa
open Go.RowKit
noncomputable section
end
end Go.Proofs.Ytiiodbjiacicbaa
