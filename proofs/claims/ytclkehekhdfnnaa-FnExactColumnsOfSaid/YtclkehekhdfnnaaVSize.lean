/-
  The sizes of expressions, in both packages. No condition.
-/
import Derived.Test.YtclkehekhdfnnaaVEsz
import Derived.Test.YtclkehekhdfnnaaV0
import Derived.Test.YtclkehekhdfnnaaVVal
import Derived.Test.YtclkehekhdfnnaaVVa
import Derived.Test.YtclkehekhdfnnaaVEvI
import Derived.Test.YtclkehekhdfnnaaVLib
set_option maxHeartbeats 4000000
set_option maxRecDepth 100000
namespace Go.Proofs.Ytclkehekhdfnnaa
open Go.RowKit

/-- What both packages answer. -/
noncomputable def sizeV (e : E) : Nat := if eOk e 6 8 then esz e else 0
theorem sizeV_t {e : E} (h : eOk e 6 8) : sizeV e = esz e := if_pos h
theorem sizeV_f {e : E} (h : ¬ eOk e 6 8) : sizeV e = 0 := if_neg h
end Go.Proofs.Ytclkehekhdfnnaa
