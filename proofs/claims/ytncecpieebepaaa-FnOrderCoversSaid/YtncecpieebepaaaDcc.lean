/-
  Functions of the program read as code on plain data. Closed facts of the program alone.
-/
import Derived.Test.YtncecpieebepaaaRows
import Derived.Test.YtncecpieebepaaaVLib
import Derived.KernelRfl
namespace Go.Proofs.Ytncecpieebepaaa
open Go.RowKit
noncomputable section
def r_slices_Collect___loop_example_queryoptimizer_impl_Value__0 : List GI := [⟨.mov 2 (.k .nul), some 2, none, false⟩]
def r_slices_Collect___loop_example_queryoptimizer_impl_Value__1 : List GI := [⟨.mov 3 (.t 0), some 3, none, false⟩, ⟨.call 4 71 [.k .nul, .t 3], some 4, none, true⟩, ⟨.mov 2 (.t 4), some 2, none, false⟩]
def dc_slices_Collect___loop_example_queryoptimizer_impl_Value_ : DC := .seq (.reg r_slices_Collect___loop_example_queryoptimizer_impl_Value__0 none) (.seq (.reg r_slices_Collect___loop_example_queryoptimizer_impl_Value__1 none) .ret)
theorem c_slices_Collect___loop_example_queryoptimizer_impl_Value_ : cfun Try.prog [] 56 = some (5, dc_slices_Collect___loop_example_queryoptimizer_impl_Value_, [(Res.tmp 2)]) := by kernel_rfl
end
end Go.Proofs.Ytncecpieebepaaa
