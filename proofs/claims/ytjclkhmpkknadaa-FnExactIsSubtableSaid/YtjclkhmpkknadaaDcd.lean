/-
  Functions of the program read as code on plain data. Closed facts of the program alone.
-/
import Derived.Test.YtjclkhmpkknadaaRows
import Derived.Test.YtjclkhmpkknadaaVLib
import Derived.KernelRfl
namespace Go.Proofs.Ytjclkhmpkknadaa
open Go.RowKit
noncomputable section
def r_impl_matchedRuns___loop_example_queryoptimizer_impl_Value__0 : List GI := [⟨.box 3 2000003 (.t 0) none, some 3, none, false⟩, ⟨.box 4 2000004 (.t 1) none, some 4, none, false⟩, ⟨.box 5 2000005 (.t 2) none, some 5, none, false⟩, ⟨.mov 6 (.k (.v .nilFunc)), some 6, none, false⟩]
def r_impl_matchedRuns___loop_example_queryoptimizer_impl_Value__1 : List GI := [⟨.mkf 7 62 [.t 4, .t 5, .t 3], some 7, none, false⟩, ⟨.mov 6 (.t 7), some 6, none, false⟩]
def dc_impl_matchedRuns___loop_example_queryoptimizer_impl_Value_ : DC := .seq (.reg r_impl_matchedRuns___loop_example_queryoptimizer_impl_Value__0 none) (.seq (.reg r_impl_matchedRuns___loop_example_queryoptimizer_impl_Value__1 none) .ret)
theorem c_impl_matchedRuns___loop_example_queryoptimizer_impl_Value_ : cfun Try.prog [] 34 = some (8, dc_impl_matchedRuns___loop_example_queryoptimizer_impl_Value_, [(Res.tmp 6)]) := by kernel_rfl
end
end Go.Proofs.Ytjclkhmpkknadaa
