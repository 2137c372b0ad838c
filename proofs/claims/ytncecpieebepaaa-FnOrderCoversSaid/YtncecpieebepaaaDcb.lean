/-
  Functions of the program read as code on plain data. Closed facts of the program alone.
-/
import Derived.Test.YtncecpieebepaaaRows
import Derived.Test.YtncecpieebepaaaVLib
import Derived.KernelRfl
namespace Go.Proofs.Ytncecpieebepaaa
open Go.RowKit
noncomputable section
def r_slices_AppendSeq_____loop_example_queryoptimizer_impl_Value___loop_example_queryoptimizer_impl_Value__0 : List GI := [⟨.box 2 2000002 (.t 0) none, some 2, none, false⟩, ⟨.mov 4 (.k .nul), some 4, none, false⟩]
def r_slices_AppendSeq_____loop_example_queryoptimizer_impl_Value___loop_example_queryoptimizer_impl_Value__1 : List GI := [⟨.mov 6 (.t 1), some 6, none, false⟩]
def r_slices_AppendSeq_____loop_example_queryoptimizer_impl_Value___loop_example_queryoptimizer_impl_Value__2 : List GI := [⟨.mov 5 (.t 7), some 5, none, false⟩]
def r_slices_AppendSeq_____loop_example_queryoptimizer_impl_Value___loop_example_queryoptimizer_impl_Value__3 : List GI := [⟨.lod 8 2 none, some 8, none, false⟩, ⟨.mov 9 (.t 5), some 9, none, false⟩, ⟨.bsl 10 1 none [.nul] [(0, .t 9)], some 10, none, false⟩, ⟨.app 11 2000011 (.t 8) (.t 10) 1 24, some 11, none, false⟩, ⟨.sto 2 (.t 11) none, none, none, false⟩]
def r_slices_AppendSeq_____loop_example_queryoptimizer_impl_Value___loop_example_queryoptimizer_impl_Value__4 : List GI := [⟨.lod 12 2 none, some 12, none, false⟩, ⟨.mov 4 (.t 12), some 4, none, false⟩]
def dc_slices_AppendSeq_____loop_example_queryoptimizer_impl_Value___loop_example_queryoptimizer_impl_Value_ : DC := .seq (.reg r_slices_AppendSeq_____loop_example_queryoptimizer_impl_Value___loop_example_queryoptimizer_impl_Value__0 none) (.seq (.seq (.reg r_slices_AppendSeq_____loop_example_queryoptimizer_impl_Value___loop_example_queryoptimizer_impl_Value__1 none) (.block 0 (.rng (.t 6) [7] (.reg r_slices_AppendSeq_____loop_example_queryoptimizer_impl_Value___loop_example_queryoptimizer_impl_Value__2 none) (.block 1 (.reg r_slices_AppendSeq_____loop_example_queryoptimizer_impl_Value___loop_example_queryoptimizer_impl_Value__3 none))))) (.seq (.reg r_slices_AppendSeq_____loop_example_queryoptimizer_impl_Value___loop_example_queryoptimizer_impl_Value__4 none) .ret))
theorem c_slices_AppendSeq_____loop_example_queryoptimizer_impl_Value___loop_example_queryoptimizer_impl_Value_ : cfun Try.prog [] 71 = some (13, dc_slices_AppendSeq_____loop_example_queryoptimizer_impl_Value___loop_example_queryoptimizer_impl_Value_, [(Res.tmp 4)]) := by kernel_rfl
def r_slices_Values_____loop_example_queryoptimizer_impl_Value___loop_example_queryoptimizer_impl_Value__0 : List GI := [⟨.box 1 2000001 (.t 0) none, some 1, none, false⟩, ⟨.mov 2 (.k (.v .nilFunc)), some 2, none, false⟩]
def r_slices_Values_____loop_example_queryoptimizer_impl_Value___loop_example_queryoptimizer_impl_Value__1 : List GI := [⟨.mkf 3 58 [.t 1], some 3, none, false⟩, ⟨.mov 2 (.t 3), some 2, none, false⟩]
def dc_slices_Values_____loop_example_queryoptimizer_impl_Value___loop_example_queryoptimizer_impl_Value_ : DC := .seq (.reg r_slices_Values_____loop_example_queryoptimizer_impl_Value___loop_example_queryoptimizer_impl_Value__0 none) (.seq (.reg r_slices_Values_____loop_example_queryoptimizer_impl_Value___loop_example_queryoptimizer_impl_Value__1 none) .ret)
theorem c_slices_Values_____loop_example_queryoptimizer_impl_Value___loop_example_queryoptimizer_impl_Value_ : cfun Try.prog [] 37 = some (4, dc_slices_Values_____loop_example_queryoptimizer_impl_Value___loop_example_queryoptimizer_impl_Value_, [(Res.tmp 2)]) := by kernel_rfl
end
end Go.Proofs.Ytncecpieebepaaa
