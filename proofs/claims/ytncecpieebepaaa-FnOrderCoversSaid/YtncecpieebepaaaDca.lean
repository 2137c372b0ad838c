/-
  Functions of the program read as code on plain data. Closed facts of the program alone.
-/
import Derived.Test.YtncecpieebepaaaRows
import Derived.Test.YtncecpieebepaaaVLib
import Derived.KernelRfl
namespace Go.Proofs.Ytncecpieebepaaa
open Go.RowKit
noncomputable section
theorem mixed : Try.prog.follows .mixedOrders = true := by kernel_rfl
def r_slices_Values_____loop_example_queryoptimizer_impl_Value___loop_example_queryoptimizer_impl_Value__1_0 : List GI := [⟨.lod 5 1 none, some 5, none, false⟩, ⟨.len 6 (.t 5), some 6, none, false⟩, ⟨.mov 7 (.k (.v (.int .i64 0))), some 7, none, false⟩]
def r_slices_Values_____loop_example_queryoptimizer_impl_Value___loop_example_queryoptimizer_impl_Value__1_1 : List GI := [⟨.bin 8 .lss (.t 7) (.t 6), some 8, none, false⟩]
def r_slices_Values_____loop_example_queryoptimizer_impl_Value___loop_example_queryoptimizer_impl_Value__1_2 : List GI := [⟨.iad 9 5 (.t 7) 1, some 9, none, false⟩, ⟨.lod 10 9 none, some 10, none, false⟩, ⟨.mov 4 (.t 10), some 4, none, false⟩]
def r_slices_Values_____loop_example_queryoptimizer_impl_Value___loop_example_queryoptimizer_impl_Value__1_3 : List GI := [⟨.mov 11 (.t 0), some 11, none, false⟩, ⟨.mov 12 (.t 4), some 12, none, false⟩, ⟨.cal 13 (.t 11) [.t 12], some 13, none, true⟩, ⟨.un 14 UnOp.not (.t 13), some 14, none, false⟩]
def r_slices_Values_____loop_example_queryoptimizer_impl_Value___loop_example_queryoptimizer_impl_Value__1_4 : List GI := [⟨.bin 15 .add (.t 7) (.k (.v (.int .i64 1))), some 15, none, false⟩, ⟨.mov 7 (.t 15), some 7, none, false⟩]
def dc_slices_Values_____loop_example_queryoptimizer_impl_Value___loop_example_queryoptimizer_impl_Value__1 : DC := .seq (.reg r_slices_Values_____loop_example_queryoptimizer_impl_Value___loop_example_queryoptimizer_impl_Value__1_0 none) (.block 0 (.loop (.seq (.reg r_slices_Values_____loop_example_queryoptimizer_impl_Value___loop_example_queryoptimizer_impl_Value__1_1 none) (.seq (.cond (.t 8) .skip (.exit 0)) (.seq (.block 1 (.seq (.reg r_slices_Values_____loop_example_queryoptimizer_impl_Value___loop_example_queryoptimizer_impl_Value__1_2 none) (.seq (.reg r_slices_Values_____loop_example_queryoptimizer_impl_Value___loop_example_queryoptimizer_impl_Value__1_3 none) (.cond (.t 14) .ret .skip)))) (.reg r_slices_Values_____loop_example_queryoptimizer_impl_Value___loop_example_queryoptimizer_impl_Value__1_4 none))))))
theorem c_slices_Values_____loop_example_queryoptimizer_impl_Value___loop_example_queryoptimizer_impl_Value__1 : cfun Try.prog [] 58 = some (16, dc_slices_Values_____loop_example_queryoptimizer_impl_Value___loop_example_queryoptimizer_impl_Value__1, []) := by kernel_rfl
end
end Go.Proofs.Ytncecpieebepaaa
