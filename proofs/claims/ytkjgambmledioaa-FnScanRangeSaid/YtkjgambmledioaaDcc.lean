/-
  Functions of the program read as code on plain data. Closed facts of the program alone.
-/
import Derived.Test.YtkjgambmledioaaRows
import Derived.Test.YtkjgambmledioaaVLib
import Derived.KernelRfl
namespace Go.Proofs.Ytkjgambmledioaa
open Go.RowKit
noncomputable section
def r_impl_TableOf_0 : List GI := [⟨.alloc 4 2000004 [.v (.int .i64 0), .nul], some 4, none, false⟩, ⟨.mov 5 (.k (.v (.bool false))), some 5, none, false⟩]
def r_impl_TableOf_1 : List GI := [⟨.mov 6 (.t 1), some 6, none, false⟩, ⟨.mov 7 (.t 0), some 7, none, false⟩, ⟨.call 8 45 [.t 6, .t 7], some 8, none, true⟩, ⟨.un 9 UnOp.not (.t 8), some 9, none, false⟩]
def r_impl_TableOf_2 : List GI := [⟨.build 10 [.v (.int .i64 0), .nul] [], some 10, none, false⟩, ⟨.sto 4 (.t 10) (some 2), none, none, false⟩, ⟨.mov 5 (.k (.v (.bool false))), some 5, none, false⟩]
def r_impl_TableOf_3 : List GI := [⟨.mov 11 (.t 0), some 11, none, false⟩, ⟨.mov 12 (.t 1), some 12, none, false⟩, ⟨.call 13 47 [.t 12], some 13, none, true⟩, ⟨.call 14 46 [.t 11, .t 13], some 14, none, true⟩, ⟨.sto 4 (.t 14) (some 2), none, none, false⟩, ⟨.mov 5 (.k (.v (.bool true))), some 5, none, false⟩]
def dc_impl_TableOf : DC := .seq (.reg r_impl_TableOf_0 none) (.seq (.seq (.reg r_impl_TableOf_1 none) (.cond (.t 9) (.seq (.reg r_impl_TableOf_2 none) .ret) .skip)) (.seq (.reg r_impl_TableOf_3 none) .ret))
theorem c_impl_TableOf : cfun Try.prog [] 14 = some (15, dc_impl_TableOf, [(Res.cell 4 (some 2)), (Res.tmp 5)]) := by kernel_rfl
def r_impl_cloneRows_0 : List GI := [⟨.mov 2 (.k .nul), some 2, none, false⟩]
def r_impl_cloneRows_1 : List GI := [⟨.mov 3 (.k .nul), some 3, none, false⟩]
def r_impl_cloneRows_2 : List GI := [⟨.mov 6 (.t 0), some 6, none, false⟩, ⟨.len 7 (.t 6), some 7, none, false⟩, ⟨.mov 8 (.k (.v (.int .i64 0))), some 8, none, false⟩]
def r_impl_cloneRows_3 : List GI := [⟨.bin 9 .lss (.t 8) (.t 7), some 9, none, false⟩]
def r_impl_cloneRows_4 : List GI := [⟨.iad 10 6 (.t 8) 1, some 10, none, false⟩, ⟨.lod 11 10 none, some 11, none, false⟩, ⟨.mov 5 (.t 11), some 5, none, false⟩]
def r_impl_cloneRows_5 : List GI := [⟨.mov 12 (.t 3), some 12, none, false⟩, ⟨.mov 13 (.t 5), some 13, none, false⟩, ⟨.call 14 76 [.t 13], some 14, none, true⟩, ⟨.bsl 15 1 none [.nul] [(0, .t 14)], some 15, none, false⟩, ⟨.app 16 2000016 (.t 12) (.t 15) 1 24, some 16, none, false⟩, ⟨.mov 3 (.t 16), some 3, none, false⟩]
def r_impl_cloneRows_6 : List GI := [⟨.bin 17 .add (.t 8) (.k (.v (.int .i64 1))), some 17, none, false⟩, ⟨.mov 8 (.t 17), some 8, none, false⟩]
def r_impl_cloneRows_7 : List GI := [⟨.mov 18 (.t 3), some 18, none, false⟩, ⟨.mov 2 (.t 18), some 2, none, false⟩]
def dc_impl_cloneRows : DC := .seq (.reg r_impl_cloneRows_0 none) (.seq (.reg r_impl_cloneRows_1 none) (.seq (.seq (.reg r_impl_cloneRows_2 none) (.block 0 (.loop (.seq (.reg r_impl_cloneRows_3 none) (.seq (.cond (.t 9) .skip (.exit 0)) (.seq (.block 1 (.seq (.reg r_impl_cloneRows_4 none) (.reg r_impl_cloneRows_5 none))) (.reg r_impl_cloneRows_6 none))))))) (.seq (.reg r_impl_cloneRows_7 none) .ret)))
theorem c_impl_cloneRows : cfun Try.prog [] 47 = some (19, dc_impl_cloneRows, [(Res.tmp 2)]) := by kernel_rfl
def r_impl_sortedTable_0 : List GI := [⟨.alloc 4 2000004 [.v (.int .i64 0), .nul], some 4, none, false⟩]
def r_impl_sortedTable_1 : List GI := [⟨.mov 5 (.t 1), some 5, none, false⟩, ⟨.call 6 75 [.t 5, .k (.fn 53 [])], some 6, none, true⟩]
def r_impl_sortedTable_2 : List GI := [⟨.mov 7 (.t 0), some 7, none, false⟩, ⟨.mov 8 (.t 1), some 8, none, false⟩, ⟨.build 9 [.v (.int .i64 0), .nul] [(0, (none, .t 7)), (1, (none, .t 8))], some 9, none, false⟩, ⟨.sto 4 (.t 9) (some 2), none, none, false⟩]
def dc_impl_sortedTable : DC := .seq (.reg r_impl_sortedTable_0 none) (.seq (.reg r_impl_sortedTable_1 none) (.seq (.reg r_impl_sortedTable_2 none) .ret))
theorem c_impl_sortedTable : cfun Try.prog [] 46 = some (10, dc_impl_sortedTable, [(Res.cell 4 (some 2))]) := by kernel_rfl
def r_slices_Clone___loop_example_queryoptimizer_impl_Value_loop_example_queryoptimizer_impl_Value__0 : List GI := [⟨.mov 2 (.k .nul), some 2, none, false⟩]
def r_slices_Clone___loop_example_queryoptimizer_impl_Value_loop_example_queryoptimizer_impl_Value__1 : List GI := [⟨.mov 3 (.t 0), some 3, none, false⟩, ⟨.isn 4 false (.t 3), some 4, none, false⟩]
def r_slices_Clone___loop_example_queryoptimizer_impl_Value_loop_example_queryoptimizer_impl_Value__2 : List GI := [⟨.mov 2 (.k .nul), some 2, none, false⟩]
def r_slices_Clone___loop_example_queryoptimizer_impl_Value_loop_example_queryoptimizer_impl_Value__3 : List GI := [⟨.mov 5 (.k .nul), some 5, none, false⟩, ⟨.mov 6 (.t 0), some 6, none, false⟩, ⟨.app 7 2000007 (.t 5) (.t 6) 2 16, some 7, none, false⟩, ⟨.mov 2 (.t 7), some 2, none, false⟩]
def dc_slices_Clone___loop_example_queryoptimizer_impl_Value_loop_example_queryoptimizer_impl_Value_ : DC := .seq (.reg r_slices_Clone___loop_example_queryoptimizer_impl_Value_loop_example_queryoptimizer_impl_Value__0 none) (.seq (.seq (.reg r_slices_Clone___loop_example_queryoptimizer_impl_Value_loop_example_queryoptimizer_impl_Value__1 none) (.cond (.t 4) (.seq (.reg r_slices_Clone___loop_example_queryoptimizer_impl_Value_loop_example_queryoptimizer_impl_Value__2 none) .ret) .skip)) (.seq (.reg r_slices_Clone___loop_example_queryoptimizer_impl_Value_loop_example_queryoptimizer_impl_Value__3 none) .ret))
theorem c_slices_Clone___loop_example_queryoptimizer_impl_Value_loop_example_queryoptimizer_impl_Value_ : cfun Try.prog [] 76 = some (8, dc_slices_Clone___loop_example_queryoptimizer_impl_Value_loop_example_queryoptimizer_impl_Value_, [(Res.tmp 2)]) := by kernel_rfl
end
end Go.Proofs.Ytkjgambmledioaa
