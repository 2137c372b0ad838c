/-
  Functions of the program read as code on plain data. Closed facts of the program alone.
-/
import Derived.Test.YtedlojihiilonaaRows
import Derived.Test.YtedlojihiilonaaVLib
import Derived.KernelRfl
namespace Go.Proofs.Ytedlojihiilonaa
open Go.RowKit
noncomputable section
def r_impl_ValidTable_0 : List GI := [⟨.box 1 2000001 (.t 0) (some 2), some 1, none, false⟩, ⟨.mov 2 (.k (.v (.bool false))), some 2, none, false⟩]
def r_impl_ValidTable_1 : List GI := [⟨.fad 3 1 1, some 3, none, false⟩, ⟨.lod 4 3 none, some 4, none, false⟩, ⟨.fad 5 1 0, some 5, none, false⟩, ⟨.lod 6 5 none, some 6, none, false⟩, ⟨.call 7 46 [.t 4, .t 6], some 7, none, true⟩, ⟨.mov 8 (.t 7), some 8, none, false⟩, ⟨.fad 9 1 1, some 9, some (8, true), false⟩, ⟨.lod 10 9 none, some 10, some (8, true), false⟩, ⟨.call 11 47 [.t 10, .k (.fn 30 [])], some 11, some (8, true), true⟩, ⟨.pick 12 (.t 8) (.t 11) (.k (.v (.bool false))), some 12, none, false⟩, ⟨.mov 2 (.t 12), some 2, none, false⟩]
def dc_impl_ValidTable : DC := .seq (.reg r_impl_ValidTable_0 none) (.seq (.reg r_impl_ValidTable_1 none) .ret)
theorem c_impl_ValidTable : cfun Try.prog [] 23 = some (13, dc_impl_ValidTable, [(Res.tmp 2)]) := by kernel_rfl
def r_laws_FnExactValidTable_0 : List GI := [⟨.box 1 2000001 (.t 0) (some 2), some 1, none, false⟩, ⟨.mov 2 (.k (.v (.bool false))), some 2, none, false⟩]
def r_laws_FnExactValidTable_1 : List GI := [⟨.mov 3 (.k (.v (.int .i64 1048576))), some 3, none, false⟩]
def r_laws_FnExactValidTable_2 : List GI := [⟨.lod 7 1 (some 2), some 7, none, false⟩, ⟨.mov 8 (.t 3), some 8, none, false⟩, ⟨.call 9 20 [.t 7, .t 8], some 9, none, true⟩, ⟨.mov 3 (.t 9), some 3, none, false⟩]
def r_laws_FnExactValidTable_3 : List GI := [⟨.mov 10 (.t 3), some 10, none, false⟩, ⟨.bin 11 .lss (.t 10) (.k (.v (.int .i64 0))), some 11, none, false⟩]
def r_laws_FnExactValidTable_4 : List GI := [⟨.mov 2 (.k (.v (.bool true))), some 2, none, false⟩]
def r_laws_FnExactValidTable_5 : List GI := [⟨.lod 12 1 (some 2), some 12, none, false⟩, ⟨.call 13 22 [.t 12], some 13, none, true⟩, ⟨.call 14 21 [.t 13], some 14, none, true⟩, ⟨.mov 4 (.t 14), some 4, none, false⟩]
def r_laws_FnExactValidTable_6 : List GI := [⟨.lod 15 1 (some 2), some 15, none, false⟩, ⟨.call 16 22 [.t 15], some 16, none, true⟩, ⟨.alloc 5 2000005 [.v (.int .i64 0), .nul], some 5, none, false⟩, ⟨.sto 5 (.t 16) (some 2), none, none, false⟩]
def r_laws_FnExactValidTable_7 : List GI := [⟨.lod 17 5 (some 2), some 17, none, false⟩, ⟨.call 18 23 [.t 17], some 18, none, true⟩, ⟨.mov 6 (.t 18), some 6, none, false⟩]
def r_laws_FnExactValidTable_8 : List GI := [⟨.mov 19 (.t 6), some 19, none, false⟩, ⟨.mov 20 (.t 4), some 20, none, false⟩, ⟨.beq 21 true (.t 19) (.t 20), some 21, none, false⟩]
def r_laws_FnExactValidTable_9 : List GI := [⟨.mov 2 (.k (.v (.bool false))), some 2, none, false⟩]
def r_laws_FnExactValidTable_10 : List GI := [⟨.lod 22 5 (some 2), some 22, none, false⟩, ⟨.lod 23 1 (some 2), some 23, none, false⟩, ⟨.call 24 22 [.t 23], some 24, none, true⟩, ⟨.call 25 24 [.t 22, .t 24], some 25, none, true⟩, ⟨.un 26 UnOp.not (.t 25), some 26, none, false⟩]
def r_laws_FnExactValidTable_11 : List GI := [⟨.mov 2 (.k (.v (.bool false))), some 2, none, false⟩]
def r_laws_FnExactValidTable_12 : List GI := [⟨.mov 2 (.k (.v (.bool true))), some 2, none, false⟩]
def dc_laws_FnExactValidTable : DC := .seq (.reg r_laws_FnExactValidTable_0 none) (.seq (.reg r_laws_FnExactValidTable_1 none) (.seq (.reg r_laws_FnExactValidTable_2 none) (.seq (.seq (.reg r_laws_FnExactValidTable_3 none) (.cond (.t 11) (.seq (.reg r_laws_FnExactValidTable_4 none) .ret) .skip)) (.seq (.reg r_laws_FnExactValidTable_5 none) (.seq (.reg r_laws_FnExactValidTable_6 none) (.seq (.reg r_laws_FnExactValidTable_7 none) (.seq (.seq (.reg r_laws_FnExactValidTable_8 none) (.cond (.t 21) (.seq (.reg r_laws_FnExactValidTable_9 none) .ret) .skip)) (.seq (.seq (.reg r_laws_FnExactValidTable_10 (some [0, 0, 2, 7, 15])) (.cond (.t 26) (.seq (.reg r_laws_FnExactValidTable_11 none) .ret) .skip)) (.seq (.reg r_laws_FnExactValidTable_12 none) .ret)))))))))
theorem c_laws_FnExactValidTable : cfun Try.prog [] 6 = some (27, dc_laws_FnExactValidTable, [(Res.tmp 2)]) := by kernel_rfl
def r_slices_IsSortedFunc_____loop_example_queryoptimizer_impl_Value___loop_example_queryoptimizer_impl_Value__0 : List GI := [⟨.mov 4 (.k (.v (.bool false))), some 4, none, false⟩]
def r_slices_IsSortedFunc_____loop_example_queryoptimizer_impl_Value___loop_example_queryoptimizer_impl_Value__1 : List GI := [⟨.mov 6 (.t 0), some 6, none, false⟩, ⟨.len 7 (.t 6), some 7, none, false⟩, ⟨.bin 8 .sub (.t 7) (.k (.v (.int .i64 1))), some 8, none, false⟩, ⟨.mov 5 (.t 8), some 5, none, false⟩]
def r_slices_IsSortedFunc_____loop_example_queryoptimizer_impl_Value___loop_example_queryoptimizer_impl_Value__2 : List GI := [⟨.mov 9 (.t 5), some 9, none, false⟩, ⟨.bin 10 .gtr (.t 9) (.k (.v (.int .i64 0))), some 10, none, false⟩]
def r_slices_IsSortedFunc_____loop_example_queryoptimizer_impl_Value___loop_example_queryoptimizer_impl_Value__3 : List GI := [⟨.mov 13 (.t 1), some 13, none, false⟩, ⟨.mov 14 (.t 0), some 14, none, false⟩, ⟨.mov 15 (.t 5), some 15, none, false⟩, ⟨.iad 16 14 (.t 15) 1, some 16, none, false⟩, ⟨.lod 17 16 none, some 17, none, false⟩, ⟨.mov 18 (.t 0), some 18, none, false⟩, ⟨.mov 19 (.t 5), some 19, none, false⟩, ⟨.bin 20 .sub (.t 19) (.k (.v (.int .i64 1))), some 20, none, false⟩, ⟨.iad 21 18 (.t 20) 1, some 21, none, false⟩, ⟨.lod 22 21 none, some 22, none, false⟩, ⟨.cal 23 (.t 13) [.t 17, .t 22], some 23, none, true⟩, ⟨.bin 24 .lss (.t 23) (.k (.v (.int .i64 0))), some 24, none, false⟩]
def r_slices_IsSortedFunc_____loop_example_queryoptimizer_impl_Value___loop_example_queryoptimizer_impl_Value__4 : List GI := [⟨.mov 4 (.k (.v (.bool false))), some 4, none, false⟩]
def r_slices_IsSortedFunc_____loop_example_queryoptimizer_impl_Value___loop_example_queryoptimizer_impl_Value__5 : List GI := [⟨.mov 11 (.t 5), some 11, none, false⟩, ⟨.bin 12 .sub (.t 11) (.k (.v (.int .i64 1))), some 12, none, false⟩, ⟨.mov 5 (.t 12), some 5, none, false⟩]
def r_slices_IsSortedFunc_____loop_example_queryoptimizer_impl_Value___loop_example_queryoptimizer_impl_Value__6 : List GI := [⟨.mov 4 (.k (.v (.bool true))), some 4, none, false⟩]
def dc_slices_IsSortedFunc_____loop_example_queryoptimizer_impl_Value___loop_example_queryoptimizer_impl_Value_ : DC := .seq (.reg r_slices_IsSortedFunc_____loop_example_queryoptimizer_impl_Value___loop_example_queryoptimizer_impl_Value__0 none) (.seq (.seq (.reg r_slices_IsSortedFunc_____loop_example_queryoptimizer_impl_Value___loop_example_queryoptimizer_impl_Value__1 none) (.block 0 (.loop (.seq (.seq (.reg r_slices_IsSortedFunc_____loop_example_queryoptimizer_impl_Value___loop_example_queryoptimizer_impl_Value__2 none) (.cond (.t 10) .skip (.exit 0))) (.seq (.block 1 (.seq (.reg r_slices_IsSortedFunc_____loop_example_queryoptimizer_impl_Value___loop_example_queryoptimizer_impl_Value__3 (some [0, 0, 0, 6, 14, 0, 0, 64, 224, 480, 1023, 2047])) (.cond (.t 24) (.seq (.reg r_slices_IsSortedFunc_____loop_example_queryoptimizer_impl_Value___loop_example_queryoptimizer_impl_Value__4 none) .ret) .skip))) (.reg r_slices_IsSortedFunc_____loop_example_queryoptimizer_impl_Value___loop_example_queryoptimizer_impl_Value__5 none)))))) (.seq (.reg r_slices_IsSortedFunc_____loop_example_queryoptimizer_impl_Value___loop_example_queryoptimizer_impl_Value__6 none) .ret))
theorem c_slices_IsSortedFunc_____loop_example_queryoptimizer_impl_Value___loop_example_queryoptimizer_impl_Value_ : cfun Try.prog [] 47 = some (25, dc_slices_IsSortedFunc_____loop_example_queryoptimizer_impl_Value___loop_example_queryoptimizer_impl_Value_, [(Res.tmp 4)]) := by kernel_rfl
end
end Go.Proofs.Ytedlojihiilonaa
