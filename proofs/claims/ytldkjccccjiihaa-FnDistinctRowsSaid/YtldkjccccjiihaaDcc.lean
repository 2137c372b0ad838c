/-
  Functions of the program read as code on plain data. Closed facts of the program alone.
-/
import Derived.Test.YtldkjccccjiihaaRows
import Derived.Test.YtldkjccccjiihaaVLib
import Derived.KernelRfl
namespace Go.Proofs.Ytldkjccccjiihaa
open Go.RowKit
noncomputable section
def r_impl_searchFirst___loop_example_queryoptimizer_impl_Value__0 : List GI := [⟨.mov 4 (.k (.v (.int .i64 0))), some 4, none, false⟩]
def r_impl_searchFirst___loop_example_queryoptimizer_impl_Value__1 : List GI := [⟨.mov 8 (.t 0), some 8, none, false⟩, ⟨.len 9 (.t 8), some 9, none, false⟩, ⟨.mov 5 (.k (.v (.int .i64 0))), some 5, none, false⟩, ⟨.mov 6 (.t 9), some 6, none, false⟩]
def r_impl_searchFirst___loop_example_queryoptimizer_impl_Value__2 : List GI := [⟨.mov 10 (.t 5), some 10, none, false⟩, ⟨.mov 11 (.t 6), some 11, none, false⟩, ⟨.bin 12 .lss (.t 10) (.t 11), some 12, none, false⟩]
def r_impl_searchFirst___loop_example_queryoptimizer_impl_Value__3 : List GI := [⟨.mov 13 (.t 5), some 13, none, false⟩, ⟨.mov 14 (.t 6), some 14, none, false⟩, ⟨.bin 15 .add (.t 13) (.t 14), some 15, none, false⟩, ⟨.bin 16 .quo (.t 15) (.k (.v (.int .i64 2))), some 16, none, false⟩, ⟨.mov 7 (.t 16), some 7, none, false⟩]
def r_impl_searchFirst___loop_example_queryoptimizer_impl_Value__4 : List GI := [⟨.mov 17 (.t 1), some 17, none, false⟩, ⟨.mov 18 (.t 0), some 18, none, false⟩, ⟨.mov 19 (.t 7), some 19, none, false⟩, ⟨.iad 20 18 (.t 19) 1, some 20, none, false⟩, ⟨.lod 21 20 none, some 21, none, false⟩, ⟨.cal 22 (.t 17) [.t 21], some 22, none, true⟩]
def r_impl_searchFirst___loop_example_queryoptimizer_impl_Value__5 : List GI := [⟨.mov 23 (.t 7), some 23, none, false⟩, ⟨.mov 6 (.t 23), some 6, none, false⟩]
def r_impl_searchFirst___loop_example_queryoptimizer_impl_Value__6 : List GI := [⟨.mov 24 (.t 7), some 24, none, false⟩, ⟨.bin 25 .add (.t 24) (.k (.v (.int .i64 1))), some 25, none, false⟩, ⟨.mov 5 (.t 25), some 5, none, false⟩]
def r_impl_searchFirst___loop_example_queryoptimizer_impl_Value__7 : List GI := [⟨.mov 26 (.t 5), some 26, none, false⟩, ⟨.mov 4 (.t 26), some 4, none, false⟩]
def dc_impl_searchFirst___loop_example_queryoptimizer_impl_Value_ : DC := .seq (.reg r_impl_searchFirst___loop_example_queryoptimizer_impl_Value__0 none) (.seq (.reg r_impl_searchFirst___loop_example_queryoptimizer_impl_Value__1 none) (.seq (.block 0 (.loop (.seq (.seq (.reg r_impl_searchFirst___loop_example_queryoptimizer_impl_Value__2 none) (.cond (.t 12) .skip (.exit 0))) (.block 1 (.seq (.reg r_impl_searchFirst___loop_example_queryoptimizer_impl_Value__3 none) (.seq (.reg r_impl_searchFirst___loop_example_queryoptimizer_impl_Value__4 none) (.cond (.t 22) (.reg r_impl_searchFirst___loop_example_queryoptimizer_impl_Value__5 none) (.reg r_impl_searchFirst___loop_example_queryoptimizer_impl_Value__6 none)))))))) (.seq (.reg r_impl_searchFirst___loop_example_queryoptimizer_impl_Value__7 none) .ret)))
theorem c_impl_searchFirst___loop_example_queryoptimizer_impl_Value_ : cfun Try.prog [] 38 = some (27, dc_impl_searchFirst___loop_example_queryoptimizer_impl_Value_, [(Res.tmp 4)]) := by kernel_rfl
def r_spec_CountRow_0 : List GI := [⟨.box 2 2000002 (.t 0) (some 2), some 2, none, false⟩, ⟨.mov 4 (.k (.v (.int .i64 0))), some 4, none, false⟩]
def r_spec_CountRow_1 : List GI := [⟨.lod 5 2 (some 2), some 5, none, false⟩, ⟨.call 6 22 [.t 5], some 6, none, true⟩, ⟨.un 7 UnOp.not (.t 6), some 7, none, false⟩]
def r_spec_CountRow_2 : List GI := [⟨.mov 4 (.k (.v (.int .i64 (-1)))), some 4, none, false⟩]
def r_spec_CountRow_3 : List GI := [⟨.fad 8 2 1, some 8, none, false⟩, ⟨.lod 9 8 none, some 9, none, false⟩, ⟨.mov 10 (.t 1), some 10, none, false⟩, ⟨.call 11 23 [.t 9, .t 10], some 11, none, true⟩, ⟨.mov 4 (.t 11), some 4, none, false⟩]
def dc_spec_CountRow : DC := .seq (.reg r_spec_CountRow_0 none) (.seq (.seq (.reg r_spec_CountRow_1 none) (.cond (.t 7) (.seq (.reg r_spec_CountRow_2 none) .ret) .skip)) (.seq (.reg r_spec_CountRow_3 none) .ret))
theorem c_spec_CountRow : cfun Try.prog [] 7 = some (12, dc_spec_CountRow, [(Res.tmp 4)]) := by kernel_rfl
def r_spec_countRow_0 : List GI := [⟨.mov 4 (.k (.v (.int .i64 0))), some 4, none, false⟩]
def r_spec_countRow_1 : List GI := [⟨.mov 5 (.k (.v (.int .i64 0))), some 5, none, false⟩]
def r_spec_countRow_2 : List GI := [⟨.mov 6 (.k (.v (.int .i64 0))), some 6, none, false⟩]
def r_spec_countRow_3 : List GI := [⟨.mov 7 (.t 6), some 7, none, false⟩, ⟨.mov 8 (.t 0), some 8, none, false⟩, ⟨.len 9 (.t 8), some 9, none, false⟩, ⟨.bin 10 .lss (.t 7) (.t 9), some 10, none, false⟩]
def r_spec_countRow_4 : List GI := [⟨.mov 13 (.t 0), some 13, none, false⟩, ⟨.mov 14 (.t 6), some 14, none, false⟩, ⟨.iad 15 13 (.t 14) 1, some 15, none, false⟩, ⟨.lod 16 15 none, some 16, none, false⟩, ⟨.mov 17 (.t 1), some 17, none, false⟩, ⟨.call 18 42 [.t 16, .t 17], some 18, none, true⟩, ⟨.bin 19 .eql (.t 18) (.k (.v (.int .i64 0))), some 19, none, false⟩]
def r_spec_countRow_5 : List GI := [⟨.mov 20 (.t 5), some 20, none, false⟩, ⟨.bin 21 .add (.t 20) (.k (.v (.int .i64 1))), some 21, none, false⟩, ⟨.mov 5 (.t 21), some 5, none, false⟩]
def r_spec_countRow_6 : List GI := [⟨.mov 11 (.t 6), some 11, none, false⟩, ⟨.bin 12 .add (.t 11) (.k (.v (.int .i64 1))), some 12, none, false⟩, ⟨.mov 6 (.t 12), some 6, none, false⟩]
def r_spec_countRow_7 : List GI := [⟨.mov 22 (.t 5), some 22, none, false⟩, ⟨.mov 4 (.t 22), some 4, none, false⟩]
def dc_spec_countRow : DC := .seq (.reg r_spec_countRow_0 none) (.seq (.reg r_spec_countRow_1 none) (.seq (.seq (.reg r_spec_countRow_2 none) (.block 0 (.loop (.seq (.seq (.reg r_spec_countRow_3 none) (.cond (.t 10) .skip (.exit 0))) (.seq (.block 1 (.seq (.reg r_spec_countRow_4 none) (.cond (.t 19) (.reg r_spec_countRow_5 none) .skip))) (.reg r_spec_countRow_6 none)))))) (.seq (.reg r_spec_countRow_7 none) .ret)))
theorem c_spec_countRow : cfun Try.prog [] 23 = some (23, dc_spec_countRow, [(Res.tmp 4)]) := by kernel_rfl
def r_spec_DistinctRows_0 : List GI := [⟨.box 1 2000001 (.t 0) (some 2), some 1, none, false⟩, ⟨.alloc 2 2000002 [.v (.int .i64 0), .nul], some 2, none, false⟩, ⟨.mov 3 (.k (.v (.bool false))), some 3, none, false⟩]
def r_spec_DistinctRows_1 : List GI := [⟨.lod 4 1 (some 2), some 4, none, false⟩, ⟨.call 5 22 [.t 4], some 5, none, true⟩, ⟨.un 6 UnOp.not (.t 5), some 6, none, false⟩]
def r_spec_DistinctRows_2 : List GI := [⟨.build 7 [.v (.int .i64 0), .nul] [], some 7, none, false⟩, ⟨.sto 2 (.t 7) (some 2), none, none, false⟩, ⟨.mov 3 (.k (.v (.bool false))), some 3, none, false⟩]
def r_spec_DistinctRows_3 : List GI := [⟨.lod 8 1 (some 2), some 8, none, false⟩, ⟨.call 9 27 [.t 8], some 9, none, true⟩, ⟨.sto 2 (.t 9) (some 2), none, none, false⟩, ⟨.mov 3 (.k (.v (.bool true))), some 3, none, false⟩]
def dc_spec_DistinctRows : DC := .seq (.reg r_spec_DistinctRows_0 none) (.seq (.seq (.reg r_spec_DistinctRows_1 none) (.cond (.t 6) (.seq (.reg r_spec_DistinctRows_2 none) .ret) .skip)) (.seq (.reg r_spec_DistinctRows_3 none) .ret))
theorem c_spec_DistinctRows : cfun Try.prog [] 11 = some (10, dc_spec_DistinctRows, [(Res.cell 2 (some 2)), (Res.tmp 3)]) := by kernel_rfl
def r_spec_anyTable_0 : List GI := [⟨.alloc 6 2000006 [.v (.int .i64 0), .nul], some 6, none, false⟩]
def r_spec_anyTable_1 : List GI := [⟨.mov 8 (.t 0), some 8, none, false⟩, ⟨.mov 9 (.t 1), some 9, none, false⟩, ⟨.mov 10 (.t 2), some 10, none, false⟩, ⟨.call 11 31 [.t 8, .t 9, .t 10], some 11, none, true⟩, ⟨.alloc 7 2000007 [.v (.int .i64 0), .nul], some 7, none, false⟩, ⟨.sto 7 (.t 11) (some 2), none, none, false⟩]
def r_spec_anyTable_2 : List GI := [⟨.mov 12 (.t 0), some 12, none, false⟩, ⟨.call 13 15 [.t 12, .k (.v (.int .i64 20))], some 13, none, true⟩]
def r_spec_anyTable_3 : List GI := [⟨.bin 15 .eql (.t 13) (.k (.v (.int .i64 0))), some 15, none, false⟩, ⟨.mov 14 (.t 15), some 14, none, false⟩]
def r_spec_anyTable_4 : List GI := [⟨.mov 16 (.t 0), some 16, none, false⟩, ⟨.bsl 17 1 none [.v (.int .i64 0), .v (.int .i64 0), .v (.int .i64 0)] [(0, .k (.v (.int .i64 0))), (1, .k (.v (.int .i64 7))), (2, .k (.v (.int .i64 2)))], some 17, none, false⟩, ⟨.call 18 32 [.t 16, .t 17], some 18, none, true⟩, ⟨.fad 19 7 0, some 19, none, false⟩, ⟨.sto 19 (.t 18) none, none, none, false⟩]
def r_spec_anyTable_5 : List GI := [⟨.bin 21 .eql (.t 13) (.k (.v (.int .i64 1))), some 21, none, false⟩, ⟨.mov 20 (.t 21), some 20, none, false⟩]
def r_spec_anyTable_6 : List GI := [⟨.fad 22 7 1, some 22, none, false⟩, ⟨.lod 23 22 none, some 23, none, false⟩, ⟨.len 24 (.t 23), some 24, none, false⟩, ⟨.bin 25 .gtr (.t 24) (.k (.v (.int .i64 0))), some 25, none, false⟩]
def r_spec_anyTable_7 : List GI := [⟨.fad 26 7 1, some 26, none, false⟩, ⟨.lod 27 26 none, some 27, none, false⟩, ⟨.fad 28 7 1, some 28, none, false⟩, ⟨.lod 29 28 none, some 29, none, false⟩, ⟨.iad 30 29 (.k (.v (.int .i64 0))) 1, some 30, none, false⟩, ⟨.lod 31 30 none, some 31, none, false⟩, ⟨.call 32 17 [.t 31], some 32, none, true⟩, ⟨.bsl 33 1 none [.nul] [(0, .t 32)], some 33, none, false⟩, ⟨.app 34 2000034 (.t 27) (.t 33) 1 24, some 34, none, false⟩, ⟨.fad 35 7 1, some 35, none, false⟩, ⟨.sto 35 (.t 34) none, none, none, false⟩]
def r_spec_anyTable_8 : List GI := [⟨.bin 37 .eql (.t 13) (.k (.v (.int .i64 2))), some 37, none, false⟩, ⟨.mov 36 (.t 37), some 36, none, false⟩]
def r_spec_anyTable_9 : List GI := [⟨.fad 38 7 1, some 38, none, false⟩, ⟨.lod 39 38 none, some 39, none, false⟩, ⟨.len 40 (.t 39), some 40, none, false⟩, ⟨.bin 41 .gtr (.t 40) (.k (.v (.int .i64 0))), some 41, none, false⟩]
def r_spec_anyTable_10 : List GI := [⟨.fad 42 7 1, some 42, none, false⟩, ⟨.lod 43 42 none, some 43, none, false⟩, ⟨.mov 44 (.t 0), some 44, none, false⟩, ⟨.mov 45 (.t 1), some 45, none, false⟩, ⟨.call 46 18 [.t 44, .t 45], some 46, none, true⟩, ⟨.iad 47 43 (.k (.v (.int .i64 0))) 1, some 47, none, false⟩, ⟨.sto 47 (.t 46) none, none, none, false⟩]
def r_spec_anyTable_11 : List GI := [⟨.lod 48 7 (some 2), some 48, none, false⟩, ⟨.sto 6 (.t 48) (some 2), none, none, false⟩]
def dc_spec_anyTable : DC := .seq (.reg r_spec_anyTable_0 none) (.seq (.reg r_spec_anyTable_1 none) (.seq (.seq (.reg r_spec_anyTable_2 none) (.block 0 (.seq (.reg r_spec_anyTable_3 none) (.cond (.t 14) (.reg r_spec_anyTable_4 none) (.seq (.reg r_spec_anyTable_5 none) (.cond (.t 20) (.seq (.reg r_spec_anyTable_6 none) (.cond (.t 25) (.reg r_spec_anyTable_7 (some [0, 1, 0, 4, 12, 28, 60, 124, 255, 511, 1023])) .skip)) (.seq (.reg r_spec_anyTable_8 none) (.cond (.t 36) (.seq (.reg r_spec_anyTable_9 none) (.cond (.t 41) (.reg r_spec_anyTable_10 (some [0, 1, 0, 0, 12, 31, 63])) .skip)) .skip)))))))) (.seq (.reg r_spec_anyTable_11 none) .ret)))
theorem c_spec_anyTable : cfun Try.prog [] 16 = some (49, dc_spec_anyTable, [(Res.cell 6 (some 2))]) := by kernel_rfl
def r_spec_randomTable_0 : List GI := [⟨.alloc 6 2000006 [.v (.int .i64 0), .nul], some 6, none, false⟩]
def r_spec_randomTable_1 : List GI := [⟨.mov 9 (.k .nul), some 9, none, false⟩, ⟨.mov 7 (.t 9), some 7, none, false⟩]
def r_spec_randomTable_2 : List GI := [⟨.mov 10 (.t 0), some 10, none, false⟩, ⟨.mov 11 (.t 2), some 11, none, false⟩, ⟨.bin 12 .add (.t 11) (.k (.v (.int .i64 1))), some 12, none, false⟩, ⟨.call 13 15 [.t 10, .t 12], some 13, none, true⟩, ⟨.mov 8 (.t 13), some 8, none, false⟩]
def r_spec_randomTable_3 : List GI := [⟨.mov 14 (.t 8), some 14, none, false⟩, ⟨.bin 15 .gtr (.t 14) (.k (.v (.int .i64 0))), some 15, none, false⟩]
def r_spec_randomTable_4 : List GI := [⟨.mov 18 (.t 7), some 18, none, false⟩, ⟨.mov 19 (.t 0), some 19, none, false⟩, ⟨.mov 20 (.t 1), some 20, none, false⟩, ⟨.call 21 33 [.t 19, .t 20], some 21, none, true⟩, ⟨.bsl 22 1 none [.nul] [(0, .t 21)], some 22, none, false⟩, ⟨.app 23 2000023 (.t 18) (.t 22) 1 24, some 23, none, false⟩, ⟨.mov 7 (.t 23), some 7, none, false⟩]
def r_spec_randomTable_5 : List GI := [⟨.mov 16 (.t 8), some 16, none, false⟩, ⟨.bin 17 .sub (.t 16) (.k (.v (.int .i64 1))), some 17, none, false⟩, ⟨.mov 8 (.t 17), some 8, none, false⟩]
def r_spec_randomTable_6 : List GI := [⟨.mov 24 (.t 1), some 24, none, false⟩, ⟨.mov 25 (.t 7), some 25, none, false⟩, ⟨.call 26 45 [.t 24, .t 25], some 26, none, true⟩, ⟨.sto 6 (.t 26) (some 2), none, none, false⟩]
def dc_spec_randomTable : DC := .seq (.reg r_spec_randomTable_0 none) (.seq (.reg r_spec_randomTable_1 none) (.seq (.seq (.reg r_spec_randomTable_2 none) (.block 0 (.loop (.seq (.seq (.reg r_spec_randomTable_3 none) (.cond (.t 15) .skip (.exit 0))) (.seq (.block 1 (.reg r_spec_randomTable_4 none)) (.reg r_spec_randomTable_5 none)))))) (.seq (.reg r_spec_randomTable_6 none) .ret)))
theorem c_spec_randomTable : cfun Try.prog [] 31 = some (27, dc_spec_randomTable, [(Res.cell 6 (some 2))]) := by kernel_rfl
end
end Go.Proofs.Ytldkjccccjiihaa
