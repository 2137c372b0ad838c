/-
  Functions of the program read as code on plain data. Closed facts of the program alone.
-/
import Derived.Test.YtbojmjopkadnaaaRows
import Derived.Test.YtbojmjopkadnaaaVLib
import Derived.KernelRfl
namespace Go.Proofs.Ytbojmjopkadnaaa
open Go.RowKit
noncomputable section
def r_impl_cloneTree_loop_example_queryoptimizer_impl_Expr_O_0 : List GI := [⟨.box 2 2000002 (.t 0) (some 5), some 2, none, false⟩, ⟨.alloc 4 2000004 [.v (.int .i64 0), .v (.int .i64 0), .v (.bool false), .v (.int .i64 0), .nul], some 4, none, false⟩]
def r_impl_cloneTree_loop_example_queryoptimizer_impl_Expr_O_1 : List GI := [⟨.bslx 9 2000009 1 none [.v (.pointer none)] [(0, .t 2)], some 9, none, false⟩, ⟨.mov 5 (.t 9), some 5, none, false⟩]
def r_impl_cloneTree_loop_example_queryoptimizer_impl_Expr_O_2 : List GI := [⟨.mov 10 (.t 5), some 10, none, false⟩, ⟨.len 11 (.t 10), some 11, none, false⟩, ⟨.bin 12 .gtr (.t 11) (.k (.v (.int .i64 0))), some 12, none, false⟩]
def r_impl_cloneTree_loop_example_queryoptimizer_impl_Expr_O_3 : List GI := [⟨.mov 13 (.t 5), some 13, none, false⟩, ⟨.mov 14 (.t 5), some 14, none, false⟩, ⟨.len 15 (.t 14), some 15, none, false⟩, ⟨.bin 16 .sub (.t 15) (.k (.v (.int .i64 1))), some 16, none, false⟩, ⟨.iad 17 13 (.t 16) 1, some 17, none, false⟩, ⟨.lod 18 17 none, some 18, none, false⟩, ⟨.mov 6 (.t 18), some 6, none, false⟩]
def r_impl_cloneTree_loop_example_queryoptimizer_impl_Expr_O_4 : List GI := [⟨.mov 19 (.t 5), some 19, none, false⟩, ⟨.mov 20 (.t 5), some 20, none, false⟩, ⟨.len 21 (.t 20), some 21, none, false⟩, ⟨.bin 22 .sub (.t 21) (.k (.v (.int .i64 1))), some 22, none, false⟩, ⟨.slc 23 (.t 19) none (some (.t 22)) 1, some 23, none, false⟩, ⟨.mov 5 (.t 23), some 5, none, false⟩]
def r_impl_cloneTree_loop_example_queryoptimizer_impl_Expr_O_5 : List GI := [⟨.mov 24 (.t 1), some 24, none, false⟩, ⟨.mov 25 (.t 6), some 25, none, false⟩, ⟨.cal 26 (.t 24) [.t 25], some 26, none, true⟩, ⟨.mov 7 (.t 26), some 7, none, false⟩]
def r_impl_cloneTree_loop_example_queryoptimizer_impl_Expr_O_6 : List GI := [⟨.mov 27 (.t 7), some 27, none, false⟩, ⟨.len 28 (.t 27), some 28, none, false⟩, ⟨.mov 29 (.k (.v (.int .i64 0))), some 29, none, false⟩]
def r_impl_cloneTree_loop_example_queryoptimizer_impl_Expr_O_7 : List GI := [⟨.bin 30 .lss (.t 29) (.t 28), some 30, none, false⟩]
def r_impl_cloneTree_loop_example_queryoptimizer_impl_Expr_O_8 : List GI := [⟨.mov 31 (.t 29), some 31, none, false⟩, ⟨.mov 8 (.t 31), some 8, none, false⟩]
def r_impl_cloneTree_loop_example_queryoptimizer_impl_Expr_O_9 : List GI := [⟨.mov 32 (.t 5), some 32, none, false⟩, ⟨.mov 33 (.t 7), some 33, none, false⟩, ⟨.mov 34 (.t 8), some 34, none, false⟩, ⟨.iad 35 33 (.t 34) 5, some 35, none, false⟩, ⟨.bslx 36 2000036 1 none [.v (.pointer none)] [(0, .t 35)], some 36, none, false⟩, ⟨.app 37 2000037 (.t 32) (.t 36) 1 8, some 37, none, false⟩, ⟨.mov 5 (.t 37), some 5, none, false⟩]
def r_impl_cloneTree_loop_example_queryoptimizer_impl_Expr_O_10 : List GI := [⟨.bin 38 .add (.t 29) (.k (.v (.int .i64 1))), some 38, none, false⟩, ⟨.mov 29 (.t 38), some 29, none, false⟩]
def r_impl_cloneTree_loop_example_queryoptimizer_impl_Expr_O_11 : List GI := [⟨.lod 39 2 (some 5), some 39, none, false⟩, ⟨.sto 4 (.t 39) (some 5), none, none, false⟩]
def dc_impl_cloneTree_loop_example_queryoptimizer_impl_Expr_O : DC := .seq (.reg r_impl_cloneTree_loop_example_queryoptimizer_impl_Expr_O_0 none) (.seq (.seq (.reg r_impl_cloneTree_loop_example_queryoptimizer_impl_Expr_O_1 none) (.block 0 (.loop (.seq (.seq (.reg r_impl_cloneTree_loop_example_queryoptimizer_impl_Expr_O_2 none) (.cond (.t 12) .skip (.exit 0))) (.block 1 (.seq (.reg r_impl_cloneTree_loop_example_queryoptimizer_impl_Expr_O_3 none) (.seq (.reg r_impl_cloneTree_loop_example_queryoptimizer_impl_Expr_O_4 none) (.seq (.reg r_impl_cloneTree_loop_example_queryoptimizer_impl_Expr_O_5 none) (.seq (.reg r_impl_cloneTree_loop_example_queryoptimizer_impl_Expr_O_6 none) (.block 2 (.loop (.seq (.reg r_impl_cloneTree_loop_example_queryoptimizer_impl_Expr_O_7 none) (.seq (.cond (.t 30) .skip (.exit 2)) (.seq (.block 3 (.seq (.reg r_impl_cloneTree_loop_example_queryoptimizer_impl_Expr_O_8 none) (.reg r_impl_cloneTree_loop_example_queryoptimizer_impl_Expr_O_9 none))) (.reg r_impl_cloneTree_loop_example_queryoptimizer_impl_Expr_O_10 none))))))))))))))) (.seq (.reg r_impl_cloneTree_loop_example_queryoptimizer_impl_Expr_O_11 none) .ret))
theorem c_impl_cloneTree_loop_example_queryoptimizer_impl_Expr_O : cfun Try.prog [9,36] 66 = some (40, dc_impl_cloneTree_loop_example_queryoptimizer_impl_Expr_O, [(Res.cell 4 (some 5))]) := by kernel_rfl
end
end Go.Proofs.Ytbojmjopkadnaaa
