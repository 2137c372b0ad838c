/-
  Functions of the program read as code on plain data. Closed facts of the program alone.
-/
import Derived.Test.YtbojmjopkadnaaaRows
import Derived.Test.YtbojmjopkadnaaaVLib
import Derived.KernelRfl
namespace Go.Proofs.Ytbojmjopkadnaaa
open Go.RowKit
noncomputable section
def r_impl_cloneExpr_1_0 : List GI := [⟨.mov 2 (.k .nul), some 2, none, false⟩]
def r_impl_cloneExpr_1_1 : List GI := [⟨.mov 3 (.t 0), some 3, none, false⟩, ⟨.mov 4 (.t 0), some 4, none, false⟩, ⟨.nilc 5 4, some 5, none, false⟩, ⟨.fad 6 5 4, some 6, none, false⟩, ⟨.lod 7 6 none, some 7, none, false⟩, ⟨.call 8 68 [.t 7], some 8, none, true⟩, ⟨.nilc 9 3, some 9, none, false⟩, ⟨.fad 10 9 4, some 10, none, false⟩, ⟨.sto 10 (.t 8) none, none, none, false⟩]
def r_impl_cloneExpr_1_2 : List GI := [⟨.mov 11 (.t 0), some 11, none, false⟩, ⟨.nilc 12 11, some 12, none, false⟩, ⟨.fad 13 12 4, some 13, none, false⟩, ⟨.lod 14 13 none, some 14, none, false⟩, ⟨.mov 2 (.t 14), some 2, none, false⟩]
def dc_impl_cloneExpr_1 : DC := .seq (.reg r_impl_cloneExpr_1_0 none) (.seq (.reg r_impl_cloneExpr_1_1 none) (.seq (.reg r_impl_cloneExpr_1_2 none) .ret))
theorem c_impl_cloneExpr_1 : cfun Try.prog [] 67 = some (15, dc_impl_cloneExpr_1, [(Res.tmp 2)]) := by kernel_rfl
def r_slices_Clone___loop_example_queryoptimizer_impl_Expr_loop_example_queryoptimizer_impl_Expr__0 : List GI := [⟨.mov 2 (.k .nul), some 2, none, false⟩]
def r_slices_Clone___loop_example_queryoptimizer_impl_Expr_loop_example_queryoptimizer_impl_Expr__1 : List GI := [⟨.mov 3 (.t 0), some 3, none, false⟩, ⟨.isn 4 false (.t 3), some 4, none, false⟩]
def r_slices_Clone___loop_example_queryoptimizer_impl_Expr_loop_example_queryoptimizer_impl_Expr__2 : List GI := [⟨.mov 2 (.k .nul), some 2, none, false⟩]
def r_slices_Clone___loop_example_queryoptimizer_impl_Expr_loop_example_queryoptimizer_impl_Expr__3 : List GI := [⟨.mov 5 (.k .nul), some 5, none, false⟩, ⟨.mov 6 (.t 0), some 6, none, false⟩, ⟨.app 7 2000007 (.t 5) (.t 6) 5 56, some 7, none, false⟩, ⟨.mov 2 (.t 7), some 2, none, false⟩]
def dc_slices_Clone___loop_example_queryoptimizer_impl_Expr_loop_example_queryoptimizer_impl_Expr_ : DC := .seq (.reg r_slices_Clone___loop_example_queryoptimizer_impl_Expr_loop_example_queryoptimizer_impl_Expr__0 none) (.seq (.seq (.reg r_slices_Clone___loop_example_queryoptimizer_impl_Expr_loop_example_queryoptimizer_impl_Expr__1 none) (.cond (.t 4) (.seq (.reg r_slices_Clone___loop_example_queryoptimizer_impl_Expr_loop_example_queryoptimizer_impl_Expr__2 none) .ret) .skip)) (.seq (.reg r_slices_Clone___loop_example_queryoptimizer_impl_Expr_loop_example_queryoptimizer_impl_Expr__3 none) .ret))
theorem c_slices_Clone___loop_example_queryoptimizer_impl_Expr_loop_example_queryoptimizer_impl_Expr_ : cfun Try.prog [] 68 = some (8, dc_slices_Clone___loop_example_queryoptimizer_impl_Expr_loop_example_queryoptimizer_impl_Expr_, [(Res.tmp 2)]) := by kernel_rfl
end
end Go.Proofs.Ytbojmjopkadnaaa
