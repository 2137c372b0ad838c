/-
  Functions of the program read as code on plain data. Closed facts of the program alone.
-/
import Derived.Test.YtbojmjopkadnaaaRows
import Derived.Test.YtbojmjopkadnaaaVLib
import Derived.KernelRfl
namespace Go.Proofs.Ytbojmjopkadnaaa
open Go.RowKit
noncomputable section
def r_impl_cloneExpr_0 : List GI := [⟨.box 1 2000001 (.t 0) (some 5), some 1, none, false⟩, ⟨.alloc 2 2000002 [.v (.int .i64 0), .v (.int .i64 0), .v (.bool false), .v (.int .i64 0), .nul], some 2, none, false⟩]
def r_impl_cloneExpr_1 : List GI := [⟨.lod 3 1 (some 5), some 3, none, false⟩, ⟨.call 4 66 [.t 3, .k (.fn 67 [])], some 4, none, true⟩, ⟨.sto 2 (.t 4) (some 5), none, none, false⟩]
def dc_impl_cloneExpr : DC := .seq (.reg r_impl_cloneExpr_0 none) (.seq (.reg r_impl_cloneExpr_1 none) .ret)
theorem c_impl_cloneExpr : cfun Try.prog [] 42 = some (5, dc_impl_cloneExpr, [(Res.cell 2 (some 5))]) := by kernel_rfl
end
end Go.Proofs.Ytbojmjopkadnaaa
