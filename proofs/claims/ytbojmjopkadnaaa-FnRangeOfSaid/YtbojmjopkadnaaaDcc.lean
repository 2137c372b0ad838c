/-
  Functions of the program read as code on plain data. Closed facts of the program alone.
-/
import Derived.Test.YtbojmjopkadnaaaRows
import Derived.Test.YtbojmjopkadnaaaVLib
import Derived.KernelRfl
namespace Go.Proofs.Ytbojmjopkadnaaa
open Go.RowKit
noncomputable section
def r_spec_copyExpr_0 : List GI := [⟨.box 1 2000001 (.t 0) (some 5), some 1, none, false⟩, ⟨.alloc 2 2000002 [.v (.int .i64 0), .v (.int .i64 0), .v (.bool false), .v (.int .i64 0), .nul], some 2, none, false⟩]
def r_spec_copyExpr_1 : List GI := [⟨.fad 5 1 0, some 5, none, false⟩, ⟨.lod 6 5 none, some 6, none, false⟩, ⟨.fad 7 1 1, some 7, none, false⟩, ⟨.lod 8 7 none, some 8, none, false⟩, ⟨.fad 9 1 2, some 9, none, false⟩, ⟨.lod 10 9 (some 2), some 10, none, false⟩, ⟨.build 11 [.v (.int .i64 0), .v (.int .i64 0), .v (.bool false), .v (.int .i64 0), .nul] [(0, (none, .t 6)), (1, (none, .t 8)), (2, (some 2, .t 10))], some 11, none, false⟩, ⟨.alloc 3 2000003 [.v (.int .i64 0), .v (.int .i64 0), .v (.bool false), .v (.int .i64 0), .nul], some 3, none, false⟩, ⟨.sto 3 (.t 11) (some 5), none, none, false⟩]
def r_spec_copyExpr_2 : List GI := [⟨.mov 4 (.k (.v (.int .i64 0))), some 4, none, false⟩]
def r_spec_copyExpr_3 : List GI := [⟨.mov 12 (.t 4), some 12, none, false⟩, ⟨.fad 13 1 4, some 13, none, false⟩, ⟨.lod 14 13 none, some 14, none, false⟩, ⟨.len 15 (.t 14), some 15, none, false⟩, ⟨.bin 16 .lss (.t 12) (.t 15), some 16, none, false⟩]
def r_spec_copyExpr_4 : List GI := [⟨.fad 19 3 4, some 19, none, false⟩, ⟨.lod 20 19 none, some 20, none, false⟩, ⟨.fad 21 1 4, some 21, none, false⟩, ⟨.lod 22 21 none, some 22, none, false⟩, ⟨.mov 23 (.t 4), some 23, none, false⟩, ⟨.iad 24 22 (.t 23) 5, some 24, none, false⟩, ⟨.lod 25 24 (some 5), some 25, none, false⟩, ⟨.call 26 60 [.t 25], some 26, none, true⟩, ⟨.bsl 27 5 (some 5) [.agg [.v (.int .i64 0), .v (.int .i64 0), .v (.bool false), .v (.int .i64 0), .nul]] [(0, .t 26)], some 27, none, false⟩, ⟨.app 28 2000028 (.t 20) (.t 27) 5 56, some 28, none, false⟩, ⟨.fad 29 3 4, some 29, none, false⟩, ⟨.sto 29 (.t 28) none, none, none, false⟩]
def r_spec_copyExpr_5 : List GI := [⟨.mov 17 (.t 4), some 17, none, false⟩, ⟨.bin 18 .add (.t 17) (.k (.v (.int .i64 1))), some 18, none, false⟩, ⟨.mov 4 (.t 18), some 4, none, false⟩]
def r_spec_copyExpr_6 : List GI := [⟨.lod 30 3 (some 5), some 30, none, false⟩, ⟨.sto 2 (.t 30) (some 5), none, none, false⟩]
def dc_spec_copyExpr : DC := .seq (.reg r_spec_copyExpr_0 none) (.seq (.reg r_spec_copyExpr_1 none) (.seq (.seq (.reg r_spec_copyExpr_2 none) (.block 0 (.loop (.seq (.seq (.reg r_spec_copyExpr_3 none) (.cond (.t 16) .skip (.exit 0))) (.seq (.block 1 (.reg r_spec_copyExpr_4 (some [0, 1, 0, 4, 0, 28, 60, 124, 252, 511, 1023, 2047]))) (.reg r_spec_copyExpr_5 none)))))) (.seq (.reg r_spec_copyExpr_6 none) .ret)))
theorem c_spec_copyExpr : cfun Try.prog [] 60 = some (31, dc_spec_copyExpr, [(Res.cell 2 (some 5))]) := by kernel_rfl
end
end Go.Proofs.Ytbojmjopkadnaaa
