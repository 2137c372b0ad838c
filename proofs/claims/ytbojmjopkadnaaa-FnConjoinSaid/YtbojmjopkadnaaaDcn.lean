/-
  Functions of the program read as code on plain data. Closed facts of the program alone.
-/
import Derived.Test.YtbojmjopkadnaaaRows
import Derived.Test.YtbojmjopkadnaaaVLib
import Derived.KernelRfl
namespace Go.Proofs.Ytbojmjopkadnaaa
open Go.RowKit
noncomputable section
def r_impl_constantExpr_0 : List GI := [⟨.box 1 2000001 (.t 0) (some 2), some 1, none, false⟩, ⟨.alloc 2 2000002 [.v (.int .i64 0), .v (.int .i64 0), .v (.bool false), .v (.int .i64 0), .nul], some 2, none, false⟩]
def r_impl_constantExpr_1 : List GI := [⟨.lod 3 1 (some 2), some 3, none, false⟩, ⟨.build 4 [.v (.int .i64 0), .v (.int .i64 0), .v (.bool false), .v (.int .i64 0), .nul] [(0, (none, .k (.v (.int .i64 2)))), (2, (some 2, .t 3))], some 4, none, false⟩, ⟨.sto 2 (.t 4) (some 5), none, none, false⟩]
def dc_impl_constantExpr : DC := .seq (.reg r_impl_constantExpr_0 none) (.seq (.reg r_impl_constantExpr_1 none) .ret)
theorem c_impl_constantExpr : cfun Try.prog [] 41 = some (5, dc_impl_constantExpr, [(Res.cell 2 (some 5))]) := by kernel_rfl
def r_impl_Conjoin_0 : List GI := [⟨.alloc 2 2000002 [.v (.int .i64 0), .v (.int .i64 0), .v (.bool false), .v (.int .i64 0), .nul], some 2, none, false⟩]
def r_impl_Conjoin_1 : List GI := [⟨.mov 6 (.t 0), some 6, none, false⟩, ⟨.len 7 (.t 6), some 7, none, false⟩, ⟨.bin 8 .gtr (.t 7) (.k (.v (.int .i64 9))), some 8, none, false⟩]
def r_impl_Conjoin_2 : List GI := [⟨.build 9 [.v (.int .i64 0), .v (.int .i64 0), .v (.bool false), .v (.int .i64 0), .nul] [], some 9, none, false⟩, ⟨.sto 2 (.t 9) (some 5), none, none, false⟩]
def r_impl_Conjoin_3 : List GI := [⟨.mov 10 (.t 0), some 10, none, false⟩, ⟨.len 11 (.t 10), some 11, none, false⟩, ⟨.bin 12 .eql (.t 11) (.k (.v (.int .i64 0))), some 12, none, false⟩]
def r_impl_Conjoin_4 : List GI := [⟨.build 13 [.v (.bool false), .v (.int .i64 0)] [(1, (none, .k (.v (.int .i64 1))))], some 13, none, false⟩, ⟨.call 14 41 [.t 13], some 14, none, true⟩, ⟨.sto 2 (.t 14) (some 5), none, none, false⟩]
def r_impl_Conjoin_5 : List GI := [⟨.mov 15 (.t 0), some 15, none, false⟩, ⟨.iad 16 15 (.k (.v (.int .i64 0))) 5, some 16, none, false⟩, ⟨.lod 17 16 (some 5), some 17, none, false⟩, ⟨.alloc 3 2000003 [.v (.int .i64 0), .v (.int .i64 0), .v (.bool false), .v (.int .i64 0), .nul], some 3, none, false⟩, ⟨.sto 3 (.t 17) (some 5), none, none, false⟩]
def r_impl_Conjoin_6 : List GI := [⟨.mov 18 (.t 0), some 18, none, false⟩, ⟨.slc 19 (.t 18) (some (.k (.v (.int .i64 1)))) none 5, some 19, none, false⟩, ⟨.len 20 (.t 19), some 20, none, false⟩, ⟨.mov 21 (.k (.v (.int .i64 0))), some 21, none, false⟩]
def r_impl_Conjoin_7 : List GI := [⟨.bin 22 .lss (.t 21) (.t 20), some 22, none, false⟩]
def r_impl_Conjoin_8 : List GI := [⟨.iad 23 19 (.t 21) 5, some 23, none, false⟩, ⟨.lod 24 23 (some 5), some 24, none, false⟩, ⟨.alloc 5 2000005 [.v (.int .i64 0), .v (.int .i64 0), .v (.bool false), .v (.int .i64 0), .nul], some 5, none, false⟩, ⟨.sto 5 (.t 24) (some 5), none, none, false⟩]
def r_impl_Conjoin_9 : List GI := [⟨.lod 25 3 (some 5), some 25, none, false⟩, ⟨.lod 26 5 (some 5), some 26, none, false⟩, ⟨.bsl 27 5 (some 5) [.agg [.v (.int .i64 0), .v (.int .i64 0), .v (.bool false), .v (.int .i64 0), .nul], .agg [.v (.int .i64 0), .v (.int .i64 0), .v (.bool false), .v (.int .i64 0), .nul]] [(0, .t 25), (1, .t 26)], some 27, none, false⟩, ⟨.build 28 [.v (.int .i64 0), .v (.int .i64 0), .v (.bool false), .v (.int .i64 0), .nul] [(0, (none, .k (.v (.int .i64 8)))), (4, (none, .t 27))], some 28, none, false⟩, ⟨.sto 3 (.t 28) (some 5), none, none, false⟩]
def r_impl_Conjoin_10 : List GI := [⟨.bin 29 .add (.t 21) (.k (.v (.int .i64 1))), some 29, none, false⟩, ⟨.mov 21 (.t 29), some 21, none, false⟩]
def r_impl_Conjoin_11 : List GI := [⟨.lod 30 3 (some 5), some 30, none, false⟩, ⟨.call 31 13 [.t 30, .k (.v (.int .i64 6))], some 31, none, true⟩, ⟨.un 32 UnOp.not (.t 31), some 32, none, false⟩]
def r_impl_Conjoin_12 : List GI := [⟨.build 33 [.v (.int .i64 0), .v (.int .i64 0), .v (.bool false), .v (.int .i64 0), .nul] [], some 33, none, false⟩, ⟨.sto 2 (.t 33) (some 5), none, none, false⟩]
def r_impl_Conjoin_13 : List GI := [⟨.lod 34 3 (some 5), some 34, none, false⟩, ⟨.call 35 42 [.t 34], some 35, none, true⟩, ⟨.sto 2 (.t 35) (some 5), none, none, false⟩]
def dc_impl_Conjoin : DC := .seq (.reg r_impl_Conjoin_0 none) (.seq (.seq (.reg r_impl_Conjoin_1 none) (.cond (.t 8) (.seq (.reg r_impl_Conjoin_2 none) .ret) .skip)) (.seq (.seq (.reg r_impl_Conjoin_3 none) (.cond (.t 12) (.seq (.reg r_impl_Conjoin_4 none) .ret) .skip)) (.seq (.reg r_impl_Conjoin_5 none) (.seq (.seq (.reg r_impl_Conjoin_6 none) (.block 0 (.loop (.seq (.reg r_impl_Conjoin_7 none) (.seq (.cond (.t 22) .skip (.exit 0)) (.seq (.block 1 (.seq (.reg r_impl_Conjoin_8 none) (.reg r_impl_Conjoin_9 none))) (.reg r_impl_Conjoin_10 none))))))) (.seq (.seq (.reg r_impl_Conjoin_11 none) (.cond (.t 32) (.seq (.reg r_impl_Conjoin_12 none) .ret) .skip)) (.seq (.reg r_impl_Conjoin_13 none) .ret))))))
theorem c_impl_Conjoin : cfun Try.prog [] 20 = some (36, dc_impl_Conjoin, [(Res.cell 2 (some 5))]) := by kernel_rfl
end
end Go.Proofs.Ytbojmjopkadnaaa
