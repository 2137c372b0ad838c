/-
  Functions of the program read as code on plain data. Closed facts of the program alone.
-/
import Derived.Test.YtbojmjopkadnaaaRows
import Derived.Test.YtbojmjopkadnaaaVLib
import Derived.KernelRfl
namespace Go.Proofs.Ytbojmjopkadnaaa
open Go.RowKit
noncomputable section
def name_impl_visit : String := match Try.prog.info? 62 with
  | some i => ((i.methods.toList[0]?).map (fun m => m.name)).getD default
  | none => default
def r_impl_Substitute_0 : List GI := [⟨.box 3 2000003 (.t 0) (some 5), some 3, none, false⟩, ⟨.alloc 6 2000006 [.v (.int .i64 0), .v (.int .i64 0), .v (.bool false), .v (.int .i64 0), .nul], some 6, none, false⟩, ⟨.mov 7 (.k (.v (.bool false))), some 7, none, false⟩]
def r_impl_Substitute_1 : List GI := [⟨.lod 11 3 (some 5), some 11, none, false⟩, ⟨.mov 12 (.t 1), some 12, none, false⟩, ⟨.len 13 (.t 12), some 13, none, false⟩, ⟨.call 14 13 [.t 11, .t 13], some 14, none, true⟩, ⟨.un 15 UnOp.not (.t 14), some 15, none, false⟩]
def r_impl_Substitute_2 : List GI := [⟨.build 16 [.v (.int .i64 0), .v (.int .i64 0), .v (.bool false), .v (.int .i64 0), .nul] [], some 16, none, false⟩, ⟨.sto 6 (.t 16) (some 5), none, none, false⟩, ⟨.mov 7 (.k (.v (.bool false))), some 7, none, false⟩]
def r_impl_Substitute_3 : List GI := [⟨.mov 17 (.t 1), some 17, none, false⟩, ⟨.len 18 (.t 17), some 18, none, false⟩, ⟨.mov 19 (.k (.v (.int .i64 0))), some 19, none, false⟩]
def r_impl_Substitute_4 : List GI := [⟨.bin 20 .lss (.t 19) (.t 18), some 20, none, false⟩]
def r_impl_Substitute_5 : List GI := [⟨.iad 21 17 (.t 19) 5, some 21, none, false⟩, ⟨.lod 22 21 (some 5), some 22, none, false⟩, ⟨.alloc 9 2000009 [.v (.int .i64 0), .v (.int .i64 0), .v (.bool false), .v (.int .i64 0), .nul], some 9, none, false⟩, ⟨.sto 9 (.t 22) (some 5), none, none, false⟩]
def r_impl_Substitute_6 : List GI := [⟨.lod 23 9 (some 5), some 23, none, false⟩, ⟨.mov 24 (.t 2), some 24, none, false⟩, ⟨.call 25 13 [.t 23, .t 24], some 25, none, true⟩, ⟨.un 26 UnOp.not (.t 25), some 26, none, false⟩]
def r_impl_Substitute_7 : List GI := [⟨.build 27 [.v (.int .i64 0), .v (.int .i64 0), .v (.bool false), .v (.int .i64 0), .nul] [], some 27, none, false⟩, ⟨.sto 6 (.t 27) (some 5), none, none, false⟩, ⟨.mov 7 (.k (.v (.bool false))), some 7, none, false⟩]
def r_impl_Substitute_8 : List GI := [⟨.bin 28 .add (.t 19) (.k (.v (.int .i64 1))), some 28, none, false⟩, ⟨.mov 19 (.t 28), some 19, none, false⟩]
def r_impl_Substitute_9 : List GI := [⟨.lod 29 3 (some 5), some 29, none, false⟩, ⟨.mov 30 (.t 1), some 30, none, false⟩, ⟨.build 31 [.nul] [(0, (none, .t 30))], some 31, none, false⟩, ⟨.ifc 32 62 (.t 31), some 32, none, false⟩, ⟨.call 33 30 [.t 29, .t 32], some 33, none, true⟩, ⟨.alloc 10 2000010 [.v (.int .i64 0), .v (.int .i64 0), .v (.bool false), .v (.int .i64 0), .nul], some 10, none, false⟩, ⟨.sto 10 (.t 33) (some 5), none, none, false⟩]
def r_impl_Substitute_10 : List GI := [⟨.lod 34 10 (some 5), some 34, none, false⟩, ⟨.mov 35 (.t 2), some 35, none, false⟩, ⟨.call 36 13 [.t 34, .t 35], some 36, none, true⟩, ⟨.un 37 UnOp.not (.t 36), some 37, none, false⟩]
def r_impl_Substitute_11 : List GI := [⟨.build 38 [.v (.int .i64 0), .v (.int .i64 0), .v (.bool false), .v (.int .i64 0), .nul] [], some 38, none, false⟩, ⟨.sto 6 (.t 38) (some 5), none, none, false⟩, ⟨.mov 7 (.k (.v (.bool false))), some 7, none, false⟩]
def r_impl_Substitute_12 : List GI := [⟨.lod 39 10 (some 5), some 39, none, false⟩, ⟨.sto 6 (.t 39) (some 5), none, none, false⟩, ⟨.mov 7 (.k (.v (.bool true))), some 7, none, false⟩]
def dc_impl_Substitute : DC := .seq (.reg r_impl_Substitute_0 none) (.seq (.seq (.reg r_impl_Substitute_1 none) (.cond (.t 15) (.seq (.reg r_impl_Substitute_2 none) .ret) .skip)) (.seq (.seq (.reg r_impl_Substitute_3 none) (.block 0 (.loop (.seq (.reg r_impl_Substitute_4 none) (.seq (.cond (.t 20) .skip (.exit 0)) (.seq (.block 1 (.seq (.reg r_impl_Substitute_5 none) (.seq (.reg r_impl_Substitute_6 none) (.cond (.t 26) (.seq (.reg r_impl_Substitute_7 none) .ret) .skip)))) (.reg r_impl_Substitute_8 none))))))) (.seq (.reg r_impl_Substitute_9 none) (.seq (.seq (.reg r_impl_Substitute_10 none) (.cond (.t 37) (.seq (.reg r_impl_Substitute_11 none) .ret) .skip)) (.seq (.reg r_impl_Substitute_12 none) .ret)))))
theorem c_impl_Substitute : cfun Try.prog [] 9 = some (40, dc_impl_Substitute, [(Res.cell 6 (some 5)), (Res.tmp 7)]) := by kernel_rfl
def r_impl_rewriteExpr_0 : List GI := [⟨.box 2 2000002 (.t 0) (some 5), some 2, none, false⟩, ⟨.alloc 4 2000004 [.v (.int .i64 0), .v (.int .i64 0), .v (.bool false), .v (.int .i64 0), .nul], some 4, none, false⟩]
def r_impl_rewriteExpr_1 : List GI := [⟨.mov 5 (.k .nul), some 5, none, false⟩]
def r_impl_rewriteExpr_2 : List GI := [⟨.fad 8 2 4, some 8, none, false⟩, ⟨.lod 9 8 none, some 9, none, false⟩, ⟨.len 10 (.t 9), some 10, none, false⟩, ⟨.mov 11 (.k (.v (.int .i64 0))), some 11, none, false⟩]
def r_impl_rewriteExpr_3 : List GI := [⟨.bin 12 .lss (.t 11) (.t 10), some 12, none, false⟩]
def r_impl_rewriteExpr_4 : List GI := [⟨.iad 13 9 (.t 11) 5, some 13, none, false⟩, ⟨.lod 14 13 (some 5), some 14, none, false⟩, ⟨.alloc 7 2000007 [.v (.int .i64 0), .v (.int .i64 0), .v (.bool false), .v (.int .i64 0), .nul], some 7, none, false⟩, ⟨.sto 7 (.t 14) (some 5), none, none, false⟩]
def r_impl_rewriteExpr_5 : List GI := [⟨.mov 15 (.t 5), some 15, none, false⟩, ⟨.lod 16 7 (some 5), some 16, none, false⟩, ⟨.mov 17 (.t 1), some 17, none, false⟩, ⟨.call 18 30 [.t 16, .t 17], some 18, none, true⟩, ⟨.bsl 19 5 (some 5) [.agg [.v (.int .i64 0), .v (.int .i64 0), .v (.bool false), .v (.int .i64 0), .nul]] [(0, .t 18)], some 19, none, false⟩, ⟨.app 20 2000020 (.t 15) (.t 19) 5 56, some 20, none, false⟩, ⟨.mov 5 (.t 20), some 5, none, false⟩]
def r_impl_rewriteExpr_6 : List GI := [⟨.bin 21 .add (.t 11) (.k (.v (.int .i64 1))), some 21, none, false⟩, ⟨.mov 11 (.t 21), some 11, none, false⟩]
def r_impl_rewriteExpr_7 : List GI := [⟨.mov 22 (.t 5), some 22, none, false⟩, ⟨.fad 23 2 4, some 23, none, false⟩, ⟨.sto 23 (.t 22) none, none, none, false⟩]
def r_impl_rewriteExpr_8 : List GI := [⟨.mov 24 (.t 1), some 24, none, false⟩, ⟨.lod 25 2 (some 5), some 25, none, false⟩, ⟨.inv 26 (.t 24) name_impl_visit [.t 25], some 26, none, true⟩, ⟨.sto 4 (.t 26) (some 5), none, none, false⟩]
def dc_impl_rewriteExpr : DC := .seq (.reg r_impl_rewriteExpr_0 none) (.seq (.reg r_impl_rewriteExpr_1 none) (.seq (.seq (.reg r_impl_rewriteExpr_2 none) (.block 0 (.loop (.seq (.reg r_impl_rewriteExpr_3 none) (.seq (.cond (.t 12) .skip (.exit 0)) (.seq (.block 1 (.seq (.reg r_impl_rewriteExpr_4 none) (.reg r_impl_rewriteExpr_5 none))) (.reg r_impl_rewriteExpr_6 none))))))) (.seq (.reg r_impl_rewriteExpr_7 none) (.seq (.reg r_impl_rewriteExpr_8 none) .ret))))
theorem c_impl_rewriteExpr : cfun Try.prog [] 30 = some (27, dc_impl_rewriteExpr, [(Res.cell 4 (some 5))]) := by kernel_rfl
def r_impl_substituter_visit_0 : List GI := [⟨.box 2 2000002 (.t 0) (some 1), some 2, none, false⟩, ⟨.box 3 2000003 (.t 1) (some 5), some 3, none, false⟩, ⟨.alloc 4 2000004 [.v (.int .i64 0), .v (.int .i64 0), .v (.bool false), .v (.int .i64 0), .nul], some 4, none, false⟩]
def r_impl_substituter_visit_1 : List GI := [⟨.fad 5 3 0, some 5, none, false⟩, ⟨.lod 6 5 none, some 6, none, false⟩, ⟨.bin 7 .eql (.t 6) (.k (.v (.int .i64 1))), some 7, none, false⟩]
def r_impl_substituter_visit_2 : List GI := [⟨.fad 8 2 0, some 8, none, false⟩, ⟨.lod 9 8 none, some 9, none, false⟩, ⟨.fad 10 3 1, some 10, none, false⟩, ⟨.lod 11 10 none, some 11, none, false⟩, ⟨.iad 12 9 (.t 11) 5, some 12, none, false⟩, ⟨.lod 13 12 (some 5), some 13, none, false⟩, ⟨.call 14 42 [.t 13], some 14, none, true⟩, ⟨.sto 4 (.t 14) (some 5), none, none, false⟩]
def r_impl_substituter_visit_3 : List GI := [⟨.lod 15 3 (some 5), some 15, none, false⟩, ⟨.sto 4 (.t 15) (some 5), none, none, false⟩]
def dc_impl_substituter_visit : DC := .seq (.reg r_impl_substituter_visit_0 none) (.seq (.seq (.reg r_impl_substituter_visit_1 none) (.cond (.t 7) (.seq (.reg r_impl_substituter_visit_2 none) .ret) .skip)) (.seq (.reg r_impl_substituter_visit_3 none) .ret))
theorem c_impl_substituter_visit : cfun Try.prog [] 98 = some (16, dc_impl_substituter_visit, [(Res.cell 4 (some 5))]) := by kernel_rfl
end
end Go.Proofs.Ytbojmjopkadnaaa
