/-
  Functions of the program read as code on plain data. Closed facts of the program alone.
-/
import Derived.Test.YtmdijgcaffpgiaaRows
import Derived.Test.YtmdijgcaffpgiaaVLib
import Derived.KernelRfl
namespace Go.Proofs.Ytmdijgcaffpgiaa
open Go.RowKit
noncomputable section
def r_laws_FnExactPlanWidth_0 : List GI := [⟨.box 2 2000002 (.t 0) (some 5), some 2, none, false⟩, ⟨.mov 4 (.k (.v (.bool false))), some 4, none, false⟩]
def r_laws_FnExactPlanWidth_1 : List GI := [⟨.mov 10 (.t 1), some 10, none, false⟩, ⟨.len 11 (.t 10), some 11, none, false⟩, ⟨.bin 12 .gtr (.t 11) (.k (.v (.int .i64 1048576))), some 12, none, false⟩]
def r_laws_FnExactPlanWidth_2 : List GI := [⟨.mov 4 (.k (.v (.bool true))), some 4, none, false⟩]
def r_laws_FnExactPlanWidth_3 : List GI := [⟨.mov 5 (.k (.v (.int .i64 1048576))), some 5, none, false⟩]
def r_laws_FnExactPlanWidth_4 : List GI := [⟨.lod 13 2 (some 5), some 13, none, false⟩, ⟨.mov 14 (.t 5), some 14, none, false⟩, ⟨.call 15 8 [.t 13, .t 14], some 15, none, true⟩, ⟨.mov 5 (.t 15), some 5, none, false⟩]
def r_laws_FnExactPlanWidth_5 : List GI := [⟨.mov 16 (.t 5), some 16, none, false⟩, ⟨.bin 17 .lss (.t 16) (.k (.v (.int .i64 0))), some 17, none, false⟩]
def r_laws_FnExactPlanWidth_6 : List GI := [⟨.mov 4 (.k (.v (.bool true))), some 4, none, false⟩]
def r_laws_FnExactPlanWidth_7 : List GI := [⟨.lod 18 2 (some 5), some 18, none, false⟩, ⟨.call 19 10 [.t 18], some 19, none, true⟩, ⟨.mov 20 (.t 1), some 20, none, false⟩, ⟨.call 21 11 [.t 20], some 21, none, true⟩, ⟨.call 22 9 [.t 19, .t 21], some 22, none, true⟩, ⟨.mov 6 (.t 22), some 6, none, false⟩]
def r_laws_FnExactPlanWidth_8 : List GI := [⟨.lod 23 2 (some 5), some 23, none, false⟩, ⟨.call 24 10 [.t 23], some 24, none, true⟩, ⟨.alloc 7 2000007 [.v (.int .i64 0), .v (.int .i64 0), .nul, .nul, .nul], some 7, none, false⟩, ⟨.sto 7 (.t 24) (some 5), none, none, false⟩]
def r_laws_FnExactPlanWidth_9 : List GI := [⟨.mov 25 (.t 1), some 25, none, false⟩, ⟨.call 26 11 [.t 25], some 26, none, true⟩, ⟨.mov 8 (.t 26), some 8, none, false⟩]
def r_laws_FnExactPlanWidth_10 : List GI := [⟨.lod 27 7 (some 5), some 27, none, false⟩, ⟨.mov 28 (.t 8), some 28, none, false⟩, ⟨.call 29 12 [.t 27, .t 28], some 29, none, true⟩, ⟨.mov 9 (.t 29), some 9, none, false⟩]
def r_laws_FnExactPlanWidth_11 : List GI := [⟨.mov 30 (.t 9), some 30, none, false⟩, ⟨.mov 31 (.t 6), some 31, none, false⟩, ⟨.bin 32 .neq (.t 30) (.t 31), some 32, none, false⟩]
def r_laws_FnExactPlanWidth_12 : List GI := [⟨.mov 4 (.k (.v (.bool false))), some 4, none, false⟩]
def r_laws_FnExactPlanWidth_13 : List GI := [⟨.lod 33 7 (some 5), some 33, none, false⟩, ⟨.lod 34 2 (some 5), some 34, none, false⟩, ⟨.call 35 10 [.t 34], some 35, none, true⟩, ⟨.call 36 13 [.t 33, .t 35], some 36, none, true⟩, ⟨.un 37 UnOp.not (.t 36), some 37, none, false⟩]
def r_laws_FnExactPlanWidth_14 : List GI := [⟨.mov 4 (.k (.v (.bool false))), some 4, none, false⟩]
def r_laws_FnExactPlanWidth_15 : List GI := [⟨.mov 38 (.t 8), some 38, none, false⟩, ⟨.mov 39 (.t 1), some 39, none, false⟩, ⟨.call 40 11 [.t 39], some 40, none, true⟩, ⟨.call 41 14 [.t 38, .t 40], some 41, none, true⟩, ⟨.un 42 UnOp.not (.t 41), some 42, none, false⟩]
def r_laws_FnExactPlanWidth_16 : List GI := [⟨.mov 4 (.k (.v (.bool false))), some 4, none, false⟩]
def r_laws_FnExactPlanWidth_17 : List GI := [⟨.mov 4 (.k (.v (.bool true))), some 4, none, false⟩]
def dc_laws_FnExactPlanWidth : DC := .seq (.reg r_laws_FnExactPlanWidth_0 none) (.seq (.seq (.reg r_laws_FnExactPlanWidth_1 none) (.cond (.t 12) (.seq (.reg r_laws_FnExactPlanWidth_2 none) .ret) .skip)) (.seq (.reg r_laws_FnExactPlanWidth_3 none) (.seq (.reg r_laws_FnExactPlanWidth_4 none) (.seq (.seq (.reg r_laws_FnExactPlanWidth_5 none) (.cond (.t 17) (.seq (.reg r_laws_FnExactPlanWidth_6 none) .ret) .skip)) (.seq (.reg r_laws_FnExactPlanWidth_7 none) (.seq (.reg r_laws_FnExactPlanWidth_8 none) (.seq (.reg r_laws_FnExactPlanWidth_9 none) (.seq (.reg r_laws_FnExactPlanWidth_10 none) (.seq (.seq (.reg r_laws_FnExactPlanWidth_11 none) (.cond (.t 32) (.seq (.reg r_laws_FnExactPlanWidth_12 none) .ret) .skip)) (.seq (.seq (.reg r_laws_FnExactPlanWidth_13 (some [0, 0, 2, 7, 15])) (.cond (.t 37) (.seq (.reg r_laws_FnExactPlanWidth_14 none) .ret) .skip)) (.seq (.seq (.reg r_laws_FnExactPlanWidth_15 none) (.cond (.t 42) (.seq (.reg r_laws_FnExactPlanWidth_16 none) .ret) .skip)) (.seq (.reg r_laws_FnExactPlanWidth_17 none) .ret))))))))))))
theorem c_laws_FnExactPlanWidth : cfun Try.prog [] 3 = some (43, dc_laws_FnExactPlanWidth, [(Res.tmp 4)]) := by kernel_rfl
def r_spec_PlanWidth_0 : List GI := [⟨.box 2 2000002 (.t 0) (some 5), some 2, none, false⟩, ⟨.mov 4 (.k (.v (.int .i64 0))), some 4, none, false⟩]
def r_spec_PlanWidth_1 : List GI := [⟨.lod 5 2 (some 5), some 5, none, false⟩, ⟨.mov 6 (.t 1), some 6, none, false⟩, ⟨.call 7 37 [.t 5, .t 6], some 7, none, true⟩, ⟨.mov 4 (.t 7), some 4, none, false⟩]
def dc_spec_PlanWidth : DC := .seq (.reg r_spec_PlanWidth_0 none) (.seq (.reg r_spec_PlanWidth_1 none) .ret)
theorem c_spec_PlanWidth : cfun Try.prog [] 9 = some (8, dc_spec_PlanWidth, [(Res.tmp 4)]) := by kernel_rfl
end
end Go.Proofs.Ytmdijgcaffpgiaa
