/-
  Functions of the program read as code on plain data. Closed facts of the program alone.
-/
import Derived.Test.YtmdijgcaffpgiaaRows
import Derived.Test.YtmdijgcaffpgiaaVLib
import Derived.KernelRfl
namespace Go.Proofs.Ytmdijgcaffpgiaa
open Go.RowKit
noncomputable section
def r_impl_PlanSize_0 : List GI := [⟨.box 2 2000002 (.t 0) (some 5), some 2, none, false⟩, ⟨.mov 4 (.k (.v (.int .i64 0))), some 4, none, false⟩]
def r_impl_PlanSize_1 : List GI := [⟨.lod 5 2 (some 5), some 5, none, false⟩, ⟨.mov 6 (.t 1), some 6, none, false⟩, ⟨.call 7 12 [.t 5, .t 6], some 7, none, true⟩, ⟨.bin 8 .eql (.t 7) (.k (.v (.int .i64 0))), some 8, none, false⟩]
def r_impl_PlanSize_2 : List GI := [⟨.mov 4 (.k (.v (.int .i64 0))), some 4, none, false⟩]
def r_impl_PlanSize_3 : List GI := [⟨.lod 9 2 (some 5), some 9, none, false⟩, ⟨.call 10 43 [.t 9], some 10, none, true⟩, ⟨.mov 4 (.t 10), some 4, none, false⟩]
def dc_impl_PlanSize : DC := .seq (.reg r_impl_PlanSize_0 none) (.seq (.seq (.reg r_impl_PlanSize_1 none) (.cond (.t 8) (.seq (.reg r_impl_PlanSize_2 none) .ret) .skip)) (.seq (.reg r_impl_PlanSize_3 none) .ret))
theorem c_impl_PlanSize : cfun Try.prog [] 16 = some (11, dc_impl_PlanSize, [(Res.tmp 4)]) := by kernel_rfl
def r_impl_planSize_0 : List GI := [⟨.box 1 2000001 (.t 0) (some 5), some 1, none, false⟩, ⟨.mov 2 (.k (.v (.int .i64 0))), some 2, none, false⟩]
def r_impl_planSize_1 : List GI := [⟨.mov 3 (.k (.v (.int .i64 1))), some 3, none, false⟩]
def r_impl_planSize_2 : List GI := [⟨.fad 6 1 4, some 6, none, false⟩, ⟨.lod 7 6 none, some 7, none, false⟩, ⟨.len 8 (.t 7), some 8, none, false⟩, ⟨.mov 9 (.k (.v (.int .i64 0))), some 9, none, false⟩]
def r_impl_planSize_3 : List GI := [⟨.bin 10 .lss (.t 9) (.t 8), some 10, none, false⟩]
def r_impl_planSize_4 : List GI := [⟨.iad 11 7 (.t 9) 5, some 11, none, false⟩, ⟨.lod 12 11 (some 5), some 12, none, false⟩, ⟨.alloc 5 2000005 [.v (.int .i64 0), .v (.int .i64 0), .nul, .nul, .nul], some 5, none, false⟩, ⟨.sto 5 (.t 12) (some 5), none, none, false⟩]
def r_impl_planSize_5 : List GI := [⟨.mov 13 (.t 3), some 13, none, false⟩, ⟨.lod 14 5 (some 5), some 14, none, false⟩, ⟨.call 15 43 [.t 14], some 15, none, true⟩, ⟨.bin 16 .add (.t 13) (.t 15), some 16, none, false⟩, ⟨.mov 3 (.t 16), some 3, none, false⟩]
def r_impl_planSize_6 : List GI := [⟨.bin 17 .add (.t 9) (.k (.v (.int .i64 1))), some 17, none, false⟩, ⟨.mov 9 (.t 17), some 9, none, false⟩]
def r_impl_planSize_7 : List GI := [⟨.mov 18 (.t 3), some 18, none, false⟩, ⟨.mov 2 (.t 18), some 2, none, false⟩]
def dc_impl_planSize : DC := .seq (.reg r_impl_planSize_0 none) (.seq (.reg r_impl_planSize_1 none) (.seq (.seq (.reg r_impl_planSize_2 none) (.block 0 (.loop (.seq (.reg r_impl_planSize_3 none) (.seq (.cond (.t 10) .skip (.exit 0)) (.seq (.block 1 (.seq (.reg r_impl_planSize_4 none) (.reg r_impl_planSize_5 none))) (.reg r_impl_planSize_6 none))))))) (.seq (.reg r_impl_planSize_7 none) .ret)))
theorem c_impl_planSize : cfun Try.prog [] 43 = some (19, dc_impl_planSize, [(Res.tmp 2)]) := by kernel_rfl
def r_laws_FnExactPlanSize_0 : List GI := [⟨.box 2 2000002 (.t 0) (some 5), some 2, none, false⟩, ⟨.mov 4 (.k (.v (.bool false))), some 4, none, false⟩]
def r_laws_FnExactPlanSize_1 : List GI := [⟨.mov 10 (.t 1), some 10, none, false⟩, ⟨.len 11 (.t 10), some 11, none, false⟩, ⟨.bin 12 .gtr (.t 11) (.k (.v (.int .i64 1048576))), some 12, none, false⟩]
def r_laws_FnExactPlanSize_2 : List GI := [⟨.mov 4 (.k (.v (.bool true))), some 4, none, false⟩]
def r_laws_FnExactPlanSize_3 : List GI := [⟨.mov 5 (.k (.v (.int .i64 1048576))), some 5, none, false⟩]
def r_laws_FnExactPlanSize_4 : List GI := [⟨.lod 13 2 (some 5), some 13, none, false⟩, ⟨.mov 14 (.t 5), some 14, none, false⟩, ⟨.call 15 8 [.t 13, .t 14], some 15, none, true⟩, ⟨.mov 5 (.t 15), some 5, none, false⟩]
def r_laws_FnExactPlanSize_5 : List GI := [⟨.mov 16 (.t 5), some 16, none, false⟩, ⟨.bin 17 .lss (.t 16) (.k (.v (.int .i64 0))), some 17, none, false⟩]
def r_laws_FnExactPlanSize_6 : List GI := [⟨.mov 4 (.k (.v (.bool true))), some 4, none, false⟩]
def r_laws_FnExactPlanSize_7 : List GI := [⟨.lod 18 2 (some 5), some 18, none, false⟩, ⟨.call 19 10 [.t 18], some 19, none, true⟩, ⟨.mov 20 (.t 1), some 20, none, false⟩, ⟨.call 21 11 [.t 20], some 21, none, true⟩, ⟨.call 22 15 [.t 19, .t 21], some 22, none, true⟩, ⟨.mov 6 (.t 22), some 6, none, false⟩]
def r_laws_FnExactPlanSize_8 : List GI := [⟨.lod 23 2 (some 5), some 23, none, false⟩, ⟨.call 24 10 [.t 23], some 24, none, true⟩, ⟨.alloc 7 2000007 [.v (.int .i64 0), .v (.int .i64 0), .nul, .nul, .nul], some 7, none, false⟩, ⟨.sto 7 (.t 24) (some 5), none, none, false⟩]
def r_laws_FnExactPlanSize_9 : List GI := [⟨.mov 25 (.t 1), some 25, none, false⟩, ⟨.call 26 11 [.t 25], some 26, none, true⟩, ⟨.mov 8 (.t 26), some 8, none, false⟩]
def r_laws_FnExactPlanSize_10 : List GI := [⟨.lod 27 7 (some 5), some 27, none, false⟩, ⟨.mov 28 (.t 8), some 28, none, false⟩, ⟨.call 29 16 [.t 27, .t 28], some 29, none, true⟩, ⟨.mov 9 (.t 29), some 9, none, false⟩]
def r_laws_FnExactPlanSize_11 : List GI := [⟨.mov 30 (.t 9), some 30, none, false⟩, ⟨.mov 31 (.t 6), some 31, none, false⟩, ⟨.bin 32 .neq (.t 30) (.t 31), some 32, none, false⟩]
def r_laws_FnExactPlanSize_12 : List GI := [⟨.mov 4 (.k (.v (.bool false))), some 4, none, false⟩]
def r_laws_FnExactPlanSize_13 : List GI := [⟨.lod 33 7 (some 5), some 33, none, false⟩, ⟨.lod 34 2 (some 5), some 34, none, false⟩, ⟨.call 35 10 [.t 34], some 35, none, true⟩, ⟨.call 36 13 [.t 33, .t 35], some 36, none, true⟩, ⟨.un 37 UnOp.not (.t 36), some 37, none, false⟩]
def r_laws_FnExactPlanSize_14 : List GI := [⟨.mov 4 (.k (.v (.bool false))), some 4, none, false⟩]
def r_laws_FnExactPlanSize_15 : List GI := [⟨.mov 38 (.t 8), some 38, none, false⟩, ⟨.mov 39 (.t 1), some 39, none, false⟩, ⟨.call 40 11 [.t 39], some 40, none, true⟩, ⟨.call 41 14 [.t 38, .t 40], some 41, none, true⟩, ⟨.un 42 UnOp.not (.t 41), some 42, none, false⟩]
def r_laws_FnExactPlanSize_16 : List GI := [⟨.mov 4 (.k (.v (.bool false))), some 4, none, false⟩]
def r_laws_FnExactPlanSize_17 : List GI := [⟨.mov 4 (.k (.v (.bool true))), some 4, none, false⟩]
def dc_laws_FnExactPlanSize : DC := .seq (.reg r_laws_FnExactPlanSize_0 none) (.seq (.seq (.reg r_laws_FnExactPlanSize_1 none) (.cond (.t 12) (.seq (.reg r_laws_FnExactPlanSize_2 none) .ret) .skip)) (.seq (.reg r_laws_FnExactPlanSize_3 none) (.seq (.reg r_laws_FnExactPlanSize_4 none) (.seq (.seq (.reg r_laws_FnExactPlanSize_5 none) (.cond (.t 17) (.seq (.reg r_laws_FnExactPlanSize_6 none) .ret) .skip)) (.seq (.reg r_laws_FnExactPlanSize_7 none) (.seq (.reg r_laws_FnExactPlanSize_8 none) (.seq (.reg r_laws_FnExactPlanSize_9 none) (.seq (.reg r_laws_FnExactPlanSize_10 none) (.seq (.seq (.reg r_laws_FnExactPlanSize_11 none) (.cond (.t 32) (.seq (.reg r_laws_FnExactPlanSize_12 none) .ret) .skip)) (.seq (.seq (.reg r_laws_FnExactPlanSize_13 (some [0, 0, 2, 7, 15])) (.cond (.t 37) (.seq (.reg r_laws_FnExactPlanSize_14 none) .ret) .skip)) (.seq (.seq (.reg r_laws_FnExactPlanSize_15 none) (.cond (.t 42) (.seq (.reg r_laws_FnExactPlanSize_16 none) .ret) .skip)) (.seq (.reg r_laws_FnExactPlanSize_17 none) .ret))))))))))))
theorem c_laws_FnExactPlanSize : cfun Try.prog [] 4 = some (43, dc_laws_FnExactPlanSize, [(Res.tmp 4)]) := by kernel_rfl
def r_spec_PlanSize_0 : List GI := [⟨.box 2 2000002 (.t 0) (some 5), some 2, none, false⟩, ⟨.mov 4 (.k (.v (.int .i64 0))), some 4, none, false⟩]
def r_spec_PlanSize_1 : List GI := [⟨.lod 5 2 (some 5), some 5, none, false⟩, ⟨.mov 6 (.t 1), some 6, none, false⟩, ⟨.call 7 37 [.t 5, .t 6], some 7, none, true⟩, ⟨.bin 8 .eql (.t 7) (.k (.v (.int .i64 0))), some 8, none, false⟩]
def r_spec_PlanSize_2 : List GI := [⟨.mov 4 (.k (.v (.int .i64 0))), some 4, none, false⟩]
def r_spec_PlanSize_3 : List GI := [⟨.lod 9 2 (some 5), some 9, none, false⟩, ⟨.call 10 42 [.t 9], some 10, none, true⟩, ⟨.mov 4 (.t 10), some 4, none, false⟩]
def dc_spec_PlanSize : DC := .seq (.reg r_spec_PlanSize_0 none) (.seq (.seq (.reg r_spec_PlanSize_1 none) (.cond (.t 8) (.seq (.reg r_spec_PlanSize_2 none) .ret) .skip)) (.seq (.reg r_spec_PlanSize_3 none) .ret))
theorem c_spec_PlanSize : cfun Try.prog [] 15 = some (11, dc_spec_PlanSize, [(Res.tmp 4)]) := by kernel_rfl
def r_spec_planSize_0 : List GI := [⟨.box 1 2000001 (.t 0) (some 5), some 1, none, false⟩, ⟨.mov 2 (.k (.v (.int .i64 0))), some 2, none, false⟩]
def r_spec_planSize_1 : List GI := [⟨.mov 3 (.k (.v (.int .i64 1))), some 3, none, false⟩]
def r_spec_planSize_2 : List GI := [⟨.mov 4 (.k (.v (.int .i64 0))), some 4, none, false⟩]
def r_spec_planSize_3 : List GI := [⟨.mov 5 (.t 4), some 5, none, false⟩, ⟨.fad 6 1 4, some 6, none, false⟩, ⟨.lod 7 6 none, some 7, none, false⟩, ⟨.len 8 (.t 7), some 8, none, false⟩, ⟨.bin 9 .lss (.t 5) (.t 8), some 9, none, false⟩]
def r_spec_planSize_4 : List GI := [⟨.mov 12 (.t 3), some 12, none, false⟩, ⟨.fad 13 1 4, some 13, none, false⟩, ⟨.lod 14 13 none, some 14, none, false⟩, ⟨.mov 15 (.t 4), some 15, none, false⟩, ⟨.iad 16 14 (.t 15) 5, some 16, none, false⟩, ⟨.lod 17 16 (some 5), some 17, none, false⟩, ⟨.call 18 42 [.t 17], some 18, none, true⟩, ⟨.bin 19 .add (.t 12) (.t 18), some 19, none, false⟩, ⟨.mov 3 (.t 19), some 3, none, false⟩]
def r_spec_planSize_5 : List GI := [⟨.mov 10 (.t 4), some 10, none, false⟩, ⟨.bin 11 .add (.t 10) (.k (.v (.int .i64 1))), some 11, none, false⟩, ⟨.mov 4 (.t 11), some 4, none, false⟩]
def r_spec_planSize_6 : List GI := [⟨.mov 20 (.t 3), some 20, none, false⟩, ⟨.mov 2 (.t 20), some 2, none, false⟩]
def dc_spec_planSize : DC := .seq (.reg r_spec_planSize_0 none) (.seq (.reg r_spec_planSize_1 none) (.seq (.seq (.reg r_spec_planSize_2 none) (.block 0 (.loop (.seq (.seq (.reg r_spec_planSize_3 none) (.cond (.t 9) .skip (.exit 0))) (.seq (.block 1 (.reg r_spec_planSize_4 none)) (.reg r_spec_planSize_5 none)))))) (.seq (.reg r_spec_planSize_6 none) .ret)))
theorem c_spec_planSize : cfun Try.prog [] 42 = some (21, dc_spec_planSize, [(Res.tmp 2)]) := by kernel_rfl
end
end Go.Proofs.Ytmdijgcaffpgiaa
