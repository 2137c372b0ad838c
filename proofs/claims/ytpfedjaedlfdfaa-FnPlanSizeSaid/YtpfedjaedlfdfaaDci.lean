/-
  Functions of the program read as code on plain data. Closed facts of the program alone.
-/
import Derived.Test.YtpfedjaedlfdfaaRows
import Derived.Test.YtpfedjaedlfdfaaVLib
import Derived.KernelRfl
namespace Go.Proofs.Ytpfedjaedlfdfaa
open Go.RowKit
noncomputable section
def r_impl_PlanSize_0 : List GI := [⟨.box 2 2000002 (.t 0) (some 5), some 2, none, false⟩, ⟨.mov 4 (.k (.v (.int .i64 0))), some 4, none, false⟩]
def r_impl_PlanSize_1 : List GI := [⟨.lod 5 2 (some 5), some 5, none, false⟩, ⟨.mov 6 (.t 1), some 6, none, false⟩, ⟨.call 7 13 [.t 5, .t 6], some 7, none, true⟩, ⟨.bin 8 .eql (.t 7) (.k (.v (.int .i64 0))), some 8, none, false⟩]
def r_impl_PlanSize_2 : List GI := [⟨.mov 4 (.k (.v (.int .i64 0))), some 4, none, false⟩]
def r_impl_PlanSize_3 : List GI := [⟨.lod 9 2 (some 5), some 9, none, false⟩, ⟨.call 10 32 [.t 9], some 10, none, true⟩, ⟨.mov 4 (.t 10), some 4, none, false⟩]
def dc_impl_PlanSize : DC := .seq (.reg r_impl_PlanSize_0 none) (.seq (.seq (.reg r_impl_PlanSize_1 none) (.cond (.t 8) (.seq (.reg r_impl_PlanSize_2 none) .ret) .skip)) (.seq (.reg r_impl_PlanSize_3 none) .ret))
theorem c_impl_PlanSize : cfun Try.prog [] 11 = some (11, dc_impl_PlanSize, [(Res.tmp 4)]) := by kernel_rfl
def r_impl_planSize_0 : List GI := [⟨.box 1 2000001 (.t 0) (some 5), some 1, none, false⟩, ⟨.mov 2 (.k (.v (.int .i64 0))), some 2, none, false⟩]
def r_impl_planSize_1 : List GI := [⟨.mov 3 (.k (.v (.int .i64 1))), some 3, none, false⟩]
def r_impl_planSize_2 : List GI := [⟨.fad 6 1 4, some 6, none, false⟩, ⟨.lod 7 6 none, some 7, none, false⟩, ⟨.len 8 (.t 7), some 8, none, false⟩, ⟨.mov 9 (.k (.v (.int .i64 0))), some 9, none, false⟩]
def r_impl_planSize_3 : List GI := [⟨.bin 10 .lss (.t 9) (.t 8), some 10, none, false⟩]
def r_impl_planSize_4 : List GI := [⟨.iad 11 7 (.t 9) 5, some 11, none, false⟩, ⟨.lod 12 11 (some 5), some 12, none, false⟩, ⟨.alloc 5 2000005 [.v (.int .i64 0), .v (.int .i64 0), .nul, .nul, .nul], some 5, none, false⟩, ⟨.sto 5 (.t 12) (some 5), none, none, false⟩]
def r_impl_planSize_5 : List GI := [⟨.mov 13 (.t 3), some 13, none, false⟩, ⟨.lod 14 5 (some 5), some 14, none, false⟩, ⟨.call 15 32 [.t 14], some 15, none, true⟩, ⟨.bin 16 .add (.t 13) (.t 15), some 16, none, false⟩, ⟨.mov 3 (.t 16), some 3, none, false⟩]
def r_impl_planSize_6 : List GI := [⟨.bin 17 .add (.t 9) (.k (.v (.int .i64 1))), some 17, none, false⟩, ⟨.mov 9 (.t 17), some 9, none, false⟩]
def r_impl_planSize_7 : List GI := [⟨.mov 18 (.t 3), some 18, none, false⟩, ⟨.mov 2 (.t 18), some 2, none, false⟩]
def dc_impl_planSize : DC := .seq (.reg r_impl_planSize_0 none) (.seq (.reg r_impl_planSize_1 none) (.seq (.seq (.reg r_impl_planSize_2 none) (.block 0 (.loop (.seq (.reg r_impl_planSize_3 none) (.seq (.cond (.t 10) .skip (.exit 0)) (.seq (.block 1 (.seq (.reg r_impl_planSize_4 none) (.reg r_impl_planSize_5 none))) (.reg r_impl_planSize_6 none))))))) (.seq (.reg r_impl_planSize_7 none) .ret)))
theorem c_impl_planSize : cfun Try.prog [] 32 = some (19, dc_impl_planSize, [(Res.tmp 2)]) := by kernel_rfl
def r_spec_PlanSize_0 : List GI := [⟨.box 2 2000002 (.t 0) (some 5), some 2, none, false⟩, ⟨.mov 4 (.k (.v (.int .i64 0))), some 4, none, false⟩]
def r_spec_PlanSize_1 : List GI := [⟨.lod 5 2 (some 5), some 5, none, false⟩, ⟨.mov 6 (.t 1), some 6, none, false⟩, ⟨.call 7 33 [.t 5, .t 6], some 7, none, true⟩, ⟨.bin 8 .eql (.t 7) (.k (.v (.int .i64 0))), some 8, none, false⟩]
def r_spec_PlanSize_2 : List GI := [⟨.mov 4 (.k (.v (.int .i64 0))), some 4, none, false⟩]
def r_spec_PlanSize_3 : List GI := [⟨.lod 9 2 (some 5), some 9, none, false⟩, ⟨.call 10 34 [.t 9], some 10, none, true⟩, ⟨.mov 4 (.t 10), some 4, none, false⟩]
def dc_spec_PlanSize : DC := .seq (.reg r_spec_PlanSize_0 none) (.seq (.seq (.reg r_spec_PlanSize_1 none) (.cond (.t 8) (.seq (.reg r_spec_PlanSize_2 none) .ret) .skip)) (.seq (.reg r_spec_PlanSize_3 none) .ret))
theorem c_spec_PlanSize : cfun Try.prog [] 12 = some (11, dc_spec_PlanSize, [(Res.tmp 4)]) := by kernel_rfl
def r_spec_planSize_0 : List GI := [⟨.box 1 2000001 (.t 0) (some 5), some 1, none, false⟩, ⟨.mov 2 (.k (.v (.int .i64 0))), some 2, none, false⟩]
def r_spec_planSize_1 : List GI := [⟨.mov 3 (.k (.v (.int .i64 1))), some 3, none, false⟩]
def r_spec_planSize_2 : List GI := [⟨.mov 4 (.k (.v (.int .i64 0))), some 4, none, false⟩]
def r_spec_planSize_3 : List GI := [⟨.mov 5 (.t 4), some 5, none, false⟩, ⟨.fad 6 1 4, some 6, none, false⟩, ⟨.lod 7 6 none, some 7, none, false⟩, ⟨.len 8 (.t 7), some 8, none, false⟩, ⟨.bin 9 .lss (.t 5) (.t 8), some 9, none, false⟩]
def r_spec_planSize_4 : List GI := [⟨.mov 12 (.t 3), some 12, none, false⟩, ⟨.fad 13 1 4, some 13, none, false⟩, ⟨.lod 14 13 none, some 14, none, false⟩, ⟨.mov 15 (.t 4), some 15, none, false⟩, ⟨.iad 16 14 (.t 15) 5, some 16, none, false⟩, ⟨.lod 17 16 (some 5), some 17, none, false⟩, ⟨.call 18 34 [.t 17], some 18, none, true⟩, ⟨.bin 19 .add (.t 12) (.t 18), some 19, none, false⟩, ⟨.mov 3 (.t 19), some 3, none, false⟩]
def r_spec_planSize_5 : List GI := [⟨.mov 10 (.t 4), some 10, none, false⟩, ⟨.bin 11 .add (.t 10) (.k (.v (.int .i64 1))), some 11, none, false⟩, ⟨.mov 4 (.t 11), some 4, none, false⟩]
def r_spec_planSize_6 : List GI := [⟨.mov 20 (.t 3), some 20, none, false⟩, ⟨.mov 2 (.t 20), some 2, none, false⟩]
def dc_spec_planSize : DC := .seq (.reg r_spec_planSize_0 none) (.seq (.reg r_spec_planSize_1 none) (.seq (.seq (.reg r_spec_planSize_2 none) (.block 0 (.loop (.seq (.seq (.reg r_spec_planSize_3 none) (.cond (.t 9) .skip (.exit 0))) (.seq (.block 1 (.reg r_spec_planSize_4 none)) (.reg r_spec_planSize_5 none)))))) (.seq (.reg r_spec_planSize_6 none) .ret)))
theorem c_spec_planSize : cfun Try.prog [] 34 = some (21, dc_spec_planSize, [(Res.tmp 2)]) := by kernel_rfl
def r_impl_TablesOf_0 : List GI := [⟨.box 2 2000002 (.t 0) (some 5), some 2, none, false⟩, ⟨.mov 4 (.k .nul), some 4, none, false⟩]
def r_impl_TablesOf_1 : List GI := [⟨.lod 7 2 (some 5), some 7, none, false⟩, ⟨.mov 8 (.t 1), some 8, none, false⟩, ⟨.call 9 13 [.t 7, .t 8], some 9, none, true⟩, ⟨.bin 10 .eql (.t 9) (.k (.v (.int .i64 0))), some 10, none, false⟩]
def r_impl_TablesOf_2 : List GI := [⟨.mov 4 (.k .nul), some 4, none, false⟩]
def r_impl_TablesOf_3 : List GI := [⟨.mov 5 (.k .nul), some 5, none, false⟩]
def r_impl_TablesOf_4 : List GI := [⟨.mov 11 (.t 1), some 11, none, false⟩, ⟨.len 12 (.t 11), some 12, none, false⟩, ⟨.mov 13 (.k (.v (.int .i64 0))), some 13, none, false⟩]
def r_impl_TablesOf_5 : List GI := [⟨.bin 14 .lss (.t 13) (.t 12), some 14, none, false⟩]
def r_impl_TablesOf_6 : List GI := [⟨.mov 15 (.t 13), some 15, none, false⟩, ⟨.mov 6 (.t 15), some 6, none, false⟩]
def r_impl_TablesOf_7 : List GI := [⟨.lod 16 2 (some 5), some 16, none, false⟩, ⟨.mov 17 (.t 6), some 17, none, false⟩, ⟨.call 18 37 [.t 16, .t 17], some 18, none, true⟩]
def r_impl_TablesOf_8 : List GI := [⟨.mov 19 (.t 5), some 19, none, false⟩, ⟨.mov 20 (.t 6), some 20, none, false⟩, ⟨.bsl 21 1 none [.v (.int .i64 0)] [(0, .t 20)], some 21, none, false⟩, ⟨.app 22 2000022 (.t 19) (.t 21) 1 8, some 22, none, false⟩, ⟨.mov 5 (.t 22), some 5, none, false⟩]
def r_impl_TablesOf_9 : List GI := [⟨.bin 23 .add (.t 13) (.k (.v (.int .i64 1))), some 23, none, false⟩, ⟨.mov 13 (.t 23), some 13, none, false⟩]
def r_impl_TablesOf_10 : List GI := [⟨.mov 24 (.t 5), some 24, none, false⟩, ⟨.mov 4 (.t 24), some 4, none, false⟩]
def dc_impl_TablesOf : DC := .seq (.reg r_impl_TablesOf_0 none) (.seq (.seq (.reg r_impl_TablesOf_1 none) (.cond (.t 10) (.seq (.reg r_impl_TablesOf_2 none) .ret) .skip)) (.seq (.reg r_impl_TablesOf_3 none) (.seq (.seq (.reg r_impl_TablesOf_4 none) (.block 0 (.loop (.seq (.reg r_impl_TablesOf_5 none) (.seq (.cond (.t 14) .skip (.exit 0)) (.seq (.block 1 (.seq (.reg r_impl_TablesOf_6 none) (.seq (.reg r_impl_TablesOf_7 none) (.cond (.t 18) (.reg r_impl_TablesOf_8 none) .skip)))) (.reg r_impl_TablesOf_9 none))))))) (.seq (.reg r_impl_TablesOf_10 none) .ret))))
theorem c_impl_TablesOf : cfun Try.prog [] 14 = some (25, dc_impl_TablesOf, [(Res.tmp 4)]) := by kernel_rfl
def r_impl_scans_0 : List GI := [⟨.box 2 2000002 (.t 0) (some 5), some 2, none, false⟩, ⟨.box 3 2000003 (.t 1) none, some 3, none, false⟩, ⟨.mov 4 (.k (.v (.bool false))), some 4, none, false⟩]
def r_impl_scans_1 : List GI := [⟨.fad 5 2 0, some 5, none, false⟩, ⟨.lod 6 5 none, some 6, none, false⟩, ⟨.bin 7 .eql (.t 6) (.k (.v (.int .i64 1))), some 7, none, false⟩]
def r_impl_scans_2 : List GI := [⟨.fad 8 2 1, some 8, none, false⟩, ⟨.lod 9 8 none, some 9, none, false⟩, ⟨.lod 10 3 none, some 10, none, false⟩, ⟨.bin 11 .eql (.t 9) (.t 10), some 11, none, false⟩, ⟨.mov 4 (.t 11), some 4, none, false⟩]
def r_impl_scans_3 : List GI := [⟨.fad 12 2 4, some 12, none, false⟩, ⟨.lod 13 12 none, some 13, none, false⟩, ⟨.mkf 14 60 [.t 3], some 14, none, false⟩, ⟨.call 15 59 [.t 13, .t 14], some 15, none, true⟩, ⟨.mov 4 (.t 15), some 4, none, false⟩]
def dc_impl_scans : DC := .seq (.reg r_impl_scans_0 none) (.seq (.seq (.reg r_impl_scans_1 none) (.cond (.t 7) (.seq (.reg r_impl_scans_2 none) .ret) .skip)) (.seq (.reg r_impl_scans_3 none) .ret))
theorem c_impl_scans : cfun Try.prog [] 37 = some (16, dc_impl_scans, [(Res.tmp 4)]) := by kernel_rfl
def r_impl_scans_1_0 : List GI := [⟨.box 2 2000002 (.t 0) (some 5), some 2, none, false⟩, ⟨.mov 3 (.k (.v (.bool false))), some 3, none, false⟩]
def r_impl_scans_1_1 : List GI := [⟨.lod 4 2 (some 5), some 4, none, false⟩, ⟨.lod 5 1 none, some 5, none, false⟩, ⟨.call 6 37 [.t 4, .t 5], some 6, none, true⟩, ⟨.mov 3 (.t 6), some 3, none, false⟩]
def dc_impl_scans_1 : DC := .seq (.reg r_impl_scans_1_0 none) (.seq (.reg r_impl_scans_1_1 none) .ret)
theorem c_impl_scans_1 : cfun Try.prog [] 60 = some (7, dc_impl_scans_1, [(Res.tmp 3)]) := by kernel_rfl
def r_slices_ContainsFunc___loop_example_queryoptimizer_impl_Plan_loop_example_queryoptimizer_impl_Plan__0 : List GI := [⟨.mov 4 (.k (.v (.bool false))), some 4, none, false⟩]
def r_slices_ContainsFunc___loop_example_queryoptimizer_impl_Plan_loop_example_queryoptimizer_impl_Plan__1 : List GI := [⟨.mov 5 (.t 0), some 5, none, false⟩, ⟨.mov 6 (.t 1), some 6, none, false⟩, ⟨.call 7 88 [.t 5, .t 6], some 7, none, true⟩, ⟨.bin 8 .geq (.t 7) (.k (.v (.int .i64 0))), some 8, none, false⟩, ⟨.mov 4 (.t 8), some 4, none, false⟩]
def dc_slices_ContainsFunc___loop_example_queryoptimizer_impl_Plan_loop_example_queryoptimizer_impl_Plan_ : DC := .seq (.reg r_slices_ContainsFunc___loop_example_queryoptimizer_impl_Plan_loop_example_queryoptimizer_impl_Plan__0 none) (.seq (.reg r_slices_ContainsFunc___loop_example_queryoptimizer_impl_Plan_loop_example_queryoptimizer_impl_Plan__1 none) .ret)
theorem c_slices_ContainsFunc___loop_example_queryoptimizer_impl_Plan_loop_example_queryoptimizer_impl_Plan_ : cfun Try.prog [] 59 = some (9, dc_slices_ContainsFunc___loop_example_queryoptimizer_impl_Plan_loop_example_queryoptimizer_impl_Plan_, [(Res.tmp 4)]) := by kernel_rfl
def r_slices_IndexFunc___loop_example_queryoptimizer_impl_Plan_loop_example_queryoptimizer_impl_Plan__0 : List GI := [⟨.mov 4 (.k (.v (.int .i64 0))), some 4, none, false⟩]
def r_slices_IndexFunc___loop_example_queryoptimizer_impl_Plan_loop_example_queryoptimizer_impl_Plan__1 : List GI := [⟨.mov 6 (.t 0), some 6, none, false⟩, ⟨.len 7 (.t 6), some 7, none, false⟩, ⟨.mov 8 (.k (.v (.int .i64 0))), some 8, none, false⟩]
def r_slices_IndexFunc___loop_example_queryoptimizer_impl_Plan_loop_example_queryoptimizer_impl_Plan__2 : List GI := [⟨.bin 9 .lss (.t 8) (.t 7), some 9, none, false⟩]
def r_slices_IndexFunc___loop_example_queryoptimizer_impl_Plan_loop_example_queryoptimizer_impl_Plan__3 : List GI := [⟨.mov 10 (.t 8), some 10, none, false⟩, ⟨.mov 5 (.t 10), some 5, none, false⟩]
def r_slices_IndexFunc___loop_example_queryoptimizer_impl_Plan_loop_example_queryoptimizer_impl_Plan__4 : List GI := [⟨.mov 11 (.t 1), some 11, none, false⟩, ⟨.mov 12 (.t 0), some 12, none, false⟩, ⟨.mov 13 (.t 5), some 13, none, false⟩, ⟨.iad 14 12 (.t 13) 5, some 14, none, false⟩, ⟨.lod 15 14 (some 5), some 15, none, false⟩, ⟨.cal 16 (.t 11) [.t 15], some 16, none, true⟩]
def r_slices_IndexFunc___loop_example_queryoptimizer_impl_Plan_loop_example_queryoptimizer_impl_Plan__5 : List GI := [⟨.mov 17 (.t 5), some 17, none, false⟩, ⟨.mov 4 (.t 17), some 4, none, false⟩]
def r_slices_IndexFunc___loop_example_queryoptimizer_impl_Plan_loop_example_queryoptimizer_impl_Plan__6 : List GI := [⟨.bin 18 .add (.t 8) (.k (.v (.int .i64 1))), some 18, none, false⟩, ⟨.mov 8 (.t 18), some 8, none, false⟩]
def r_slices_IndexFunc___loop_example_queryoptimizer_impl_Plan_loop_example_queryoptimizer_impl_Plan__7 : List GI := [⟨.mov 4 (.k (.v (.int .i64 (-1)))), some 4, none, false⟩]
def dc_slices_IndexFunc___loop_example_queryoptimizer_impl_Plan_loop_example_queryoptimizer_impl_Plan_ : DC := .seq (.reg r_slices_IndexFunc___loop_example_queryoptimizer_impl_Plan_loop_example_queryoptimizer_impl_Plan__0 none) (.seq (.seq (.reg r_slices_IndexFunc___loop_example_queryoptimizer_impl_Plan_loop_example_queryoptimizer_impl_Plan__1 none) (.block 0 (.loop (.seq (.reg r_slices_IndexFunc___loop_example_queryoptimizer_impl_Plan_loop_example_queryoptimizer_impl_Plan__2 none) (.seq (.cond (.t 9) .skip (.exit 0)) (.seq (.block 1 (.seq (.reg r_slices_IndexFunc___loop_example_queryoptimizer_impl_Plan_loop_example_queryoptimizer_impl_Plan__3 none) (.seq (.reg r_slices_IndexFunc___loop_example_queryoptimizer_impl_Plan_loop_example_queryoptimizer_impl_Plan__4 none) (.cond (.t 16) (.seq (.reg r_slices_IndexFunc___loop_example_queryoptimizer_impl_Plan_loop_example_queryoptimizer_impl_Plan__5 none) .ret) .skip)))) (.reg r_slices_IndexFunc___loop_example_queryoptimizer_impl_Plan_loop_example_queryoptimizer_impl_Plan__6 none))))))) (.seq (.reg r_slices_IndexFunc___loop_example_queryoptimizer_impl_Plan_loop_example_queryoptimizer_impl_Plan__7 none) .ret))
theorem c_slices_IndexFunc___loop_example_queryoptimizer_impl_Plan_loop_example_queryoptimizer_impl_Plan_ : cfun Try.prog [] 88 = some (19, dc_slices_IndexFunc___loop_example_queryoptimizer_impl_Plan_loop_example_queryoptimizer_impl_Plan_, [(Res.tmp 4)]) := by kernel_rfl
end
end Go.Proofs.Ytpfedjaedlfdfaa
