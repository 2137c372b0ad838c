/-
  Functions of the program read as code on plain data. Closed facts of the program alone.
-/
import Derived.KernelRfl
import Derived.Test.YtpfedjaedlfdfaaRows
import Derived.Test.YtpfedjaedlfdfaaJSVCall
namespace Go.Proofs.Ytpfedjaedlfdfaa
open Go.RowKit
noncomputable section
def r_impl_PlanWidth_0 : List GI := [gi 2 (.box 2 2000002 (.t 0) (some 5)), gi 4 (.mov 4 (.k (.v (.int .i64 0))))]
def r_impl_PlanWidth_1 : List GI := [gi 5 (.mov 5 (.t 1)), ⟨.call 6 35 [.t 5], some 6, none, true⟩, gi 7 (.un 7 UnOp.not (.t 6))]
def r_impl_PlanWidth_2 : List GI := [gi 4 (.mov 4 (.k (.v (.int .i64 0))))]
def r_impl_PlanWidth_3 : List GI := [gi 8 (.lod 8 2 (some 5)), gi 9 (.mov 9 (.t 1)), ⟨.call 10 36 [.t 8, .t 9, .k (.v (.int .i64 8))], some 10, none, true⟩, gi 4 (.mov 4 (.t 10))]
def dc_impl_PlanWidth : DC := .seq (.reg r_impl_PlanWidth_0 none) (.seq (.seq (.reg r_impl_PlanWidth_1 none) (.cond (.t 7) (.seq (.reg r_impl_PlanWidth_2 none) .ret) .skip)) (.seq (.reg r_impl_PlanWidth_3 none) .ret))
theorem c_impl_PlanWidth : cfun Try.prog [] 13 = some (11, dc_impl_PlanWidth, [(Res.tmp 4)]) := by kernel_rfl
def r_spec_widthOf_0 : List GI := [gi 2 (.box 2 2000002 (.t 0) (some 5)), gi 4 (.mov 4 (.k (.v (.int .i64 0))))]
def r_spec_widthOf_1 : List GI := [gi 5 (.mov 5 (.t 1)), ⟨.call 6 53 [.t 5], some 6, none, true⟩, gi 7 (.un 7 UnOp.not (.t 6))]
def r_spec_widthOf_2 : List GI := [gi 4 (.mov 4 (.k (.v (.int .i64 0))))]
def r_spec_widthOf_3 : List GI := [gi 8 (.lod 8 2 (some 5)), gi 9 (.mov 9 (.t 1)), ⟨.call 10 54 [.t 8, .t 9, .k (.v (.int .i64 8))], some 10, none, true⟩, gi 4 (.mov 4 (.t 10))]
def dc_spec_widthOf : DC := .seq (.reg r_spec_widthOf_0 none) (.seq (.seq (.reg r_spec_widthOf_1 none) (.cond (.t 7) (.seq (.reg r_spec_widthOf_2 none) .ret) .skip)) (.seq (.reg r_spec_widthOf_3 none) .ret))
theorem c_spec_widthOf : cfun Try.prog [] 33 = some (11, dc_spec_widthOf, [(Res.tmp 4)]) := by kernel_rfl
end
end Go.Proofs.Ytpfedjaedlfdfaa
namespace Go.Proofs.Ytpfedjaedlfdfaa
open Go.RowKit
noncomputable section
def r_laws_FnEstimateScan_0 : List GI := [gi 2 (.mov 2 (.k (.v (.bool false))))]
def r_laws_FnEstimateScan_1 : List GI := [gi 7 (.mov 7 (.t 0)), gi 8 (.len 8 (.t 7)), gi 9 (.bin 9 .gtr (.t 8) (.k (.v (.int .i64 1048576))))]
def r_laws_FnEstimateScan_2 : List GI := [gi 2 (.mov 2 (.k (.v (.bool true))))]
def r_laws_FnEstimateScan_3 : List GI := [gi 11 (.mov 11 (.t 0)), ⟨.call 12 18 [.t 11], some 12, none, true⟩, gi 10 (.mov 10 (.t 12)), gi 13 (.ext 13 10 0), gi 14 (.ext 14 10 1), gi 3 (.alloc 3 2000003 [.v (.int .i64 0), .v (.int .i64 0), .nul, .nul, .nul]), g0 (.sto 3 (.t 13) (some 5)), gi 4 (.mov 4 (.t 14))]
def r_laws_FnEstimateScan_4 : List GI := [gi 15 (.lod 15 3 (some 5)), gi 16 (.mov 16 (.t 4)), ⟨.call 17 19 [.t 15, .t 16], some 17, none, true⟩, gi 5 (.mov 5 (.t 17))]
def r_laws_FnEstimateScan_5 : List GI := [gi 18 (.mov 18 (.t 5)), gi 19 (.lod 19 3 (some 5)), gi 20 (.mov 20 (.t 4)), ⟨.call 21 20 [.t 19, .t 20], some 21, none, true⟩, gi 22 (.bin 22 .neq (.t 18) (.t 21)), gi 23 (.mov 23 (.t 22)), ⟨.mov 24 (.t 5), some 24, some (23, false), false⟩, ⟨.bin 25 .lss (.t 24) (.k (.v (.int .i64 0))), some 25, some (23, false), false⟩, gi 26 (.pick 26 (.t 23) (.k (.v (.bool true))) (.t 25))]
def r_laws_FnEstimateScan_6 : List GI := [gi 27 (.mov 27 (.t 5)), gi 28 (.lod 28 3 (some 5)), gi 29 (.mov 29 (.t 4)), ⟨.call 30 20 [.t 28, .t 29], some 30, none, true⟩, gi 31 (.bin 31 .eql (.t 27) (.t 30)), gi 2 (.mov 2 (.t 31))]
def r_laws_FnEstimateScan_7 : List GI := [gi 32 (.build 32 [.v (.int .i64 0), .v (.int .i64 0), .nul, .nul, .nul] [(0, (none, .k (.v (.int .i64 1))))]), gi 6 (.alloc 6 2000006 [.v (.int .i64 0), .v (.int .i64 0), .nul, .nul, .nul]), g0 (.sto 6 (.t 32) (some 5))]
def r_laws_FnEstimateScan_8 : List GI := [gi 33 (.lod 33 6 (some 5)), gi 34 (.mov 34 (.t 4)), ⟨.call 35 19 [.t 33, .t 34], some 35, none, true⟩, gi 36 (.mov 36 (.t 4)), gi 37 (.iad 37 36 (.k (.v (.int .i64 0))) 3), gi 38 (.fad 38 37 0), gi 39 (.lod 39 38 none), gi 40 (.bin 40 .eql (.t 35) (.t 39)), gi 41 (.mov 41 (.t 40)), ⟨.lod 42 6 (some 5), some 42, some (41, true), false⟩, ⟨.lod 43 6 (some 5), some 43, some (41, true), false⟩, ⟨.bsl 44 5 (some 5) [.agg [.v (.int .i64 0), .v (.int .i64 0), .nul, .nul, .nul], .agg [.v (.int .i64 0), .v (.int .i64 0), .nul, .nul, .nul]] [(0, .t 42), (1, .t 43)], some 44, some (41, true), false⟩, ⟨.build 45 [.v (.int .i64 0), .v (.int .i64 0), .nul, .nul, .nul] [(0, (none, .k (.v (.int .i64 6)))), (4, (none, .t 44))], some 45, some (41, true), false⟩, ⟨.mov 46 (.t 4), some 46, some (41, true), false⟩, ⟨.call 47 19 [.t 45, .t 46], some 47, some (41, true), true⟩, ⟨.mov 48 (.t 4), some 48, some (41, true), false⟩, ⟨.iad 49 48 (.k (.v (.int .i64 0))) 3, some 49, some (41, true), false⟩, ⟨.fad 50 49 0, some 50, some (41, true), false⟩, ⟨.lod 51 50 none, some 51, some (41, true), false⟩, ⟨.bin 52 .mul (.k (.v (.int .i64 2))) (.t 51), some 52, some (41, true), false⟩, ⟨.bin 53 .eql (.t 47) (.t 52), some 53, some (41, true), false⟩, gi 54 (.pick 54 (.t 41) (.t 53) (.k (.v (.bool false)))), gi 2 (.mov 2 (.t 54))]
def dc_laws_FnEstimateScan : DC := .seq (.reg r_laws_FnEstimateScan_0 none) (.seq (.seq (.reg r_laws_FnEstimateScan_1 none) (.cond (.t 9) (.seq (.reg r_laws_FnEstimateScan_2 none) .ret) .skip)) (.seq (.reg r_laws_FnEstimateScan_3 none) (.seq (.reg r_laws_FnEstimateScan_4 none) (.seq (.seq (.reg r_laws_FnEstimateScan_5 none) (.cond (.t 26) (.seq (.reg r_laws_FnEstimateScan_6 none) .ret) .skip)) (.seq (.reg r_laws_FnEstimateScan_7 none) (.seq (.reg r_laws_FnEstimateScan_8 (some [0, 0, 3, 0, 8, 24, 56, 127, 255, 511, 511, 2047, 4095, 511, 16383, 511, 33279, 98815, 229887, 492031, 1048575, 2097151, 4194303])) .ret))))))
theorem c_laws_FnEstimateScan : cfun Try.prog [] 6 = some (55, dc_laws_FnEstimateScan, [(Res.tmp 2)]) := by kernel_rfl
end
end Go.Proofs.Ytpfedjaedlfdfaa
