/-
  Functions of the program read as code on plain data. Closed facts of the program alone.
-/
import Derived.KernelRfl
import Derived.Test.YtpfedjaedlfdfaaRows
import Derived.Test.YtpfedjaedlfdfaaJSVCall
namespace Go.Proofs.Ytpfedjaedlfdfaa
open Go.RowKit
noncomputable section
def r_laws_FnEstimateFilter_0 : List GI := [gi 2 (.mov 2 (.k (.v (.bool false))))]
def r_laws_FnEstimateFilter_1 : List GI := [gi 8 (.mov 8 (.t 0)), gi 9 (.len 9 (.t 8)), gi 10 (.bin 10 .gtr (.t 9) (.k (.v (.int .i64 1048576))))]
def r_laws_FnEstimateFilter_2 : List GI := [gi 2 (.mov 2 (.k (.v (.bool true))))]
def r_laws_FnEstimateFilter_3 : List GI := [gi 12 (.mov 12 (.t 0)), ⟨.call 13 18 [.t 12], some 13, none, true⟩, gi 11 (.mov 11 (.t 13)), gi 14 (.ext 14 11 0), gi 15 (.ext 15 11 1), gi 3 (.alloc 3 2000003 [.v (.int .i64 0), .v (.int .i64 0), .nul, .nul, .nul]), g0 (.sto 3 (.t 14) (some 5)), gi 4 (.mov 4 (.t 15))]
def r_laws_FnEstimateFilter_4 : List GI := [gi 16 (.lod 16 3 (some 5)), gi 17 (.mov 17 (.t 4)), ⟨.call 18 19 [.t 16, .t 17], some 18, none, true⟩, gi 5 (.mov 5 (.t 18))]
def r_laws_FnEstimateFilter_5 : List GI := [gi 19 (.mov 19 (.t 5)), gi 20 (.lod 20 3 (some 5)), gi 21 (.mov 21 (.t 4)), ⟨.call 22 20 [.t 20, .t 21], some 22, none, true⟩, gi 23 (.bin 23 .neq (.t 19) (.t 22)), gi 24 (.mov 24 (.t 23)), ⟨.mov 25 (.t 5), some 25, some (24, false), false⟩, ⟨.bin 26 .lss (.t 25) (.k (.v (.int .i64 0))), some 26, some (24, false), false⟩, gi 27 (.pick 27 (.t 24) (.k (.v (.bool true))) (.t 26))]
def r_laws_FnEstimateFilter_6 : List GI := [gi 28 (.mov 28 (.t 5)), gi 29 (.lod 29 3 (some 5)), gi 30 (.mov 30 (.t 4)), ⟨.call 31 20 [.t 29, .t 30], some 31, none, true⟩, gi 32 (.bin 32 .eql (.t 28) (.t 31)), gi 2 (.mov 2 (.t 32))]
def r_laws_FnEstimateFilter_7 : List GI := [gi 33 (.build 33 [.v (.int .i64 0), .v (.int .i64 0), .v (.bool false), .v (.int .i64 0), .nul] [(0, (none, .k (.v (.int .i64 1))))]), gi 34 (.build 34 [.v (.bool false), .v (.int .i64 0)] [(1, (none, .k (.v (.int .i64 1))))]), gi 35 (.build 35 [.v (.int .i64 0), .v (.int .i64 0), .v (.bool false), .v (.int .i64 0), .nul] [(0, (none, .k (.v (.int .i64 2)))), (2, (some 2, .t 34))]), ⟨.call 36 29 [.k (.v (.int .i64 6)), .t 33, .t 35], some 36, none, true⟩, gi 37 (.lod 37 3 (some 5)), ⟨.call 38 28 [.t 36, .t 37], some 38, none, true⟩, gi 39 (.mov 39 (.t 4)), ⟨.call 40 19 [.t 38, .t 39], some 40, none, true⟩, gi 6 (.mov 6 (.t 40))]
def r_laws_FnEstimateFilter_8 : List GI := [gi 41 (.lod 41 3 (some 5)), gi 42 (.bsl 42 5 (some 5) [.agg [.v (.int .i64 0), .v (.int .i64 0), .nul, .nul, .nul]] [(0, .t 41)]), gi 43 (.build 43 [.v (.int .i64 0), .v (.int .i64 0), .nul, .nul, .nul] [(0, (none, .k (.v (.int .i64 7)))), (4, (none, .t 42))]), gi 44 (.mov 44 (.t 4)), ⟨.call 45 19 [.t 43, .t 44], some 45, none, true⟩, gi 7 (.mov 7 (.t 45))]
def r_laws_FnEstimateFilter_9 : List GI := [gi 46 (.mov 46 (.t 6)), gi 47 (.mov 47 (.t 5)), gi 48 (.bin 48 .leq (.t 46) (.t 47)), gi 49 (.mov 49 (.t 48)), ⟨.mov 50 (.t 7), some 50, some (49, true), false⟩, ⟨.bin 51 .lss (.t 50) (.k (.v (.int .i64 0))), some 51, some (49, true), false⟩, ⟨.mov 52 (.t 51), some 52, some (49, true), false⟩, ⟨.mov 53 (.t 7), some 53, some (52, false), false⟩, ⟨.mov 54 (.t 5), some 54, some (52, false), false⟩, ⟨.bin 55 .eql (.t 53) (.t 54), some 55, some (52, false), false⟩, ⟨.pick 56 (.t 52) (.k (.v (.bool true))) (.t 55), some 56, some (49, true), false⟩, gi 57 (.pick 57 (.t 49) (.t 56) (.k (.v (.bool false)))), gi 2 (.mov 2 (.t 57))]
def dc_laws_FnEstimateFilter : DC := .seq (.reg r_laws_FnEstimateFilter_0 none) (.seq (.seq (.reg r_laws_FnEstimateFilter_1 none) (.cond (.t 10) (.seq (.reg r_laws_FnEstimateFilter_2 none) .ret) .skip)) (.seq (.reg r_laws_FnEstimateFilter_3 none) (.seq (.reg r_laws_FnEstimateFilter_4 none) (.seq (.seq (.reg r_laws_FnEstimateFilter_5 none) (.cond (.t 27) (.seq (.reg r_laws_FnEstimateFilter_6 none) .ret) .skip)) (.seq (.reg r_laws_FnEstimateFilter_7 (some [0, 0, 2, 7, 0, 31, 0, 127, 255])) (.seq (.reg r_laws_FnEstimateFilter_8 none) (.seq (.reg r_laws_FnEstimateFilter_9 none) .ret)))))))
theorem c_laws_FnEstimateFilter : cfun Try.prog [] 9 = some (58, dc_laws_FnEstimateFilter, [(Res.tmp 2)]) := by kernel_rfl
def r_laws_filter_0 : List GI := [gi 2 (.box 2 2000002 (.t 0) (some 5)), gi 3 (.box 3 2000003 (.t 1) (some 5)), gi 4 (.alloc 4 2000004 [.v (.int .i64 0), .v (.int .i64 0), .nul, .nul, .nul])]
def r_laws_filter_1 : List GI := [gi 5 (.lod 5 2 (some 5)), gi 6 (.bsl 6 5 (some 5) [.agg [.v (.int .i64 0), .v (.int .i64 0), .v (.bool false), .v (.int .i64 0), .nul]] [(0, .t 5)]), gi 7 (.lod 7 3 (some 5)), gi 8 (.bsl 8 5 (some 5) [.agg [.v (.int .i64 0), .v (.int .i64 0), .nul, .nul, .nul]] [(0, .t 7)]), gi 9 (.build 9 [.v (.int .i64 0), .v (.int .i64 0), .nul, .nul, .nul] [(0, (none, .k (.v (.int .i64 2)))), (2, (none, .t 6)), (4, (none, .t 8))]), g0 (.sto 4 (.t 9) (some 5))]
def dc_laws_filter : DC := .seq (.reg r_laws_filter_0 none) (.seq (.reg r_laws_filter_1 none) .ret)
theorem c_laws_filter : cfun Try.prog [] 28 = some (10, dc_laws_filter, [(Res.cell 4 (some 5))]) := by kernel_rfl
def r_laws_two_0 : List GI := [gi 4 (.box 4 2000004 (.t 1) (some 5)), gi 5 (.box 5 2000005 (.t 2) (some 5)), gi 6 (.alloc 6 2000006 [.v (.int .i64 0), .v (.int .i64 0), .v (.bool false), .v (.int .i64 0), .nul])]
def r_laws_two_1 : List GI := [gi 7 (.mov 7 (.t 0)), gi 8 (.lod 8 4 (some 5)), gi 9 (.lod 9 5 (some 5)), gi 10 (.bsl 10 5 (some 5) [.agg [.v (.int .i64 0), .v (.int .i64 0), .v (.bool false), .v (.int .i64 0), .nul], .agg [.v (.int .i64 0), .v (.int .i64 0), .v (.bool false), .v (.int .i64 0), .nul]] [(0, .t 8), (1, .t 9)]), gi 11 (.build 11 [.v (.int .i64 0), .v (.int .i64 0), .v (.bool false), .v (.int .i64 0), .nul] [(0, (none, .t 7)), (4, (none, .t 10))]), g0 (.sto 6 (.t 11) (some 5))]
def dc_laws_two : DC := .seq (.reg r_laws_two_0 none) (.seq (.reg r_laws_two_1 none) .ret)
theorem c_laws_two : cfun Try.prog [] 29 = some (12, dc_laws_two, [(Res.cell 6 (some 5))]) := by kernel_rfl
end
end Go.Proofs.Ytpfedjaedlfdfaa
