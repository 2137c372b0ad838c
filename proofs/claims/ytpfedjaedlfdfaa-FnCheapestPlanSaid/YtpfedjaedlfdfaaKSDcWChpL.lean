/-
  Functions of the program read as code on plain data. Closed facts of the program alone.
-/
import Derived.KernelRfl
import Derived.Test.YtpfedjaedlfdfaaRows
import Derived.Test.YtpfedjaedlfdfaaJSVTbD
namespace Go.Proofs.Ytpfedjaedlfdfaa
open Go.RowKit
noncomputable section
def r_laws_FnCheapestPlan_0 : List GI := [gi 2 (.mov 2 (.k (.v (.bool false))))]
def r_laws_FnCheapestPlan_1 : List GI := [gi 9 (.mov 9 (.t 0)), gi 10 (.len 10 (.t 9)), gi 11 (.bin 11 .gtr (.t 10) (.k (.v (.int .i64 1048576))))]
def r_laws_FnCheapestPlan_2 : List GI := [gi 2 (.mov 2 (.k (.v (.bool true))))]
def r_laws_FnCheapestPlan_3 : List GI := [gi 13 (.mov 13 (.t 0)), ⟨.call 14 25 [.t 13], some 14, none, true⟩, gi 12 (.mov 12 (.t 14)), gi 15 (.ext 15 12 0), gi 16 (.ext 16 12 1), gi 3 (.mov 3 (.t 15)), gi 4 (.mov 4 (.t 16))]
def r_laws_FnCheapestPlan_4 : List GI := [gi 17 (.mov 17 (.t 3)), gi 18 (.mov 18 (.t 4)), ⟨.call 19 26 [.t 17, .t 18], some 19, none, true⟩, gi 5 (.mov 5 (.t 19))]
def r_laws_FnCheapestPlan_5 : List GI := [gi 20 (.mov 20 (.t 5)), gi 21 (.mov 21 (.t 3)), gi 22 (.mov 22 (.t 4)), ⟨.call 23 27 [.t 21, .t 22], some 23, none, true⟩, gi 24 (.bin 24 .neq (.t 20) (.t 23)), gi 25 (.mov 25 (.t 24)), ⟨.mov 26 (.t 5), some 26, some (25, false), false⟩, ⟨.bin 27 .lss (.t 26) (.k (.v (.int .i64 0))), some 27, some (25, false), false⟩, gi 28 (.pick 28 (.t 25) (.k (.v (.bool true))) (.t 27))]
def r_laws_FnCheapestPlan_6 : List GI := [gi 29 (.mov 29 (.t 5)), gi 30 (.mov 30 (.t 3)), gi 31 (.mov 31 (.t 4)), ⟨.call 32 27 [.t 30, .t 31], some 32, none, true⟩, gi 33 (.bin 33 .eql (.t 29) (.t 32)), gi 2 (.mov 2 (.t 33))]
def r_laws_FnCheapestPlan_7 : List GI := [gi 34 (.mov 34 (.t 3)), gi 35 (.mov 35 (.t 5)), gi 36 (.iad 36 34 (.t 35) 5), gi 37 (.lod 37 36 (some 5)), gi 38 (.mov 38 (.t 4)), ⟨.call 39 23 [.t 37, .t 38], some 39, none, true⟩, gi 6 (.mov 6 (.t 39))]
def r_laws_FnCheapestPlan_8 : List GI := [gi 7 (.mov 7 (.k (.v (.int .i64 0))))]
def r_laws_FnCheapestPlan_9 : List GI := [gi 40 (.mov 40 (.t 7)), gi 41 (.mov 41 (.t 3)), gi 42 (.len 42 (.t 41)), gi 43 (.bin 43 .lss (.t 40) (.t 42))]
def r_laws_FnCheapestPlan_10 : List GI := [gi 46 (.mov 46 (.t 3)), gi 47 (.mov 47 (.t 7)), gi 48 (.iad 48 46 (.t 47) 5), gi 49 (.lod 49 48 (some 5)), gi 50 (.mov 50 (.t 4)), ⟨.call 51 23 [.t 49, .t 50], some 51, none, true⟩, gi 8 (.mov 8 (.t 51))]
def r_laws_FnCheapestPlan_11 : List GI := [gi 52 (.mov 52 (.t 8)), gi 53 (.bin 53 .geq (.t 52) (.k (.v (.int .i64 0)))), gi 54 (.mov 54 (.t 53)), ⟨.mov 55 (.t 8), some 55, some (54, true), false⟩, ⟨.mov 56 (.t 6), some 56, some (54, true), false⟩, ⟨.bin 57 .lss (.t 55) (.t 56), some 57, some (54, true), false⟩, ⟨.mov 58 (.t 57), some 58, some (54, true), false⟩, ⟨.mov 59 (.t 7), some 59, some (58, false), false⟩, ⟨.mov 60 (.t 5), some 60, some (58, false), false⟩, ⟨.bin 61 .lss (.t 59) (.t 60), some 61, some (58, false), false⟩, ⟨.mov 62 (.t 61), some 62, some (58, false), false⟩, ⟨.mov 63 (.t 8), some 63, some (62, true), false⟩, ⟨.mov 64 (.t 6), some 64, some (62, true), false⟩, ⟨.bin 65 .eql (.t 63) (.t 64), some 65, some (62, true), false⟩, ⟨.pick 66 (.t 62) (.t 65) (.k (.v (.bool false))), some 66, some (58, false), false⟩, ⟨.pick 67 (.t 58) (.k (.v (.bool true))) (.t 66), some 67, some (54, true), false⟩, gi 68 (.pick 68 (.t 54) (.t 67) (.k (.v (.bool false))))]
def r_laws_FnCheapestPlan_12 : List GI := [gi 2 (.mov 2 (.k (.v (.bool false))))]
def r_laws_FnCheapestPlan_13 : List GI := [gi 44 (.mov 44 (.t 7)), gi 45 (.bin 45 .add (.t 44) (.k (.v (.int .i64 1)))), gi 7 (.mov 7 (.t 45))]
def r_laws_FnCheapestPlan_14 : List GI := [gi 69 (.mov 69 (.t 6)), gi 70 (.bin 70 .geq (.t 69) (.k (.v (.int .i64 0)))), gi 2 (.mov 2 (.t 70))]
def dc_laws_FnCheapestPlan : DC := .seq (.reg r_laws_FnCheapestPlan_0 none) (.seq (.seq (.reg r_laws_FnCheapestPlan_1 none) (.cond (.t 11) (.seq (.reg r_laws_FnCheapestPlan_2 none) .ret) .skip)) (.seq (.reg r_laws_FnCheapestPlan_3 none) (.seq (.reg r_laws_FnCheapestPlan_4 none) (.seq (.seq (.reg r_laws_FnCheapestPlan_5 none) (.cond (.t 28) (.seq (.reg r_laws_FnCheapestPlan_6 none) .ret) .skip)) (.seq (.reg r_laws_FnCheapestPlan_7 none) (.seq (.seq (.reg r_laws_FnCheapestPlan_8 none) (.block 0 (.loop (.seq (.seq (.reg r_laws_FnCheapestPlan_9 none) (.cond (.t 43) .skip (.exit 0))) (.seq (.block 1 (.seq (.reg r_laws_FnCheapestPlan_10 none) (.seq (.reg r_laws_FnCheapestPlan_11 none) (.cond (.t 68) (.seq (.reg r_laws_FnCheapestPlan_12 none) .ret) .skip)))) (.reg r_laws_FnCheapestPlan_13 none)))))) (.seq (.reg r_laws_FnCheapestPlan_14 none) .ret)))))))
theorem c_laws_FnCheapestPlan : cfun Try.prog [] 8 = some (71, dc_laws_FnCheapestPlan, [(Res.tmp 2)]) := by kernel_rfl
def r_spec_DrawCheapestPlan_0 : List GI := [gi 2 (.mov 2 (.k .nul)), gi 3 (.mov 3 (.k .nul))]
def r_spec_DrawCheapestPlan_1 : List GI := [gi 8 (.mov 8 (.t 0)), ⟨.call 9 31 [.t 8], some 9, none, true⟩, gi 4 (.mov 4 (.t 9))]
def r_spec_DrawCheapestPlan_2 : List GI := [gi 10 (.mov 10 (.t 4)), ⟨.call 11 50 [.t 10], some 11, none, true⟩, gi 5 (.mov 5 (.t 11))]
def r_spec_DrawCheapestPlan_3 : List GI := [gi 12 (.mov 12 (.k .nul)), gi 6 (.mov 6 (.t 12))]
def r_spec_DrawCheapestPlan_4 : List GI := [gi 13 (.mov 13 (.t 4)), gi 14 (.bsl 14 1 none [.v (.int .i64 0), .v (.int .i64 0), .v (.int .i64 0), .v (.int .i64 0), .v (.int .i64 0), .v (.int .i64 0)] [(0, .k (.v (.int .i64 0))), (1, .k (.v (.int .i64 1))), (2, .k (.v (.int .i64 2))), (3, .k (.v (.int .i64 3))), (4, .k (.v (.int .i64 4))), (5, .k (.v (.int .i64 21)))]), ⟨.call 15 51 [.t 13, .t 14], some 15, none, true⟩, gi 7 (.mov 7 (.t 15))]
def r_spec_DrawCheapestPlan_5 : List GI := [gi 16 (.mov 16 (.t 7)), gi 17 (.bin 17 .gtr (.t 16) (.k (.v (.int .i64 0))))]
def r_spec_DrawCheapestPlan_6 : List GI := [gi 20 (.mov 20 (.t 6)), gi 21 (.mov 21 (.t 4)), gi 22 (.mov 22 (.t 5)), ⟨.call 23 52 [.t 21, .t 22], some 23, none, true⟩, gi 24 (.bsl 24 5 (some 5) [.agg [.v (.int .i64 0), .v (.int .i64 0), .nul, .nul, .nul]] [(0, .t 23)]), gi 25 (.app 25 2000025 (.t 20) (.t 24) 5 88), gi 6 (.mov 6 (.t 25))]
def r_spec_DrawCheapestPlan_7 : List GI := [gi 18 (.mov 18 (.t 7)), gi 19 (.bin 19 .sub (.t 18) (.k (.v (.int .i64 1)))), gi 7 (.mov 7 (.t 19))]
def r_spec_DrawCheapestPlan_8 : List GI := [gi 26 (.mov 26 (.t 6)), gi 27 (.mov 27 (.t 4)), gi 28 (.mov 28 (.t 5)), ⟨.call 29 41 [.t 27, .t 28], some 29, none, true⟩, gi 2 (.mov 2 (.t 26)), gi 3 (.mov 3 (.t 29))]
def dc_spec_DrawCheapestPlan : DC := .seq (.reg r_spec_DrawCheapestPlan_0 none) (.seq (.reg r_spec_DrawCheapestPlan_1 none) (.seq (.reg r_spec_DrawCheapestPlan_2 none) (.seq (.reg r_spec_DrawCheapestPlan_3 none) (.seq (.seq (.reg r_spec_DrawCheapestPlan_4 none) (.block 0 (.loop (.seq (.seq (.reg r_spec_DrawCheapestPlan_5 none) (.cond (.t 17) .skip (.exit 0))) (.seq (.block 1 (.reg r_spec_DrawCheapestPlan_6 none)) (.reg r_spec_DrawCheapestPlan_7 none)))))) (.seq (.reg r_spec_DrawCheapestPlan_8 none) .ret)))))
theorem c_spec_DrawCheapestPlan : cfun Try.prog [] 25 = some (30, dc_spec_DrawCheapestPlan, [(Res.tmp 2), (Res.tmp 3)]) := by kernel_rfl
end
end Go.Proofs.Ytpfedjaedlfdfaa
