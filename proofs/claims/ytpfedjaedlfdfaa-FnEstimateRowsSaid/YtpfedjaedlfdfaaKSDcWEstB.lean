/-
  Functions of the program read as code on plain data. Closed facts of the program alone.
-/
import Derived.KernelRfl
import Derived.Test.YtpfedjaedlfdfaaRows
import Derived.Test.YtpfedjaedlfdfaaJSVCall
namespace Go.Proofs.Ytpfedjaedlfdfaa
open Go.RowKit
noncomputable section
def r_impl_RowBound_0 : List GI := [gi 3 (.box 3 2000003 (.t 0) (some 5)), gi 6 (.mov 6 (.k (.v (.int .i64 0))))]
def r_impl_RowBound_1 : List GI := [gi 9 (.lod 9 3 (some 5)), gi 10 (.mov 10 (.t 1)), ⟨.call 11 13 [.t 9, .t 10], some 11, none, true⟩, gi 12 (.bin 12 .eql (.t 11) (.k (.v (.int .i64 0)))), gi 13 (.mov 13 (.t 12)), ⟨.mov 14 (.t 2), some 14, some (13, false), false⟩, ⟨.len 15 (.t 14), some 15, some (13, false), false⟩, ⟨.mov 16 (.t 1), some 16, some (13, false), false⟩, ⟨.len 17 (.t 16), some 17, some (13, false), false⟩, ⟨.bin 18 .neq (.t 15) (.t 17), some 18, some (13, false), false⟩, gi 19 (.pick 19 (.t 13) (.k (.v (.bool true))) (.t 18))]
def r_impl_RowBound_2 : List GI := [gi 6 (.mov 6 (.k (.v (.int .i64 (-1)))))]
def r_impl_RowBound_3 : List GI := [gi 20 (.mov 20 (.t 2)), gi 21 (.len 21 (.t 20)), gi 22 (.mov 22 (.k (.v (.int .i64 0))))]
def r_impl_RowBound_4 : List GI := [gi 23 (.bin 23 .lss (.t 22) (.t 21))]
def r_impl_RowBound_5 : List GI := [gi 24 (.iad 24 20 (.t 22) 1), gi 25 (.lod 25 24 none), gi 8 (.mov 8 (.t 25))]
def r_impl_RowBound_6 : List GI := [gi 26 (.mov 26 (.t 8)), gi 27 (.bin 27 .lss (.t 26) (.k (.v (.int .i64 0)))), gi 28 (.mov 28 (.t 27)), ⟨.mov 29 (.t 8), some 29, some (28, false), false⟩, ⟨.bin 30 .gtr (.t 29) (.k (.v (.int .i64 400))), some 30, some (28, false), false⟩, gi 31 (.pick 31 (.t 28) (.k (.v (.bool true))) (.t 30))]
def r_impl_RowBound_7 : List GI := [gi 6 (.mov 6 (.k (.v (.int .i64 (-1)))))]
def r_impl_RowBound_8 : List GI := [gi 32 (.bin 32 .add (.t 22) (.k (.v (.int .i64 1)))), gi 22 (.mov 22 (.t 32))]
def r_impl_RowBound_9 : List GI := [gi 33 (.lod 33 3 (some 5)), gi 34 (.mov 34 (.t 2)), gi 35 (.build 35 [.nul] [(0, (none, .t 34))]), gi 36 (.ifc 36 68 (.t 35)), ⟨.call 37 43 [.t 33, .t 36], some 37, none, true⟩, gi 6 (.mov 6 (.t 37))]
def dc_impl_RowBound : DC := .seq (.reg r_impl_RowBound_0 none) (.seq (.seq (.reg r_impl_RowBound_1 none) (.cond (.t 19) (.seq (.reg r_impl_RowBound_2 none) .ret) .skip)) (.seq (.seq (.reg r_impl_RowBound_3 none) (.block 0 (.loop (.seq (.reg r_impl_RowBound_4 none) (.seq (.cond (.t 23) .skip (.exit 0)) (.seq (.block 1 (.seq (.reg r_impl_RowBound_5 none) (.seq (.reg r_impl_RowBound_6 none) (.cond (.t 31) (.seq (.reg r_impl_RowBound_7 none) .ret) .skip)))) (.reg r_impl_RowBound_8 none))))))) (.seq (.reg r_impl_RowBound_9 none) .ret)))
theorem c_impl_RowBound : cfun Try.prog [] 21 = some (38, dc_impl_RowBound, [(Res.tmp 6)]) := by kernel_rfl
def r_laws_FnEstimateRows_0 : List GI := [gi 2 (.mov 2 (.k (.v (.bool false))))]
def r_laws_FnEstimateRows_1 : List GI := [gi 9 (.mov 9 (.t 0)), gi 10 (.len 10 (.t 9)), gi 11 (.bin 11 .gtr (.t 10) (.k (.v (.int .i64 1048576))))]
def r_laws_FnEstimateRows_2 : List GI := [gi 2 (.mov 2 (.k (.v (.bool true))))]
def r_laws_FnEstimateRows_3 : List GI := [gi 13 (.mov 13 (.t 0)), ⟨.call 14 18 [.t 13], some 14, none, true⟩, gi 12 (.mov 12 (.t 14)), gi 15 (.ext 15 12 0), gi 16 (.ext 16 12 1), gi 3 (.alloc 3 2000003 [.v (.int .i64 0), .v (.int .i64 0), .nul, .nul, .nul]), g0 (.sto 3 (.t 15) (some 5)), gi 4 (.mov 4 (.t 16))]
def r_laws_FnEstimateRows_4 : List GI := [gi 17 (.lod 17 3 (some 5)), gi 18 (.mov 18 (.t 4)), ⟨.call 19 19 [.t 17, .t 18], some 19, none, true⟩, gi 5 (.mov 5 (.t 19))]
def r_laws_FnEstimateRows_5 : List GI := [gi 20 (.mov 20 (.t 5)), gi 21 (.lod 21 3 (some 5)), gi 22 (.mov 22 (.t 4)), ⟨.call 23 20 [.t 21, .t 22], some 23, none, true⟩, gi 24 (.bin 24 .neq (.t 20) (.t 23)), gi 25 (.mov 25 (.t 24)), ⟨.mov 26 (.t 5), some 26, some (25, false), false⟩, ⟨.bin 27 .lss (.t 26) (.k (.v (.int .i64 0))), some 27, some (25, false), false⟩, gi 28 (.pick 28 (.t 25) (.k (.v (.bool true))) (.t 27))]
def r_laws_FnEstimateRows_6 : List GI := [gi 29 (.mov 29 (.t 5)), gi 30 (.lod 30 3 (some 5)), gi 31 (.mov 31 (.t 4)), ⟨.call 32 20 [.t 30, .t 31], some 32, none, true⟩, gi 33 (.bin 33 .eql (.t 29) (.t 32)), gi 2 (.mov 2 (.t 33))]
def r_laws_FnEstimateRows_7 : List GI := [gi 34 (.mov 34 (.k .nul)), gi 6 (.mov 6 (.t 34))]
def r_laws_FnEstimateRows_8 : List GI := [gi 35 (.mov 35 (.k .nul)), gi 7 (.mov 7 (.t 35))]
def r_laws_FnEstimateRows_9 : List GI := [gi 8 (.mov 8 (.k (.v (.int .i64 0))))]
def r_laws_FnEstimateRows_10 : List GI := [gi 36 (.mov 36 (.t 8)), gi 37 (.mov 37 (.t 4)), gi 38 (.len 38 (.t 37)), gi 39 (.bin 39 .lss (.t 36) (.t 38))]
def r_laws_FnEstimateRows_11 : List GI := [gi 42 (.mov 42 (.t 6)), gi 43 (.mov 43 (.t 4)), gi 44 (.mov 44 (.t 8)), gi 45 (.iad 45 43 (.t 44) 3), gi 46 (.fad 46 45 1), gi 47 (.lod 47 46 none), gi 48 (.len 48 (.t 47)), gi 49 (.bsl 49 1 none [.v (.int .i64 0)] [(0, .t 48)]), gi 50 (.app 50 2000050 (.t 42) (.t 49) 1 8), gi 6 (.mov 6 (.t 50))]
def r_laws_FnEstimateRows_12 : List GI := [gi 51 (.mov 51 (.t 7)), gi 52 (.mov 52 (.t 4)), gi 53 (.mov 53 (.t 8)), gi 54 (.iad 54 52 (.t 53) 3), gi 55 (.fad 55 54 0), gi 56 (.lod 56 55 none), gi 57 (.bsl 57 1 none [.v (.int .i64 0)] [(0, .t 56)]), gi 58 (.app 58 2000058 (.t 51) (.t 57) 1 8), gi 7 (.mov 7 (.t 58))]
def r_laws_FnEstimateRows_13 : List GI := [gi 40 (.mov 40 (.t 8)), gi 41 (.bin 41 .add (.t 40) (.k (.v (.int .i64 1)))), gi 8 (.mov 8 (.t 41))]
def r_laws_FnEstimateRows_14 : List GI := [gi 59 (.mov 59 (.t 5)), gi 60 (.lod 60 3 (some 5)), gi 61 (.mov 61 (.t 6)), gi 62 (.mov 62 (.t 7)), ⟨.call 63 21 [.t 60, .t 61, .t 62], some 63, none, true⟩, gi 64 (.bin 64 .leq (.t 59) (.t 63)), gi 2 (.mov 2 (.t 64))]
def dc_laws_FnEstimateRows : DC := .seq (.reg r_laws_FnEstimateRows_0 none) (.seq (.seq (.reg r_laws_FnEstimateRows_1 none) (.cond (.t 11) (.seq (.reg r_laws_FnEstimateRows_2 none) .ret) .skip)) (.seq (.reg r_laws_FnEstimateRows_3 none) (.seq (.reg r_laws_FnEstimateRows_4 none) (.seq (.seq (.reg r_laws_FnEstimateRows_5 none) (.cond (.t 28) (.seq (.reg r_laws_FnEstimateRows_6 none) .ret) .skip)) (.seq (.reg r_laws_FnEstimateRows_7 none) (.seq (.reg r_laws_FnEstimateRows_8 none) (.seq (.seq (.reg r_laws_FnEstimateRows_9 none) (.block 0 (.loop (.seq (.seq (.reg r_laws_FnEstimateRows_10 none) (.cond (.t 39) .skip (.exit 0))) (.seq (.block 1 (.seq (.reg r_laws_FnEstimateRows_11 none) (.reg r_laws_FnEstimateRows_12 none))) (.reg r_laws_FnEstimateRows_13 none)))))) (.seq (.reg r_laws_FnEstimateRows_14 none) .ret))))))))
theorem c_laws_FnEstimateRows : cfun Try.prog [] 5 = some (65, dc_laws_FnEstimateRows, [(Res.tmp 2)]) := by kernel_rfl
end
end Go.Proofs.Ytpfedjaedlfdfaa
