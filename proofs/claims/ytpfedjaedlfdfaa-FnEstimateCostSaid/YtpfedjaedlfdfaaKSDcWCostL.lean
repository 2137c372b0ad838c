/-
  Functions of the program read as code on plain data. Closed facts of the program alone.
-/
import Derived.KernelRfl
import Derived.Test.YtpfedjaedlfdfaaRows
import Derived.Test.YtpfedjaedlfdfaaJSVCall
namespace Go.Proofs.Ytpfedjaedlfdfaa
open Go.RowKit
noncomputable section
def r_laws_FnEstimateCost_0 : List GI := [gi 2 (.mov 2 (.k (.v (.bool false))))]
def r_laws_FnEstimateCost_1 : List GI := [gi 8 (.mov 8 (.t 0)), gi 9 (.len 9 (.t 8)), gi 10 (.bin 10 .gtr (.t 9) (.k (.v (.int .i64 1048576))))]
def r_laws_FnEstimateCost_2 : List GI := [gi 2 (.mov 2 (.k (.v (.bool true))))]
def r_laws_FnEstimateCost_3 : List GI := [gi 12 (.mov 12 (.t 0)), ⟨.call 13 22 [.t 12], some 13, none, true⟩, gi 11 (.mov 11 (.t 13)), gi 14 (.ext 14 11 0), gi 15 (.ext 15 11 1), gi 3 (.alloc 3 2000003 [.v (.int .i64 0), .v (.int .i64 0), .nul, .nul, .nul]), g0 (.sto 3 (.t 14) (some 5)), gi 4 (.mov 4 (.t 15))]
def r_laws_FnEstimateCost_4 : List GI := [gi 16 (.lod 16 3 (some 5)), gi 17 (.mov 17 (.t 4)), ⟨.call 18 23 [.t 16, .t 17], some 18, none, true⟩, gi 5 (.mov 5 (.t 18))]
def r_laws_FnEstimateCost_5 : List GI := [gi 19 (.mov 19 (.t 5)), gi 20 (.lod 20 3 (some 5)), gi 21 (.mov 21 (.t 4)), ⟨.call 22 24 [.t 20, .t 21], some 22, none, true⟩, gi 23 (.bin 23 .neq (.t 19) (.t 22)), gi 24 (.mov 24 (.t 23)), ⟨.mov 25 (.t 5), some 25, some (24, false), false⟩, ⟨.bin 26 .lss (.t 25) (.k (.v (.int .i64 0))), some 26, some (24, false), false⟩, gi 27 (.pick 27 (.t 24) (.k (.v (.bool true))) (.t 26))]
def r_laws_FnEstimateCost_6 : List GI := [gi 28 (.mov 28 (.t 5)), gi 29 (.lod 29 3 (some 5)), gi 30 (.mov 30 (.t 4)), ⟨.call 31 24 [.t 29, .t 30], some 31, none, true⟩, gi 32 (.bin 32 .eql (.t 28) (.t 31)), gi 2 (.mov 2 (.t 32))]
def r_laws_FnEstimateCost_7 : List GI := [gi 33 (.lod 33 3 (some 5)), gi 34 (.mov 34 (.t 4)), ⟨.call 35 19 [.t 33, .t 34], some 35, none, true⟩, gi 6 (.mov 6 (.t 35))]
def r_laws_FnEstimateCost_8 : List GI := [gi 7 (.mov 7 (.k (.v (.int .i64 0))))]
def r_laws_FnEstimateCost_9 : List GI := [gi 36 (.mov 36 (.t 7)), gi 37 (.fad 37 3 4), gi 38 (.lod 38 37 none), gi 39 (.len 39 (.t 38)), gi 40 (.bin 40 .lss (.t 36) (.t 39))]
def r_laws_FnEstimateCost_10 : List GI := [gi 43 (.mov 43 (.t 6)), gi 44 (.fad 44 3 4), gi 45 (.lod 45 44 none), gi 46 (.mov 46 (.t 7)), gi 47 (.iad 47 45 (.t 46) 5), gi 48 (.lod 48 47 (some 5)), gi 49 (.mov 49 (.t 4)), ⟨.call 50 23 [.t 48, .t 49], some 50, none, true⟩, gi 51 (.bin 51 .add (.t 43) (.t 50)), gi 6 (.mov 6 (.t 51))]
def r_laws_FnEstimateCost_11 : List GI := [gi 41 (.mov 41 (.t 7)), gi 42 (.bin 42 .add (.t 41) (.k (.v (.int .i64 1)))), gi 7 (.mov 7 (.t 42))]
def r_laws_FnEstimateCost_12 : List GI := [gi 52 (.mov 52 (.t 6)), gi 53 (.mov 53 (.t 5)), gi 54 (.bin 54 .eql (.t 52) (.t 53)), gi 2 (.mov 2 (.t 54))]
def dc_laws_FnEstimateCost : DC := .seq (.reg r_laws_FnEstimateCost_0 none) (.seq (.seq (.reg r_laws_FnEstimateCost_1 none) (.cond (.t 10) (.seq (.reg r_laws_FnEstimateCost_2 none) .ret) .skip)) (.seq (.reg r_laws_FnEstimateCost_3 none) (.seq (.reg r_laws_FnEstimateCost_4 none) (.seq (.seq (.reg r_laws_FnEstimateCost_5 none) (.cond (.t 27) (.seq (.reg r_laws_FnEstimateCost_6 none) .ret) .skip)) (.seq (.reg r_laws_FnEstimateCost_7 none) (.seq (.seq (.reg r_laws_FnEstimateCost_8 none) (.block 0 (.loop (.seq (.seq (.reg r_laws_FnEstimateCost_9 none) (.cond (.t 40) .skip (.exit 0))) (.seq (.block 1 (.reg r_laws_FnEstimateCost_10 none)) (.reg r_laws_FnEstimateCost_11 none)))))) (.seq (.reg r_laws_FnEstimateCost_12 none) .ret)))))))
theorem c_laws_FnEstimateCost : cfun Try.prog [] 7 = some (55, dc_laws_FnEstimateCost, [(Res.tmp 2)]) := by kernel_rfl
def r_spec_DrawEstimateCost_0 : List GI := [gi 2 (.alloc 2 2000002 [.v (.int .i64 0), .v (.int .i64 0), .nul, .nul, .nul]), gi 3 (.mov 3 (.k .nul))]
def r_spec_DrawEstimateCost_1 : List GI := [gi 4 (.mov 4 (.t 0)), ⟨.call 5 18 [.t 4], some 5, none, true⟩, gi 6 (.ext 6 5 0), gi 7 (.ext 7 5 1), g0 (.sto 2 (.t 6) (some 5)), gi 3 (.mov 3 (.t 7))]
def dc_spec_DrawEstimateCost : DC := .seq (.reg r_spec_DrawEstimateCost_0 none) (.seq (.reg r_spec_DrawEstimateCost_1 none) .ret)
theorem c_spec_DrawEstimateCost : cfun Try.prog [] 22 = some (8, dc_spec_DrawEstimateCost, [(Res.cell 2 (some 5)), (Res.tmp 3)]) := by kernel_rfl
end
end Go.Proofs.Ytpfedjaedlfdfaa
