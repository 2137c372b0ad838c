/-
  Functions of the program read as code on plain data. Closed facts of the program alone.
-/
import Derived.Test.YtkjgambmledioaaRows
import Derived.Test.YtkjgambmledioaaVLib
import Derived.KernelRfl
namespace Go.Proofs.Ytkjgambmledioaa
open Go.RowKit
noncomputable section
def r_spec_DrawTableOf_0 : List GI := [⟨.mov 2 (.k (.v (.int .i64 0))), some 2, none, false⟩, ⟨.mov 3 (.k .nul), some 3, none, false⟩]
def r_spec_DrawTableOf_1 : List GI := [⟨.mov 8 (.t 0), some 8, none, false⟩, ⟨.call 9 40 [.t 8], some 9, none, true⟩, ⟨.mov 4 (.t 9), some 4, none, false⟩]
def r_spec_DrawTableOf_2 : List GI := [⟨.mov 10 (.t 4), some 10, none, false⟩, ⟨.call 11 41 [.t 10, .k (.v (.int .i64 3))], some 11, none, true⟩, ⟨.bin 12 .add (.k (.v (.int .i64 1))) (.t 11), some 12, none, false⟩, ⟨.mov 5 (.t 12), some 5, none, false⟩]
def r_spec_DrawTableOf_3 : List GI := [⟨.mov 13 (.k .nul), some 13, none, false⟩, ⟨.mov 6 (.t 13), some 6, none, false⟩]
def r_spec_DrawTableOf_4 : List GI := [⟨.mov 14 (.t 4), some 14, none, false⟩, ⟨.call 15 41 [.t 14, .k (.v (.int .i64 8))], some 15, none, true⟩, ⟨.mov 7 (.t 15), some 7, none, false⟩]
def r_spec_DrawTableOf_5 : List GI := [⟨.mov 16 (.t 7), some 16, none, false⟩, ⟨.bin 17 .gtr (.t 16) (.k (.v (.int .i64 0))), some 17, none, false⟩]
def r_spec_DrawTableOf_6 : List GI := [⟨.mov 20 (.t 6), some 20, none, false⟩, ⟨.mov 21 (.t 4), some 21, none, false⟩, ⟨.mov 22 (.t 5), some 22, none, false⟩, ⟨.call 23 42 [.t 21, .t 22], some 23, none, true⟩, ⟨.bsl 24 1 none [.nul] [(0, .t 23)], some 24, none, false⟩, ⟨.app 25 2000025 (.t 20) (.t 24) 1 24, some 25, none, false⟩, ⟨.mov 6 (.t 25), some 6, none, false⟩]
def r_spec_DrawTableOf_7 : List GI := [⟨.mov 18 (.t 7), some 18, none, false⟩, ⟨.bin 19 .sub (.t 18) (.k (.v (.int .i64 1))), some 19, none, false⟩, ⟨.mov 7 (.t 19), some 7, none, false⟩]
def r_spec_DrawTableOf_8 : List GI := [⟨.mov 26 (.t 6), some 26, none, false⟩, ⟨.len 27 (.t 26), some 27, none, false⟩, ⟨.bin 28 .gtr (.t 27) (.k (.v (.int .i64 0))), some 28, none, false⟩, ⟨.mov 29 (.t 28), some 29, none, false⟩, ⟨.mov 30 (.t 4), some 30, some (29, true), false⟩, ⟨.call 31 41 [.t 30, .k (.v (.int .i64 8))], some 31, some (29, true), true⟩, ⟨.bin 32 .eql (.t 31) (.k (.v (.int .i64 0))), some 32, some (29, true), false⟩, ⟨.pick 33 (.t 29) (.t 32) (.k (.v (.bool false))), some 33, none, false⟩]
def r_spec_DrawTableOf_9 : List GI := [⟨.mov 34 (.t 6), some 34, none, false⟩, ⟨.mov 35 (.t 4), some 35, none, false⟩, ⟨.mov 36 (.t 6), some 36, none, false⟩, ⟨.len 37 (.t 36), some 37, none, false⟩, ⟨.call 38 41 [.t 35, .t 37], some 38, none, true⟩, ⟨.mov 39 (.t 4), some 39, none, false⟩, ⟨.mov 40 (.t 5), some 40, none, false⟩, ⟨.call 41 43 [.t 39, .t 40], some 41, none, true⟩, ⟨.iad 42 34 (.t 38) 1, some 42, none, false⟩, ⟨.sto 42 (.t 41) none, none, none, false⟩]
def r_spec_DrawTableOf_10 : List GI := [⟨.mov 43 (.t 4), some 43, none, false⟩, ⟨.call 44 41 [.t 43, .k (.v (.int .i64 16))], some 44, none, true⟩, ⟨.bin 45 .eql (.t 44) (.k (.v (.int .i64 0))), some 45, none, false⟩]
def r_spec_DrawTableOf_11 : List GI := [⟨.mov 46 (.t 4), some 46, none, false⟩, ⟨.bsl 47 1 none [.v (.int .i64 0), .v (.int .i64 0), .v (.int .i64 0)] [(0, .k (.v (.int .i64 0))), (1, .k (.v (.int .i64 7))), (2, .k (.v (.int .i64 2)))], some 47, none, false⟩, ⟨.call 48 44 [.t 46, .t 47], some 48, none, true⟩, ⟨.mov 5 (.t 48), some 5, none, false⟩]
def r_spec_DrawTableOf_12 : List GI := [⟨.mov 49 (.t 5), some 49, none, false⟩, ⟨.mov 50 (.t 6), some 50, none, false⟩, ⟨.mov 2 (.t 49), some 2, none, false⟩, ⟨.mov 3 (.t 50), some 3, none, false⟩]
def dc_spec_DrawTableOf : DC := .seq (.reg r_spec_DrawTableOf_0 none) (.seq (.reg r_spec_DrawTableOf_1 none) (.seq (.reg r_spec_DrawTableOf_2 none) (.seq (.reg r_spec_DrawTableOf_3 none) (.seq (.seq (.reg r_spec_DrawTableOf_4 none) (.block 0 (.loop (.seq (.seq (.reg r_spec_DrawTableOf_5 none) (.cond (.t 17) .skip (.exit 0))) (.seq (.block 1 (.reg r_spec_DrawTableOf_6 none)) (.reg r_spec_DrawTableOf_7 none)))))) (.seq (.seq (.reg r_spec_DrawTableOf_8 none) (.cond (.t 33) (.reg r_spec_DrawTableOf_9 none) .skip)) (.seq (.seq (.reg r_spec_DrawTableOf_10 none) (.cond (.t 45) (.reg r_spec_DrawTableOf_11 none) .skip)) (.seq (.reg r_spec_DrawTableOf_12 none) .ret)))))))
theorem c_spec_DrawTableOf : cfun Try.prog [] 13 = some (51, dc_spec_DrawTableOf, [(Res.tmp 2), (Res.tmp 3)]) := by kernel_rfl
end
end Go.Proofs.Ytkjgambmledioaa
