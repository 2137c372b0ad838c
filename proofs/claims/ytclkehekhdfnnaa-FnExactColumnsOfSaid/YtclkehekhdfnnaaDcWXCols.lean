/-
  Functions of the program read as code on plain data. Closed facts of the program alone.
-/
import Derived.Test.YtclkehekhdfnnaaRows
import Derived.Test.YtclkehekhdfnnaaVLib
import Derived.KernelRfl
namespace Go.Proofs.Ytclkehekhdfnnaa
open Go.RowKit
noncomputable section
def r_laws_FnExactColumnsOf_0 : List GI := [⟨.box 1 2000001 (.t 0) (some 5), some 1, none, false⟩, ⟨.mov 2 (.k (.v (.bool false))), some 2, none, false⟩]
def r_laws_FnExactColumnsOf_1 : List GI := [⟨.mov 3 (.k (.v (.int .i64 1048576))), some 3, none, false⟩]
def r_laws_FnExactColumnsOf_2 : List GI := [⟨.lod 11 1 (some 5), some 11, none, false⟩, ⟨.mov 12 (.t 3), some 12, none, false⟩, ⟨.call 13 8 [.t 11, .t 12], some 13, none, true⟩, ⟨.mov 3 (.t 13), some 3, none, false⟩]
def r_laws_FnExactColumnsOf_3 : List GI := [⟨.mov 14 (.t 3), some 14, none, false⟩, ⟨.bin 15 .lss (.t 14) (.k (.v (.int .i64 0))), some 15, none, false⟩]
def r_laws_FnExactColumnsOf_4 : List GI := [⟨.mov 2 (.k (.v (.bool true))), some 2, none, false⟩]
def r_laws_FnExactColumnsOf_5 : List GI := [⟨.lod 16 1 (some 5), some 16, none, false⟩, ⟨.call 17 10 [.t 16], some 17, none, true⟩, ⟨.call 18 9 [.t 17], some 18, none, true⟩, ⟨.mov 4 (.t 18), some 4, none, false⟩]
def r_laws_FnExactColumnsOf_6 : List GI := [⟨.lod 19 1 (some 5), some 19, none, false⟩, ⟨.call 20 10 [.t 19], some 20, none, true⟩, ⟨.alloc 5 2000005 [.v (.int .i64 0), .v (.int .i64 0), .v (.bool false), .v (.int .i64 0), .nul], some 5, none, false⟩, ⟨.sto 5 (.t 20) (some 5), none, none, false⟩]
def r_laws_FnExactColumnsOf_7 : List GI := [⟨.lod 21 5 (some 5), some 21, none, false⟩, ⟨.call 22 11 [.t 21], some 22, none, true⟩, ⟨.mov 6 (.t 22), some 6, none, false⟩]
def r_laws_FnExactColumnsOf_8 : List GI := [⟨.mov 23 (.t 6), some 23, none, false⟩, ⟨.mov 24 (.t 4), some 24, none, false⟩, ⟨.call 25 12 [.t 23, .t 24], some 25, none, true⟩, ⟨.un 26 UnOp.not (.t 25), some 26, none, false⟩]
def r_laws_FnExactColumnsOf_9 : List GI := [⟨.mov 2 (.k (.v (.bool false))), some 2, none, false⟩]
def r_laws_FnExactColumnsOf_10 : List GI := [⟨.lod 27 5 (some 5), some 27, none, false⟩, ⟨.lod 28 1 (some 5), some 28, none, false⟩, ⟨.call 29 10 [.t 28], some 29, none, true⟩, ⟨.call 30 13 [.t 27, .t 29], some 30, none, true⟩, ⟨.un 31 UnOp.not (.t 30), some 31, none, false⟩]
def r_laws_FnExactColumnsOf_11 : List GI := [⟨.mov 2 (.k (.v (.bool false))), some 2, none, false⟩]
def r_laws_FnExactColumnsOf_12 : List GI := [⟨.mov 7 (.k (.v (.int .i64 1))), some 7, none, false⟩]
def r_laws_FnExactColumnsOf_13 : List GI := [⟨.lod 32 5 (some 5), some 32, none, false⟩, ⟨.mov 33 (.t 7), some 33, none, false⟩, ⟨.call 34 14 [.t 32, .t 33], some 34, none, true⟩, ⟨.mov 7 (.t 34), some 7, none, false⟩]
def r_laws_FnExactColumnsOf_14 : List GI := [⟨.mov 35 (.t 7), some 35, none, false⟩, ⟨.bin 36 .lss (.t 35) (.k (.v (.int .i64 0))), some 36, none, false⟩, ⟨.mov 37 (.t 36), some 37, none, false⟩, ⟨.mov 38 (.t 6), some 38, some (37, false), false⟩, ⟨.mov 39 (.t 4), some 39, some (37, false), false⟩, ⟨.call 40 12 [.t 38, .t 39], some 40, some (37, false), true⟩, ⟨.un 41 UnOp.not (.t 40), some 41, some (37, false), false⟩, ⟨.pick 42 (.t 37) (.k (.v (.bool true))) (.t 41), some 42, none, false⟩]
def r_laws_FnExactColumnsOf_15 : List GI := [⟨.mov 2 (.k (.v (.bool false))), some 2, none, false⟩]
def r_laws_FnExactColumnsOf_16 : List GI := [⟨.mov 8 (.k (.v (.int .i64 1))), some 8, none, false⟩]
def r_laws_FnExactColumnsOf_17 : List GI := [⟨.mov 43 (.t 6), some 43, none, false⟩, ⟨.mov 44 (.t 8), some 44, none, false⟩, ⟨.call 45 15 [.t 43, .t 44], some 45, none, true⟩, ⟨.mov 8 (.t 45), some 8, none, false⟩]
def r_laws_FnExactColumnsOf_18 : List GI := [⟨.mov 9 (.k (.v (.int .i64 1))), some 9, none, false⟩]
def r_laws_FnExactColumnsOf_19 : List GI := [⟨.mov 46 (.t 6), some 46, none, false⟩, ⟨.mov 47 (.t 9), some 47, none, false⟩, ⟨.call 48 16 [.t 46, .t 47], some 48, none, true⟩, ⟨.mov 9 (.t 48), some 9, none, false⟩]
def r_laws_FnExactColumnsOf_20 : List GI := [⟨.mov 49 (.t 9), some 49, none, false⟩, ⟨.bin 50 .lss (.t 49) (.k (.v (.int .i64 0))), some 50, none, false⟩]
def r_laws_FnExactColumnsOf_21 : List GI := [⟨.mov 2 (.k (.v (.bool false))), some 2, none, false⟩]
def r_laws_FnExactColumnsOf_22 : List GI := [⟨.mov 51 (.t 9), some 51, none, false⟩, ⟨.mov 52 (.t 8), some 52, none, false⟩, ⟨.bin 53 .neq (.t 51) (.t 52), some 53, none, false⟩]
def r_laws_FnExactColumnsOf_23 : List GI := [⟨.mov 2 (.k (.v (.bool false))), some 2, none, false⟩]
def r_laws_FnExactColumnsOf_24 : List GI := [⟨.lod 54 1 (some 5), some 54, none, false⟩, ⟨.call 55 10 [.t 54], some 55, none, true⟩, ⟨.call 56 11 [.t 55], some 56, none, true⟩, ⟨.mov 10 (.t 56), some 10, none, false⟩]
def r_laws_FnExactColumnsOf_25 : List GI := [⟨.mov 57 (.t 10), some 57, none, false⟩, ⟨.mov 58 (.t 4), some 58, none, false⟩, ⟨.call 59 12 [.t 57, .t 58], some 59, none, true⟩, ⟨.un 60 UnOp.not (.t 59), some 60, none, false⟩]
def r_laws_FnExactColumnsOf_26 : List GI := [⟨.mov 2 (.k (.v (.bool false))), some 2, none, false⟩]
def r_laws_FnExactColumnsOf_27 : List GI := [⟨.mov 9 (.k (.v (.int .i64 1))), some 9, none, false⟩]
def r_laws_FnExactColumnsOf_28 : List GI := [⟨.mov 61 (.t 6), some 61, none, false⟩, ⟨.mov 62 (.t 9), some 62, none, false⟩, ⟨.call 63 16 [.t 61, .t 62], some 63, none, true⟩, ⟨.mov 9 (.t 63), some 9, none, false⟩]
def r_laws_FnExactColumnsOf_29 : List GI := [⟨.mov 64 (.t 9), some 64, none, false⟩, ⟨.bin 65 .lss (.t 64) (.k (.v (.int .i64 0))), some 65, none, false⟩]
def r_laws_FnExactColumnsOf_30 : List GI := [⟨.mov 2 (.k (.v (.bool false))), some 2, none, false⟩]
def r_laws_FnExactColumnsOf_31 : List GI := [⟨.mov 66 (.t 9), some 66, none, false⟩, ⟨.mov 67 (.t 8), some 67, none, false⟩, ⟨.bin 68 .neq (.t 66) (.t 67), some 68, none, false⟩]
def r_laws_FnExactColumnsOf_32 : List GI := [⟨.mov 2 (.k (.v (.bool false))), some 2, none, false⟩]
def r_laws_FnExactColumnsOf_33 : List GI := [⟨.mov 2 (.k (.v (.bool true))), some 2, none, false⟩]
def dc_laws_FnExactColumnsOf : DC := .seq (.reg r_laws_FnExactColumnsOf_0 none) (.seq (.reg r_laws_FnExactColumnsOf_1 none) (.seq (.reg r_laws_FnExactColumnsOf_2 none) (.seq (.seq (.reg r_laws_FnExactColumnsOf_3 none) (.cond (.t 15) (.seq (.reg r_laws_FnExactColumnsOf_4 none) .ret) .skip)) (.seq (.reg r_laws_FnExactColumnsOf_5 none) (.seq (.reg r_laws_FnExactColumnsOf_6 none) (.seq (.reg r_laws_FnExactColumnsOf_7 none) (.seq (.seq (.reg r_laws_FnExactColumnsOf_8 none) (.cond (.t 26) (.seq (.reg r_laws_FnExactColumnsOf_9 none) .ret) .skip)) (.seq (.seq (.reg r_laws_FnExactColumnsOf_10 (some [0, 0, 2, 7, 15])) (.cond (.t 31) (.seq (.reg r_laws_FnExactColumnsOf_11 none) .ret) .skip)) (.seq (.reg r_laws_FnExactColumnsOf_12 none) (.seq (.reg r_laws_FnExactColumnsOf_13 none) (.seq (.seq (.reg r_laws_FnExactColumnsOf_14 none) (.cond (.t 42) (.seq (.reg r_laws_FnExactColumnsOf_15 none) .ret) .skip)) (.seq (.reg r_laws_FnExactColumnsOf_16 none) (.seq (.reg r_laws_FnExactColumnsOf_17 none) (.seq (.reg r_laws_FnExactColumnsOf_18 none) (.seq (.reg r_laws_FnExactColumnsOf_19 none) (.seq (.seq (.reg r_laws_FnExactColumnsOf_20 none) (.cond (.t 50) (.seq (.reg r_laws_FnExactColumnsOf_21 none) .ret) .skip)) (.seq (.seq (.reg r_laws_FnExactColumnsOf_22 none) (.cond (.t 53) (.seq (.reg r_laws_FnExactColumnsOf_23 none) .ret) .skip)) (.seq (.reg r_laws_FnExactColumnsOf_24 none) (.seq (.seq (.reg r_laws_FnExactColumnsOf_25 none) (.cond (.t 60) (.seq (.reg r_laws_FnExactColumnsOf_26 none) .ret) .skip)) (.seq (.reg r_laws_FnExactColumnsOf_27 none) (.seq (.reg r_laws_FnExactColumnsOf_28 none) (.seq (.seq (.reg r_laws_FnExactColumnsOf_29 none) (.cond (.t 65) (.seq (.reg r_laws_FnExactColumnsOf_30 none) .ret) .skip)) (.seq (.seq (.reg r_laws_FnExactColumnsOf_31 none) (.cond (.t 68) (.seq (.reg r_laws_FnExactColumnsOf_32 none) .ret) .skip)) (.seq (.reg r_laws_FnExactColumnsOf_33 none) .ret))))))))))))))))))))))))
theorem c_laws_FnExactColumnsOf : cfun Try.prog [] 3 = some (69, dc_laws_FnExactColumnsOf, [(Res.tmp 2)]) := by kernel_rfl
end
end Go.Proofs.Ytclkehekhdfnnaa
