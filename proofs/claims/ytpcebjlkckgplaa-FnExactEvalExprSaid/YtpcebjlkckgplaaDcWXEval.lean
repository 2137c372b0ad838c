/-
  Functions of the program read as code on plain data. Closed facts of the program alone.
-/
import Derived.Test.YtpcebjlkckgplaaRows
import Derived.Test.YtpcebjlkckgplaaVLib
import Derived.KernelRfl
namespace Go.Proofs.Ytpcebjlkckgplaa
open Go.RowKit
noncomputable section
def r_laws_FnExactEvalExpr_0 : List GI := [⟨.box 2 2000002 (.t 0) (some 5), some 2, none, false⟩, ⟨.mov 4 (.k (.v (.bool false))), some 4, none, false⟩]
def r_laws_FnExactEvalExpr_1 : List GI := [⟨.mov 5 (.k (.v (.int .i64 1048576))), some 5, none, false⟩]
def r_laws_FnExactEvalExpr_2 : List GI := [⟨.lod 12 2 (some 5), some 12, none, false⟩, ⟨.mov 13 (.t 5), some 13, none, false⟩, ⟨.call 14 21 [.t 12, .t 13], some 14, none, true⟩, ⟨.mov 5 (.t 14), some 5, none, false⟩]
def r_laws_FnExactEvalExpr_3 : List GI := [⟨.mov 15 (.t 5), some 15, none, false⟩, ⟨.bin 16 .lss (.t 15) (.k (.v (.int .i64 0))), some 16, none, false⟩]
def r_laws_FnExactEvalExpr_4 : List GI := [⟨.mov 4 (.k (.v (.bool true))), some 4, none, false⟩]
def r_laws_FnExactEvalExpr_5 : List GI := [⟨.mov 17 (.t 1), some 17, none, false⟩, ⟨.mov 18 (.t 5), some 18, none, false⟩, ⟨.call 19 25 [.t 17, .t 18], some 19, none, true⟩, ⟨.mov 5 (.t 19), some 5, none, false⟩]
def r_laws_FnExactEvalExpr_6 : List GI := [⟨.mov 20 (.t 5), some 20, none, false⟩, ⟨.bin 21 .lss (.t 20) (.k (.v (.int .i64 0))), some 21, none, false⟩]
def r_laws_FnExactEvalExpr_7 : List GI := [⟨.mov 4 (.k (.v (.bool true))), some 4, none, false⟩]
def r_laws_FnExactEvalExpr_8 : List GI := [⟨.lod 23 2 (some 5), some 23, none, false⟩, ⟨.call 24 23 [.t 23], some 24, none, true⟩, ⟨.mov 25 (.t 1), some 25, none, false⟩, ⟨.call 26 26 [.t 25], some 26, none, true⟩, ⟨.call 27 15 [.t 24, .t 26], some 27, none, true⟩, ⟨.mov 22 (.t 27), some 22, none, false⟩, ⟨.ext 28 22 0, some 28, none, false⟩, ⟨.ext 29 22 1, some 29, none, false⟩, ⟨.alloc 6 2000006 [.v (.bool false), .v (.int .i64 0)], some 6, none, false⟩, ⟨.sto 6 (.t 28) (some 2), none, none, false⟩, ⟨.mov 7 (.t 29), some 7, none, false⟩]
def r_laws_FnExactEvalExpr_9 : List GI := [⟨.lod 30 2 (some 5), some 30, none, false⟩, ⟨.call 31 23 [.t 30], some 31, none, true⟩, ⟨.alloc 8 2000008 [.v (.int .i64 0), .v (.int .i64 0), .v (.bool false), .v (.int .i64 0), .nul], some 8, none, false⟩, ⟨.sto 8 (.t 31) (some 5), none, none, false⟩]
def r_laws_FnExactEvalExpr_10 : List GI := [⟨.mov 32 (.t 1), some 32, none, false⟩, ⟨.call 33 26 [.t 32], some 33, none, true⟩, ⟨.mov 9 (.t 33), some 9, none, false⟩]
def r_laws_FnExactEvalExpr_11 : List GI := [⟨.lod 35 8 (some 5), some 35, none, false⟩, ⟨.mov 36 (.t 9), some 36, none, false⟩, ⟨.call 37 14 [.t 35, .t 36], some 37, none, true⟩, ⟨.mov 34 (.t 37), some 34, none, false⟩, ⟨.ext 38 34 0, some 38, none, false⟩, ⟨.ext 39 34 1, some 39, none, false⟩, ⟨.alloc 10 2000010 [.v (.bool false), .v (.int .i64 0)], some 10, none, false⟩, ⟨.sto 10 (.t 38) (some 2), none, none, false⟩, ⟨.mov 11 (.t 39), some 11, none, false⟩]
def r_laws_FnExactEvalExpr_12 : List GI := [⟨.lod 40 10 (some 2), some 40, none, false⟩, ⟨.lod 41 6 (some 2), some 41, none, false⟩, ⟨.call 42 27 [.t 40, .t 41], some 42, none, true⟩, ⟨.un 43 UnOp.not (.t 42), some 43, none, false⟩, ⟨.mov 44 (.t 43), some 44, none, false⟩, ⟨.mov 45 (.t 11), some 45, some (44, false), false⟩, ⟨.mov 46 (.t 7), some 46, some (44, false), false⟩, ⟨.beq 47 true (.t 45) (.t 46), some 47, some (44, false), false⟩, ⟨.pick 48 (.t 44) (.k (.v (.bool true))) (.t 47), some 48, none, false⟩]
def r_laws_FnExactEvalExpr_13 : List GI := [⟨.mov 4 (.k (.v (.bool false))), some 4, none, false⟩]
def r_laws_FnExactEvalExpr_14 : List GI := [⟨.lod 49 8 (some 5), some 49, none, false⟩, ⟨.lod 50 2 (some 5), some 50, none, false⟩, ⟨.call 51 23 [.t 50], some 51, none, true⟩, ⟨.call 52 24 [.t 49, .t 51], some 52, none, true⟩, ⟨.un 53 UnOp.not (.t 52), some 53, none, false⟩]
def r_laws_FnExactEvalExpr_15 : List GI := [⟨.mov 4 (.k (.v (.bool false))), some 4, none, false⟩]
def r_laws_FnExactEvalExpr_16 : List GI := [⟨.mov 54 (.t 9), some 54, none, false⟩, ⟨.mov 55 (.t 1), some 55, none, false⟩, ⟨.call 56 26 [.t 55], some 56, none, true⟩, ⟨.call 57 28 [.t 54, .t 56], some 57, none, true⟩, ⟨.un 58 UnOp.not (.t 57), some 58, none, false⟩]
def r_laws_FnExactEvalExpr_17 : List GI := [⟨.mov 4 (.k (.v (.bool false))), some 4, none, false⟩]
def r_laws_FnExactEvalExpr_18 : List GI := [⟨.mov 4 (.k (.v (.bool true))), some 4, none, false⟩]
def dc_laws_FnExactEvalExpr : DC := .seq (.reg r_laws_FnExactEvalExpr_0 none) (.seq (.reg r_laws_FnExactEvalExpr_1 none) (.seq (.reg r_laws_FnExactEvalExpr_2 none) (.seq (.seq (.reg r_laws_FnExactEvalExpr_3 none) (.cond (.t 16) (.seq (.reg r_laws_FnExactEvalExpr_4 none) .ret) .skip)) (.seq (.reg r_laws_FnExactEvalExpr_5 none) (.seq (.seq (.reg r_laws_FnExactEvalExpr_6 none) (.cond (.t 21) (.seq (.reg r_laws_FnExactEvalExpr_7 none) .ret) .skip)) (.seq (.reg r_laws_FnExactEvalExpr_8 none) (.seq (.reg r_laws_FnExactEvalExpr_9 none) (.seq (.reg r_laws_FnExactEvalExpr_10 none) (.seq (.reg r_laws_FnExactEvalExpr_11 none) (.seq (.seq (.reg r_laws_FnExactEvalExpr_12 none) (.cond (.t 48) (.seq (.reg r_laws_FnExactEvalExpr_13 none) .ret) .skip)) (.seq (.seq (.reg r_laws_FnExactEvalExpr_14 (some [0, 0, 2, 7, 15])) (.cond (.t 53) (.seq (.reg r_laws_FnExactEvalExpr_15 none) .ret) .skip)) (.seq (.seq (.reg r_laws_FnExactEvalExpr_16 none) (.cond (.t 58) (.seq (.reg r_laws_FnExactEvalExpr_17 none) .ret) .skip)) (.seq (.reg r_laws_FnExactEvalExpr_18 none) .ret)))))))))))))
theorem c_laws_FnExactEvalExpr : cfun Try.prog [] 11 = some (59, dc_laws_FnExactEvalExpr, [(Res.tmp 4)]) := by kernel_rfl
end
end Go.Proofs.Ytpcebjlkckgplaa
