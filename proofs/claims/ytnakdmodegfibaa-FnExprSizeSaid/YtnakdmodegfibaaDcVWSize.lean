/-
  Functions of the program read as code on plain data. Closed facts of the program alone.
-/
import Derived.Test.YtnakdmodegfibaaRows
import Derived.Test.YtnakdmodegfibaaVLib
import Derived.KernelRfl
namespace Go.Proofs.Ytnakdmodegfibaa
open Go.RowKit
noncomputable section
def r_laws_FnExprSize_0 : List GI := [⟨.mov 2 (.k (.v (.bool false))), some 2, none, false⟩]
def r_laws_FnExprSize_1 : List GI := [⟨.mov 7 (.t 0), some 7, none, false⟩, ⟨.len 8 (.t 7), some 8, none, false⟩, ⟨.bin 9 .gtr (.t 8) (.k (.v (.int .i64 1048576))), some 9, none, false⟩]
def r_laws_FnExprSize_2 : List GI := [⟨.mov 2 (.k (.v (.bool true))), some 2, none, false⟩]
def r_laws_FnExprSize_3 : List GI := [⟨.mov 10 (.t 0), some 10, none, false⟩, ⟨.call 11 16 [.t 10], some 11, none, true⟩, ⟨.alloc 3 2000003 [.v (.int .i64 0), .v (.int .i64 0), .v (.bool false), .v (.int .i64 0), .nul], some 3, none, false⟩, ⟨.sto 3 (.t 11) (some 5), none, none, false⟩]
def r_laws_FnExprSize_4 : List GI := [⟨.lod 12 3 (some 5), some 12, none, false⟩, ⟨.call 13 17 [.t 12], some 13, none, true⟩, ⟨.mov 4 (.t 13), some 4, none, false⟩]
def r_laws_FnExprSize_5 : List GI := [⟨.mov 14 (.t 4), some 14, none, false⟩, ⟨.lod 15 3 (some 5), some 15, none, false⟩, ⟨.call 16 18 [.t 15], some 16, none, true⟩, ⟨.bin 17 .neq (.t 14) (.t 16), some 17, none, false⟩, ⟨.mov 18 (.t 17), some 18, none, false⟩, ⟨.mov 19 (.t 4), some 19, some (18, false), false⟩, ⟨.bin 20 .eql (.t 19) (.k (.v (.int .i64 0))), some 20, some (18, false), false⟩, ⟨.pick 21 (.t 18) (.k (.v (.bool true))) (.t 20), some 21, none, false⟩]
def r_laws_FnExprSize_6 : List GI := [⟨.mov 22 (.t 4), some 22, none, false⟩, ⟨.lod 23 3 (some 5), some 23, none, false⟩, ⟨.call 24 18 [.t 23], some 24, none, true⟩, ⟨.bin 25 .eql (.t 22) (.t 24), some 25, none, false⟩, ⟨.mov 26 (.t 25), some 26, none, false⟩, ⟨.lod 27 3 (some 5), some 27, some (26, true), false⟩, ⟨.call 28 19 [.t 27, .k (.v (.int .i64 6))], some 28, some (26, true), true⟩, ⟨.un 29 UnOp.not (.t 28), some 29, some (26, true), false⟩, ⟨.pick 30 (.t 26) (.t 29) (.k (.v (.bool false))), some 30, none, false⟩, ⟨.mov 2 (.t 30), some 2, none, false⟩]
def r_laws_FnExprSize_7 : List GI := [⟨.mov 5 (.k (.v (.int .i64 1))), some 5, none, false⟩]
def r_laws_FnExprSize_8 : List GI := [⟨.mov 6 (.k (.v (.int .i64 0))), some 6, none, false⟩]
def r_laws_FnExprSize_9 : List GI := [⟨.mov 31 (.t 6), some 31, none, false⟩, ⟨.fad 32 3 4, some 32, none, false⟩, ⟨.lod 33 32 none, some 33, none, false⟩, ⟨.len 34 (.t 33), some 34, none, false⟩, ⟨.bin 35 .lss (.t 31) (.t 34), some 35, none, false⟩]
def r_laws_FnExprSize_10 : List GI := [⟨.mov 38 (.t 5), some 38, none, false⟩, ⟨.fad 39 3 4, some 39, none, false⟩, ⟨.lod 40 39 none, some 40, none, false⟩, ⟨.mov 41 (.t 6), some 41, none, false⟩, ⟨.iad 42 40 (.t 41) 5, some 42, none, false⟩, ⟨.lod 43 42 (some 5), some 43, none, false⟩, ⟨.call 44 17 [.t 43], some 44, none, true⟩, ⟨.bin 45 .add (.t 38) (.t 44), some 45, none, false⟩, ⟨.mov 5 (.t 45), some 5, none, false⟩]
def r_laws_FnExprSize_11 : List GI := [⟨.mov 36 (.t 6), some 36, none, false⟩, ⟨.bin 37 .add (.t 36) (.k (.v (.int .i64 1))), some 37, none, false⟩, ⟨.mov 6 (.t 37), some 6, none, false⟩]
def r_laws_FnExprSize_12 : List GI := [⟨.mov 46 (.t 5), some 46, none, false⟩, ⟨.mov 47 (.t 4), some 47, none, false⟩, ⟨.bin 48 .eql (.t 46) (.t 47), some 48, none, false⟩, ⟨.mov 49 (.t 48), some 49, none, false⟩, ⟨.lod 50 3 (some 5), some 50, some (49, true), false⟩, ⟨.call 51 12 [.t 50], some 51, some (49, true), true⟩, ⟨.len 52 (.t 51), some 52, some (49, true), false⟩, ⟨.mov 53 (.t 4), some 53, some (49, true), false⟩, ⟨.bin 54 .leq (.t 52) (.t 53), some 54, some (49, true), false⟩, ⟨.pick 55 (.t 49) (.t 54) (.k (.v (.bool false))), some 55, none, false⟩, ⟨.mov 2 (.t 55), some 2, none, false⟩]
def dc_laws_FnExprSize : DC := .seq (.reg r_laws_FnExprSize_0 none) (.seq (.seq (.reg r_laws_FnExprSize_1 none) (.cond (.t 9) (.seq (.reg r_laws_FnExprSize_2 none) .ret) .skip)) (.seq (.reg r_laws_FnExprSize_3 none) (.seq (.reg r_laws_FnExprSize_4 none) (.seq (.seq (.reg r_laws_FnExprSize_5 none) (.cond (.t 21) (.seq (.reg r_laws_FnExprSize_6 none) .ret) .skip)) (.seq (.reg r_laws_FnExprSize_7 none) (.seq (.seq (.reg r_laws_FnExprSize_8 none) (.block 0 (.loop (.seq (.seq (.reg r_laws_FnExprSize_9 none) (.cond (.t 35) .skip (.exit 0))) (.seq (.block 1 (.reg r_laws_FnExprSize_10 none)) (.reg r_laws_FnExprSize_11 none)))))) (.seq (.reg r_laws_FnExprSize_12 none) .ret)))))))
theorem c_laws_FnExprSize : cfun Try.prog [] 4 = some (56, dc_laws_FnExprSize, [(Res.tmp 2)]) := by kernel_rfl
def r_spec_DrawExprSize_0 : List GI := [⟨.alloc 2 2000002 [.v (.int .i64 0), .v (.int .i64 0), .v (.bool false), .v (.int .i64 0), .nul], some 2, none, false⟩]
def r_spec_DrawExprSize_1 : List GI := [⟨.mov 4 (.t 0), some 4, none, false⟩, ⟨.call 5 31 [.t 4], some 5, none, true⟩, ⟨.mov 3 (.t 5), some 3, none, false⟩]
def r_spec_DrawExprSize_2 : List GI := [⟨.mov 6 (.t 3), some 6, none, false⟩, ⟨.call 7 33 [.t 6, .k (.v (.int .i64 3))], some 7, none, true⟩, ⟨.sto 2 (.t 7) (some 5), none, none, false⟩]
def dc_spec_DrawExprSize : DC := .seq (.reg r_spec_DrawExprSize_0 none) (.seq (.reg r_spec_DrawExprSize_1 none) (.seq (.reg r_spec_DrawExprSize_2 none) .ret))
theorem c_spec_DrawExprSize : cfun Try.prog [] 16 = some (8, dc_spec_DrawExprSize, [(Res.cell 2 (some 5))]) := by kernel_rfl
end
end Go.Proofs.Ytnakdmodegfibaa
