/-
  Functions of the program read as code on plain data. Closed facts of the program alone.
-/
import Derived.Test.YtpcebjlkckgplaaRows
import Derived.Test.YtpcebjlkckgplaaVLib
import Derived.KernelRfl
namespace Go.Proofs.Ytpcebjlkckgplaa
open Go.RowKit
noncomputable section
def r_laws_FnExactExprSize_0 : List GI := [⟨.box 1 2000001 (.t 0) (some 5), some 1, none, false⟩, ⟨.mov 2 (.k (.v (.bool false))), some 2, none, false⟩]
def r_laws_FnExactExprSize_1 : List GI := [⟨.mov 3 (.k (.v (.int .i64 1048576))), some 3, none, false⟩]
def r_laws_FnExactExprSize_2 : List GI := [⟨.lod 7 1 (some 5), some 7, none, false⟩, ⟨.mov 8 (.t 3), some 8, none, false⟩, ⟨.call 9 21 [.t 7, .t 8], some 9, none, true⟩, ⟨.mov 3 (.t 9), some 3, none, false⟩]
def r_laws_FnExactExprSize_3 : List GI := [⟨.mov 10 (.t 3), some 10, none, false⟩, ⟨.bin 11 .lss (.t 10) (.k (.v (.int .i64 0))), some 11, none, false⟩]
def r_laws_FnExactExprSize_4 : List GI := [⟨.mov 2 (.k (.v (.bool true))), some 2, none, false⟩]
def r_laws_FnExactExprSize_5 : List GI := [⟨.lod 12 1 (some 5), some 12, none, false⟩, ⟨.call 13 23 [.t 12], some 13, none, true⟩, ⟨.call 14 29 [.t 13], some 14, none, true⟩, ⟨.mov 4 (.t 14), some 4, none, false⟩]
def r_laws_FnExactExprSize_6 : List GI := [⟨.lod 15 1 (some 5), some 15, none, false⟩, ⟨.call 16 23 [.t 15], some 16, none, true⟩, ⟨.alloc 5 2000005 [.v (.int .i64 0), .v (.int .i64 0), .v (.bool false), .v (.int .i64 0), .nul], some 5, none, false⟩, ⟨.sto 5 (.t 16) (some 5), none, none, false⟩]
def r_laws_FnExactExprSize_7 : List GI := [⟨.lod 17 5 (some 5), some 17, none, false⟩, ⟨.call 18 30 [.t 17], some 18, none, true⟩, ⟨.mov 6 (.t 18), some 6, none, false⟩]
def r_laws_FnExactExprSize_8 : List GI := [⟨.mov 19 (.t 6), some 19, none, false⟩, ⟨.mov 20 (.t 4), some 20, none, false⟩, ⟨.bin 21 .neq (.t 19) (.t 20), some 21, none, false⟩]
def r_laws_FnExactExprSize_9 : List GI := [⟨.mov 2 (.k (.v (.bool false))), some 2, none, false⟩]
def r_laws_FnExactExprSize_10 : List GI := [⟨.lod 22 5 (some 5), some 22, none, false⟩, ⟨.lod 23 1 (some 5), some 23, none, false⟩, ⟨.call 24 23 [.t 23], some 24, none, true⟩, ⟨.call 25 24 [.t 22, .t 24], some 25, none, true⟩, ⟨.un 26 UnOp.not (.t 25), some 26, none, false⟩]
def r_laws_FnExactExprSize_11 : List GI := [⟨.mov 2 (.k (.v (.bool false))), some 2, none, false⟩]
def r_laws_FnExactExprSize_12 : List GI := [⟨.mov 2 (.k (.v (.bool true))), some 2, none, false⟩]
def dc_laws_FnExactExprSize : DC := .seq (.reg r_laws_FnExactExprSize_0 none) (.seq (.reg r_laws_FnExactExprSize_1 none) (.seq (.reg r_laws_FnExactExprSize_2 none) (.seq (.seq (.reg r_laws_FnExactExprSize_3 none) (.cond (.t 11) (.seq (.reg r_laws_FnExactExprSize_4 none) .ret) .skip)) (.seq (.reg r_laws_FnExactExprSize_5 none) (.seq (.reg r_laws_FnExactExprSize_6 none) (.seq (.reg r_laws_FnExactExprSize_7 none) (.seq (.seq (.reg r_laws_FnExactExprSize_8 none) (.cond (.t 21) (.seq (.reg r_laws_FnExactExprSize_9 none) .ret) .skip)) (.seq (.seq (.reg r_laws_FnExactExprSize_10 (some [0, 0, 2, 7, 15])) (.cond (.t 26) (.seq (.reg r_laws_FnExactExprSize_11 none) .ret) .skip)) (.seq (.reg r_laws_FnExactExprSize_12 none) .ret)))))))))
theorem c_laws_FnExactExprSize : cfun Try.prog [] 12 = some (27, dc_laws_FnExactExprSize, [(Res.tmp 2)]) := by kernel_rfl
end
end Go.Proofs.Ytpcebjlkckgplaa
