/-
  Functions of the program read as code on plain data. Closed facts of the program alone.
-/
import Derived.Test.YtpcebjlkckgplaaRows
import Derived.Test.YtpcebjlkckgplaaVLib
import Derived.KernelRfl
namespace Go.Proofs.Ytpcebjlkckgplaa
open Go.RowKit
noncomputable section
def r_laws_FnExactValidExpr_0 : List GI := [⟨.box 2 2000002 (.t 0) (some 5), some 2, none, false⟩, ⟨.mov 4 (.k (.v (.bool false))), some 4, none, false⟩]
def r_laws_FnExactValidExpr_1 : List GI := [⟨.mov 5 (.k (.v (.int .i64 1048576))), some 5, none, false⟩]
def r_laws_FnExactValidExpr_2 : List GI := [⟨.lod 9 2 (some 5), some 9, none, false⟩, ⟨.mov 10 (.t 5), some 10, none, false⟩, ⟨.call 11 21 [.t 9, .t 10], some 11, none, true⟩, ⟨.mov 5 (.t 11), some 5, none, false⟩]
def r_laws_FnExactValidExpr_3 : List GI := [⟨.mov 12 (.t 5), some 12, none, false⟩, ⟨.bin 13 .lss (.t 12) (.k (.v (.int .i64 0))), some 13, none, false⟩]
def r_laws_FnExactValidExpr_4 : List GI := [⟨.mov 4 (.k (.v (.bool true))), some 4, none, false⟩]
def r_laws_FnExactValidExpr_5 : List GI := [⟨.lod 14 2 (some 5), some 14, none, false⟩, ⟨.call 15 23 [.t 14], some 15, none, true⟩, ⟨.mov 16 (.t 1), some 16, none, false⟩, ⟨.call 17 22 [.t 15, .t 16], some 17, none, true⟩, ⟨.mov 6 (.t 17), some 6, none, false⟩]
def r_laws_FnExactValidExpr_6 : List GI := [⟨.lod 18 2 (some 5), some 18, none, false⟩, ⟨.call 19 23 [.t 18], some 19, none, true⟩, ⟨.alloc 7 2000007 [.v (.int .i64 0), .v (.int .i64 0), .v (.bool false), .v (.int .i64 0), .nul], some 7, none, false⟩, ⟨.sto 7 (.t 19) (some 5), none, none, false⟩]
def r_laws_FnExactValidExpr_7 : List GI := [⟨.lod 20 7 (some 5), some 20, none, false⟩, ⟨.mov 21 (.t 1), some 21, none, false⟩, ⟨.call 22 17 [.t 20, .t 21], some 22, none, true⟩, ⟨.mov 8 (.t 22), some 8, none, false⟩]
def r_laws_FnExactValidExpr_8 : List GI := [⟨.mov 23 (.t 8), some 23, none, false⟩, ⟨.mov 24 (.t 6), some 24, none, false⟩, ⟨.beq 25 true (.t 23) (.t 24), some 25, none, false⟩]
def r_laws_FnExactValidExpr_9 : List GI := [⟨.mov 4 (.k (.v (.bool false))), some 4, none, false⟩]
def r_laws_FnExactValidExpr_10 : List GI := [⟨.lod 26 7 (some 5), some 26, none, false⟩, ⟨.lod 27 2 (some 5), some 27, none, false⟩, ⟨.call 28 23 [.t 27], some 28, none, true⟩, ⟨.call 29 24 [.t 26, .t 28], some 29, none, true⟩, ⟨.un 30 UnOp.not (.t 29), some 30, none, false⟩]
def r_laws_FnExactValidExpr_11 : List GI := [⟨.mov 4 (.k (.v (.bool false))), some 4, none, false⟩]
def r_laws_FnExactValidExpr_12 : List GI := [⟨.mov 4 (.k (.v (.bool true))), some 4, none, false⟩]
def dc_laws_FnExactValidExpr : DC := .seq (.reg r_laws_FnExactValidExpr_0 none) (.seq (.reg r_laws_FnExactValidExpr_1 none) (.seq (.reg r_laws_FnExactValidExpr_2 none) (.seq (.seq (.reg r_laws_FnExactValidExpr_3 none) (.cond (.t 13) (.seq (.reg r_laws_FnExactValidExpr_4 none) .ret) .skip)) (.seq (.reg r_laws_FnExactValidExpr_5 none) (.seq (.reg r_laws_FnExactValidExpr_6 none) (.seq (.reg r_laws_FnExactValidExpr_7 none) (.seq (.seq (.reg r_laws_FnExactValidExpr_8 none) (.cond (.t 25) (.seq (.reg r_laws_FnExactValidExpr_9 none) .ret) .skip)) (.seq (.seq (.reg r_laws_FnExactValidExpr_10 (some [0, 0, 2, 7, 15])) (.cond (.t 30) (.seq (.reg r_laws_FnExactValidExpr_11 none) .ret) .skip)) (.seq (.reg r_laws_FnExactValidExpr_12 none) .ret)))))))))
theorem c_laws_FnExactValidExpr : cfun Try.prog [] 10 = some (31, dc_laws_FnExactValidExpr, [(Res.tmp 4)]) := by kernel_rfl
end
end Go.Proofs.Ytpcebjlkckgplaa
