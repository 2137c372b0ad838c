/-
  Functions of the program read as code on plain data. Closed facts of the program alone.
-/
import Derived.Test.YtedlojihiilonaaRows
import Derived.Test.YtedlojihiilonaaVLib
import Derived.KernelRfl
namespace Go.Proofs.Ytedlojihiilonaa
open Go.RowKit
noncomputable section
def r_laws_FnExactCompareRows_0 : List GI := [⟨.mov 4 (.k (.v (.bool false))), some 4, none, false⟩]
def r_laws_FnExactCompareRows_1 : List GI := [⟨.mov 5 (.k (.v (.int .i64 1048576))), some 5, none, false⟩]
def r_laws_FnExactCompareRows_2 : List GI := [⟨.mov 10 (.t 0), some 10, none, false⟩, ⟨.mov 11 (.t 5), some 11, none, false⟩, ⟨.call 12 17 [.t 10, .t 11], some 12, none, true⟩, ⟨.mov 5 (.t 12), some 5, none, false⟩]
def r_laws_FnExactCompareRows_3 : List GI := [⟨.mov 13 (.t 5), some 13, none, false⟩, ⟨.bin 14 .lss (.t 13) (.k (.v (.int .i64 0))), some 14, none, false⟩]
def r_laws_FnExactCompareRows_4 : List GI := [⟨.mov 4 (.k (.v (.bool true))), some 4, none, false⟩]
def r_laws_FnExactCompareRows_5 : List GI := [⟨.mov 15 (.t 1), some 15, none, false⟩, ⟨.mov 16 (.t 5), some 16, none, false⟩, ⟨.call 17 17 [.t 15, .t 16], some 17, none, true⟩, ⟨.mov 5 (.t 17), some 5, none, false⟩]
def r_laws_FnExactCompareRows_6 : List GI := [⟨.mov 18 (.t 5), some 18, none, false⟩, ⟨.bin 19 .lss (.t 18) (.k (.v (.int .i64 0))), some 19, none, false⟩]
def r_laws_FnExactCompareRows_7 : List GI := [⟨.mov 4 (.k (.v (.bool true))), some 4, none, false⟩]
def r_laws_FnExactCompareRows_8 : List GI := [⟨.mov 20 (.t 0), some 20, none, false⟩, ⟨.call 21 18 [.t 20], some 21, none, true⟩, ⟨.mov 22 (.t 1), some 22, none, false⟩, ⟨.call 23 18 [.t 22], some 23, none, true⟩, ⟨.call 24 10 [.t 21, .t 23], some 24, none, true⟩, ⟨.mov 6 (.t 24), some 6, none, false⟩]
def r_laws_FnExactCompareRows_9 : List GI := [⟨.mov 25 (.t 0), some 25, none, false⟩, ⟨.call 26 18 [.t 25], some 26, none, true⟩, ⟨.mov 7 (.t 26), some 7, none, false⟩]
def r_laws_FnExactCompareRows_10 : List GI := [⟨.mov 27 (.t 1), some 27, none, false⟩, ⟨.call 28 18 [.t 27], some 28, none, true⟩, ⟨.mov 8 (.t 28), some 8, none, false⟩]
def r_laws_FnExactCompareRows_11 : List GI := [⟨.mov 29 (.t 7), some 29, none, false⟩, ⟨.mov 30 (.t 8), some 30, none, false⟩, ⟨.call 31 9 [.t 29, .t 30], some 31, none, true⟩, ⟨.mov 9 (.t 31), some 9, none, false⟩]
def r_laws_FnExactCompareRows_12 : List GI := [⟨.mov 32 (.t 9), some 32, none, false⟩, ⟨.mov 33 (.t 6), some 33, none, false⟩, ⟨.bin 34 .neq (.t 32) (.t 33), some 34, none, false⟩]
def r_laws_FnExactCompareRows_13 : List GI := [⟨.mov 4 (.k (.v (.bool false))), some 4, none, false⟩]
def r_laws_FnExactCompareRows_14 : List GI := [⟨.mov 35 (.t 7), some 35, none, false⟩, ⟨.mov 36 (.t 0), some 36, none, false⟩, ⟨.call 37 18 [.t 36], some 37, none, true⟩, ⟨.call 38 19 [.t 35, .t 37], some 38, none, true⟩, ⟨.un 39 UnOp.not (.t 38), some 39, none, false⟩]
def r_laws_FnExactCompareRows_15 : List GI := [⟨.mov 4 (.k (.v (.bool false))), some 4, none, false⟩]
def r_laws_FnExactCompareRows_16 : List GI := [⟨.mov 40 (.t 8), some 40, none, false⟩, ⟨.mov 41 (.t 1), some 41, none, false⟩, ⟨.call 42 18 [.t 41], some 42, none, true⟩, ⟨.call 43 19 [.t 40, .t 42], some 43, none, true⟩, ⟨.un 44 UnOp.not (.t 43), some 44, none, false⟩]
def r_laws_FnExactCompareRows_17 : List GI := [⟨.mov 4 (.k (.v (.bool false))), some 4, none, false⟩]
def r_laws_FnExactCompareRows_18 : List GI := [⟨.mov 4 (.k (.v (.bool true))), some 4, none, false⟩]
def dc_laws_FnExactCompareRows : DC := .seq (.reg r_laws_FnExactCompareRows_0 none) (.seq (.reg r_laws_FnExactCompareRows_1 none) (.seq (.reg r_laws_FnExactCompareRows_2 none) (.seq (.seq (.reg r_laws_FnExactCompareRows_3 none) (.cond (.t 14) (.seq (.reg r_laws_FnExactCompareRows_4 none) .ret) .skip)) (.seq (.reg r_laws_FnExactCompareRows_5 none) (.seq (.seq (.reg r_laws_FnExactCompareRows_6 none) (.cond (.t 19) (.seq (.reg r_laws_FnExactCompareRows_7 none) .ret) .skip)) (.seq (.reg r_laws_FnExactCompareRows_8 none) (.seq (.reg r_laws_FnExactCompareRows_9 none) (.seq (.reg r_laws_FnExactCompareRows_10 none) (.seq (.reg r_laws_FnExactCompareRows_11 none) (.seq (.seq (.reg r_laws_FnExactCompareRows_12 none) (.cond (.t 34) (.seq (.reg r_laws_FnExactCompareRows_13 none) .ret) .skip)) (.seq (.seq (.reg r_laws_FnExactCompareRows_14 none) (.cond (.t 39) (.seq (.reg r_laws_FnExactCompareRows_15 none) .ret) .skip)) (.seq (.seq (.reg r_laws_FnExactCompareRows_16 none) (.cond (.t 44) (.seq (.reg r_laws_FnExactCompareRows_17 none) .ret) .skip)) (.seq (.reg r_laws_FnExactCompareRows_18 none) .ret)))))))))))))
theorem c_laws_FnExactCompareRows : cfun Try.prog [] 5 = some (45, dc_laws_FnExactCompareRows, [(Res.tmp 4)]) := by kernel_rfl
end
end Go.Proofs.Ytedlojihiilonaa
