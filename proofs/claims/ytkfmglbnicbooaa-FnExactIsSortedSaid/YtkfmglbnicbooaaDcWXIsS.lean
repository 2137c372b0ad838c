/-
  Functions of the program read as code on plain data. Closed facts of the program alone.
-/
import Derived.Test.YtkfmglbnicbooaaRows
import Derived.Test.YtkfmglbnicbooaaVLib
import Derived.KernelRfl
namespace Go.Proofs.Ytkfmglbnicbooaa
open Go.RowKit
noncomputable section
def r_laws_FnExactIsSorted_0 : List GI := [⟨.mov 4 (.k (.v (.bool false))), some 4, none, false⟩]
def r_laws_FnExactIsSorted_1 : List GI := [⟨.mov 5 (.k (.v (.int .i64 1048576))), some 5, none, false⟩]
def r_laws_FnExactIsSorted_2 : List GI := [⟨.mov 10 (.t 0), some 10, none, false⟩, ⟨.mov 11 (.t 5), some 11, none, false⟩, ⟨.call 12 8 [.t 10, .t 11], some 12, none, true⟩, ⟨.mov 5 (.t 12), some 5, none, false⟩]
def r_laws_FnExactIsSorted_3 : List GI := [⟨.mov 13 (.t 5), some 13, none, false⟩, ⟨.bin 14 .lss (.t 13) (.k (.v (.int .i64 0))), some 14, none, false⟩]
def r_laws_FnExactIsSorted_4 : List GI := [⟨.mov 4 (.k (.v (.bool true))), some 4, none, false⟩]
def r_laws_FnExactIsSorted_5 : List GI := [⟨.mov 15 (.t 1), some 15, none, false⟩, ⟨.mov 16 (.t 5), some 16, none, false⟩, ⟨.call 17 9 [.t 15, .t 16], some 17, none, true⟩, ⟨.mov 5 (.t 17), some 5, none, false⟩]
def r_laws_FnExactIsSorted_6 : List GI := [⟨.mov 18 (.t 5), some 18, none, false⟩, ⟨.bin 19 .lss (.t 18) (.k (.v (.int .i64 0))), some 19, none, false⟩]
def r_laws_FnExactIsSorted_7 : List GI := [⟨.mov 4 (.k (.v (.bool true))), some 4, none, false⟩]
def r_laws_FnExactIsSorted_8 : List GI := [⟨.mov 20 (.t 0), some 20, none, false⟩, ⟨.call 21 10 [.t 20], some 21, none, true⟩, ⟨.mov 22 (.t 1), some 22, none, false⟩, ⟨.call 23 11 [.t 22], some 23, none, true⟩, ⟨.call 24 7 [.t 21, .t 23], some 24, none, true⟩, ⟨.mov 6 (.t 24), some 6, none, false⟩]
def r_laws_FnExactIsSorted_9 : List GI := [⟨.mov 25 (.t 0), some 25, none, false⟩, ⟨.call 26 10 [.t 25], some 26, none, true⟩, ⟨.mov 7 (.t 26), some 7, none, false⟩]
def r_laws_FnExactIsSorted_10 : List GI := [⟨.mov 27 (.t 1), some 27, none, false⟩, ⟨.call 28 11 [.t 27], some 28, none, true⟩, ⟨.mov 8 (.t 28), some 8, none, false⟩]
def r_laws_FnExactIsSorted_11 : List GI := [⟨.mov 29 (.t 7), some 29, none, false⟩, ⟨.mov 30 (.t 8), some 30, none, false⟩, ⟨.call 31 6 [.t 29, .t 30], some 31, none, true⟩, ⟨.mov 9 (.t 31), some 9, none, false⟩]
def r_laws_FnExactIsSorted_12 : List GI := [⟨.mov 32 (.t 9), some 32, none, false⟩, ⟨.mov 33 (.t 6), some 33, none, false⟩, ⟨.beq 34 true (.t 32) (.t 33), some 34, none, false⟩]
def r_laws_FnExactIsSorted_13 : List GI := [⟨.mov 4 (.k (.v (.bool false))), some 4, none, false⟩]
def r_laws_FnExactIsSorted_14 : List GI := [⟨.mov 35 (.t 7), some 35, none, false⟩, ⟨.mov 36 (.t 0), some 36, none, false⟩, ⟨.call 37 10 [.t 36], some 37, none, true⟩, ⟨.call 38 12 [.t 35, .t 37], some 38, none, true⟩, ⟨.un 39 UnOp.not (.t 38), some 39, none, false⟩]
def r_laws_FnExactIsSorted_15 : List GI := [⟨.mov 4 (.k (.v (.bool false))), some 4, none, false⟩]
def r_laws_FnExactIsSorted_16 : List GI := [⟨.mov 40 (.t 8), some 40, none, false⟩, ⟨.mov 41 (.t 1), some 41, none, false⟩, ⟨.call 42 11 [.t 41], some 42, none, true⟩, ⟨.call 43 13 [.t 40, .t 42], some 43, none, true⟩, ⟨.un 44 UnOp.not (.t 43), some 44, none, false⟩]
def r_laws_FnExactIsSorted_17 : List GI := [⟨.mov 4 (.k (.v (.bool false))), some 4, none, false⟩]
def r_laws_FnExactIsSorted_18 : List GI := [⟨.mov 4 (.k (.v (.bool true))), some 4, none, false⟩]
def dc_laws_FnExactIsSorted : DC := .seq (.reg r_laws_FnExactIsSorted_0 none) (.seq (.reg r_laws_FnExactIsSorted_1 none) (.seq (.reg r_laws_FnExactIsSorted_2 none) (.seq (.seq (.reg r_laws_FnExactIsSorted_3 none) (.cond (.t 14) (.seq (.reg r_laws_FnExactIsSorted_4 none) .ret) .skip)) (.seq (.reg r_laws_FnExactIsSorted_5 none) (.seq (.seq (.reg r_laws_FnExactIsSorted_6 none) (.cond (.t 19) (.seq (.reg r_laws_FnExactIsSorted_7 none) .ret) .skip)) (.seq (.reg r_laws_FnExactIsSorted_8 none) (.seq (.reg r_laws_FnExactIsSorted_9 none) (.seq (.reg r_laws_FnExactIsSorted_10 none) (.seq (.reg r_laws_FnExactIsSorted_11 none) (.seq (.seq (.reg r_laws_FnExactIsSorted_12 none) (.cond (.t 34) (.seq (.reg r_laws_FnExactIsSorted_13 none) .ret) .skip)) (.seq (.seq (.reg r_laws_FnExactIsSorted_14 none) (.cond (.t 39) (.seq (.reg r_laws_FnExactIsSorted_15 none) .ret) .skip)) (.seq (.seq (.reg r_laws_FnExactIsSorted_16 none) (.cond (.t 44) (.seq (.reg r_laws_FnExactIsSorted_17 none) .ret) .skip)) (.seq (.reg r_laws_FnExactIsSorted_18 none) .ret)))))))))))))
theorem c_laws_FnExactIsSorted : cfun Try.prog [] 4 = some (45, dc_laws_FnExactIsSorted, [(Res.tmp 4)]) := by kernel_rfl
end
end Go.Proofs.Ytkfmglbnicbooaa
