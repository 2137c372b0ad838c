/-
  Functions of the program read as code on plain data. Closed facts of the program alone.
-/
import Derived.Test.YtjclkhmpkknadaaRows
import Derived.Test.YtjclkhmpkknadaaVLib
import Derived.KernelRfl
namespace Go.Proofs.Ytjclkhmpkknadaa
open Go.RowKit
noncomputable section
def r_laws_FnExactIsSubtable_0 : List GI := [⟨.box 2 2000002 (.t 0) (some 2), some 2, none, false⟩, ⟨.box 3 2000003 (.t 1) (some 2), some 3, none, false⟩, ⟨.mov 4 (.k (.v (.bool false))), some 4, none, false⟩]
def r_laws_FnExactIsSubtable_1 : List GI := [⟨.mov 5 (.k (.v (.int .i64 1048576))), some 5, none, false⟩]
def r_laws_FnExactIsSubtable_2 : List GI := [⟨.lod 10 2 (some 2), some 10, none, false⟩, ⟨.mov 11 (.t 5), some 11, none, false⟩, ⟨.call 12 28 [.t 10, .t 11], some 12, none, true⟩, ⟨.mov 5 (.t 12), some 5, none, false⟩]
def r_laws_FnExactIsSubtable_3 : List GI := [⟨.mov 13 (.t 5), some 13, none, false⟩, ⟨.bin 14 .lss (.t 13) (.k (.v (.int .i64 0))), some 14, none, false⟩]
def r_laws_FnExactIsSubtable_4 : List GI := [⟨.mov 4 (.k (.v (.bool true))), some 4, none, false⟩]
def r_laws_FnExactIsSubtable_5 : List GI := [⟨.lod 15 3 (some 2), some 15, none, false⟩, ⟨.mov 16 (.t 5), some 16, none, false⟩, ⟨.call 17 28 [.t 15, .t 16], some 17, none, true⟩, ⟨.mov 5 (.t 17), some 5, none, false⟩]
def r_laws_FnExactIsSubtable_6 : List GI := [⟨.mov 18 (.t 5), some 18, none, false⟩, ⟨.bin 19 .lss (.t 18) (.k (.v (.int .i64 0))), some 19, none, false⟩]
def r_laws_FnExactIsSubtable_7 : List GI := [⟨.mov 4 (.k (.v (.bool true))), some 4, none, false⟩]
def r_laws_FnExactIsSubtable_8 : List GI := [⟨.lod 20 2 (some 2), some 20, none, false⟩, ⟨.call 21 29 [.t 20], some 21, none, true⟩, ⟨.lod 22 3 (some 2), some 22, none, false⟩, ⟨.call 23 29 [.t 22], some 23, none, true⟩, ⟨.call 24 22 [.t 21, .t 23], some 24, none, true⟩, ⟨.mov 6 (.t 24), some 6, none, false⟩]
def r_laws_FnExactIsSubtable_9 : List GI := [⟨.lod 25 2 (some 2), some 25, none, false⟩, ⟨.call 26 29 [.t 25], some 26, none, true⟩, ⟨.alloc 7 2000007 [.v (.int .i64 0), .nul], some 7, none, false⟩, ⟨.sto 7 (.t 26) (some 2), none, none, false⟩]
def r_laws_FnExactIsSubtable_10 : List GI := [⟨.lod 27 3 (some 2), some 27, none, false⟩, ⟨.call 28 29 [.t 27], some 28, none, true⟩, ⟨.alloc 8 2000008 [.v (.int .i64 0), .nul], some 8, none, false⟩, ⟨.sto 8 (.t 28) (some 2), none, none, false⟩]
def r_laws_FnExactIsSubtable_11 : List GI := [⟨.lod 29 7 (some 2), some 29, none, false⟩, ⟨.lod 30 8 (some 2), some 30, none, false⟩, ⟨.call 31 21 [.t 29, .t 30], some 31, none, true⟩, ⟨.mov 9 (.t 31), some 9, none, false⟩]
def r_laws_FnExactIsSubtable_12 : List GI := [⟨.mov 32 (.t 9), some 32, none, false⟩, ⟨.mov 33 (.t 6), some 33, none, false⟩, ⟨.beq 34 true (.t 32) (.t 33), some 34, none, false⟩]
def r_laws_FnExactIsSubtable_13 : List GI := [⟨.mov 4 (.k (.v (.bool false))), some 4, none, false⟩]
def r_laws_FnExactIsSubtable_14 : List GI := [⟨.lod 35 7 (some 2), some 35, none, false⟩, ⟨.lod 36 2 (some 2), some 36, none, false⟩, ⟨.call 37 29 [.t 36], some 37, none, true⟩, ⟨.call 38 30 [.t 35, .t 37], some 38, none, true⟩, ⟨.un 39 UnOp.not (.t 38), some 39, none, false⟩]
def r_laws_FnExactIsSubtable_15 : List GI := [⟨.mov 4 (.k (.v (.bool false))), some 4, none, false⟩]
def r_laws_FnExactIsSubtable_16 : List GI := [⟨.lod 40 8 (some 2), some 40, none, false⟩, ⟨.lod 41 3 (some 2), some 41, none, false⟩, ⟨.call 42 29 [.t 41], some 42, none, true⟩, ⟨.call 43 30 [.t 40, .t 42], some 43, none, true⟩, ⟨.un 44 UnOp.not (.t 43), some 44, none, false⟩]
def r_laws_FnExactIsSubtable_17 : List GI := [⟨.mov 4 (.k (.v (.bool false))), some 4, none, false⟩]
def r_laws_FnExactIsSubtable_18 : List GI := [⟨.mov 4 (.k (.v (.bool true))), some 4, none, false⟩]
def dc_laws_FnExactIsSubtable : DC := .seq (.reg r_laws_FnExactIsSubtable_0 none) (.seq (.reg r_laws_FnExactIsSubtable_1 none) (.seq (.reg r_laws_FnExactIsSubtable_2 none) (.seq (.seq (.reg r_laws_FnExactIsSubtable_3 none) (.cond (.t 14) (.seq (.reg r_laws_FnExactIsSubtable_4 none) .ret) .skip)) (.seq (.reg r_laws_FnExactIsSubtable_5 none) (.seq (.seq (.reg r_laws_FnExactIsSubtable_6 none) (.cond (.t 19) (.seq (.reg r_laws_FnExactIsSubtable_7 none) .ret) .skip)) (.seq (.reg r_laws_FnExactIsSubtable_8 (some [0, 1, 0, 7, 15, 31])) (.seq (.reg r_laws_FnExactIsSubtable_9 none) (.seq (.reg r_laws_FnExactIsSubtable_10 none) (.seq (.reg r_laws_FnExactIsSubtable_11 none) (.seq (.seq (.reg r_laws_FnExactIsSubtable_12 none) (.cond (.t 34) (.seq (.reg r_laws_FnExactIsSubtable_13 none) .ret) .skip)) (.seq (.seq (.reg r_laws_FnExactIsSubtable_14 (some [0, 0, 2, 7, 15])) (.cond (.t 39) (.seq (.reg r_laws_FnExactIsSubtable_15 none) .ret) .skip)) (.seq (.seq (.reg r_laws_FnExactIsSubtable_16 (some [0, 0, 2, 7, 15])) (.cond (.t 44) (.seq (.reg r_laws_FnExactIsSubtable_17 none) .ret) .skip)) (.seq (.reg r_laws_FnExactIsSubtable_18 none) .ret)))))))))))))
theorem c_laws_FnExactIsSubtable : cfun Try.prog [] 10 = some (45, dc_laws_FnExactIsSubtable, [(Res.tmp 4)]) := by kernel_rfl
end
end Go.Proofs.Ytjclkhmpkknadaa
