/-
  Functions of the program read as code on plain data. Closed facts of the program alone.
-/
import Derived.Test.YtkfmglbnicbooaaRows
import Derived.Test.YtkfmglbnicbooaaVLib
import Derived.KernelRfl
namespace Go.Proofs.Ytkfmglbnicbooaa
open Go.RowKit
noncomputable section
def r_laws_FnIsSorted_0 : List GI := [⟨.mov 4 (.k (.v (.bool false))), some 4, none, false⟩]
def r_laws_FnIsSorted_1 : List GI := [⟨.mov 10 (.t 0), some 10, none, false⟩, ⟨.len 11 (.t 10), some 11, none, false⟩, ⟨.bin 12 .gtr (.t 11) (.k (.v (.int .i64 1048576))), some 12, none, false⟩, ⟨.mov 13 (.t 12), some 13, none, false⟩, ⟨.mov 14 (.t 1), some 14, some (13, false), false⟩, ⟨.len 15 (.t 14), some 15, some (13, false), false⟩, ⟨.bin 16 .gtr (.t 15) (.k (.v (.int .i64 1048576))), some 16, some (13, false), false⟩, ⟨.pick 17 (.t 13) (.k (.v (.bool true))) (.t 16), some 17, none, false⟩]
def r_laws_FnIsSorted_2 : List GI := [⟨.mov 4 (.k (.v (.bool true))), some 4, none, false⟩]
def r_laws_FnIsSorted_3 : List GI := [⟨.mov 19 (.t 0), some 19, none, false⟩, ⟨.call 20 5 [.t 19], some 20, none, true⟩, ⟨.mov 18 (.t 20), some 18, none, false⟩, ⟨.ext 21 18 0, some 21, none, false⟩, ⟨.ext 22 18 1, some 22, none, false⟩, ⟨.mov 5 (.t 21), some 5, none, false⟩, ⟨.mov 6 (.t 22), some 6, none, false⟩]
def r_laws_FnIsSorted_4 : List GI := [⟨.mov 23 (.t 5), some 23, none, false⟩, ⟨.mov 24 (.t 6), some 24, none, false⟩, ⟨.call 25 6 [.t 23, .t 24], some 25, none, true⟩, ⟨.mov 7 (.t 25), some 7, none, false⟩]
def r_laws_FnIsSorted_5 : List GI := [⟨.mov 26 (.t 7), some 26, none, false⟩, ⟨.mov 27 (.t 5), some 27, none, false⟩, ⟨.mov 28 (.t 6), some 28, none, false⟩, ⟨.call 29 7 [.t 27, .t 28], some 29, none, true⟩, ⟨.beq 30 true (.t 26) (.t 29), some 30, none, false⟩, ⟨.mov 31 (.t 30), some 31, none, false⟩, ⟨.mov 32 (.t 7), some 32, some (31, false), false⟩, ⟨.un 33 UnOp.not (.t 32), some 33, some (31, false), false⟩, ⟨.pick 34 (.t 31) (.k (.v (.bool true))) (.t 33), some 34, none, false⟩, ⟨.mov 35 (.t 34), some 35, none, false⟩, ⟨.mov 36 (.t 5), some 36, some (35, false), false⟩, ⟨.len 37 (.t 36), some 37, some (35, false), false⟩, ⟨.bin 38 .eql (.t 37) (.k (.v (.int .i64 0))), some 38, some (35, false), false⟩, ⟨.pick 39 (.t 35) (.k (.v (.bool true))) (.t 38), some 39, none, false⟩]
def r_laws_FnIsSorted_6 : List GI := [⟨.mov 40 (.t 7), some 40, none, false⟩, ⟨.mov 41 (.t 5), some 41, none, false⟩, ⟨.mov 42 (.t 6), some 42, none, false⟩, ⟨.call 43 7 [.t 41, .t 42], some 43, none, true⟩, ⟨.beq 44 false (.t 40) (.t 43), some 44, none, false⟩, ⟨.mov 4 (.t 44), some 4, none, false⟩]
def r_laws_FnIsSorted_7 : List GI := [⟨.mov 45 (.t 1), some 45, none, false⟩, ⟨.len 46 (.t 45), some 46, none, false⟩, ⟨.mov 47 (.t 6), some 47, none, false⟩, ⟨.len 48 (.t 47), some 48, none, false⟩, ⟨.bin 49 .add (.t 48) (.k (.v (.int .i64 1))), some 49, none, false⟩, ⟨.bin 50 .rem (.t 46) (.t 49), some 50, none, false⟩, ⟨.mov 8 (.t 50), some 8, none, false⟩]
def r_laws_FnIsSorted_8 : List GI := [⟨.mov 51 (.t 1), some 51, none, false⟩, ⟨.len 52 (.t 51), some 52, none, false⟩, ⟨.mov 53 (.t 5), some 53, none, false⟩, ⟨.len 54 (.t 53), some 54, none, false⟩, ⟨.bin 55 .rem (.t 52) (.t 54), some 55, none, false⟩, ⟨.mov 9 (.t 55), some 9, none, false⟩]
def r_laws_FnIsSorted_9 : List GI := [⟨.mov 56 (.t 5), some 56, none, false⟩, ⟨.mov 57 (.t 6), some 57, none, false⟩, ⟨.mov 58 (.t 8), some 58, none, false⟩, ⟨.slc 59 (.t 57) none (some (.t 58)) 2, some 59, none, false⟩, ⟨.call 60 6 [.t 56, .t 59], some 60, none, true⟩, ⟨.mov 61 (.t 60), some 61, none, false⟩, ⟨.mov 62 (.t 5), some 62, some (61, true), false⟩, ⟨.mov 63 (.t 9), some 63, some (61, true), false⟩, ⟨.slc 64 (.t 62) (some (.t 63)) none 1, some 64, some (61, true), false⟩, ⟨.mov 65 (.t 6), some 65, some (61, true), false⟩, ⟨.call 66 6 [.t 64, .t 65], some 66, some (61, true), true⟩, ⟨.pick 67 (.t 61) (.t 66) (.k (.v (.bool false))), some 67, none, false⟩, ⟨.mov 4 (.t 67), some 4, none, false⟩]
def dc_laws_FnIsSorted : DC := .seq (.reg r_laws_FnIsSorted_0 none) (.seq (.seq (.reg r_laws_FnIsSorted_1 none) (.cond (.t 17) (.seq (.reg r_laws_FnIsSorted_2 none) .ret) .skip)) (.seq (.reg r_laws_FnIsSorted_3 none) (.seq (.reg r_laws_FnIsSorted_4 none) (.seq (.seq (.reg r_laws_FnIsSorted_5 none) (.cond (.t 39) (.seq (.reg r_laws_FnIsSorted_6 none) .ret) .skip)) (.seq (.reg r_laws_FnIsSorted_7 none) (.seq (.reg r_laws_FnIsSorted_8 none) (.seq (.reg r_laws_FnIsSorted_9 none) .ret)))))))
theorem c_laws_FnIsSorted : cfun Try.prog [] 3 = some (68, dc_laws_FnIsSorted, [(Res.tmp 4)]) := by kernel_rfl
end
end Go.Proofs.Ytkfmglbnicbooaa
