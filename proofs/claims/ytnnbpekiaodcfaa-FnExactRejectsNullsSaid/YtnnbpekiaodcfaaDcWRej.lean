/-
  Functions of the program read as code on plain data. Closed facts of the program alone.
-/
import Derived.Test.YtnnbpekiaodcfaaRows
import Derived.Test.YtnnbpekiaodcfaaVLib
import Derived.KernelRfl
namespace Go.Proofs.Ytnnbpekiaodcfaa
open Go.RowKit
noncomputable section
def r_laws_FnExactRejectsNulls_0 : List GI := [⟨.box 3 2000003 (.t 0) (some 5), some 3, none, false⟩, ⟨.mov 6 (.k (.v (.bool false))), some 6, none, false⟩]
def r_laws_FnExactRejectsNulls_1 : List GI := [⟨.mov 12 (.t 2), some 12, none, false⟩, ⟨.len 13 (.t 12), some 13, none, false⟩, ⟨.bin 14 .gtr (.t 13) (.k (.v (.int .i64 1048576))), some 14, none, false⟩]
def r_laws_FnExactRejectsNulls_2 : List GI := [⟨.mov 6 (.k (.v (.bool true))), some 6, none, false⟩]
def r_laws_FnExactRejectsNulls_3 : List GI := [⟨.mov 7 (.k (.v (.int .i64 1048576))), some 7, none, false⟩]
def r_laws_FnExactRejectsNulls_4 : List GI := [⟨.lod 15 3 (some 5), some 15, none, false⟩, ⟨.mov 16 (.t 7), some 16, none, false⟩, ⟨.call 17 18 [.t 15, .t 16], some 17, none, true⟩, ⟨.mov 7 (.t 17), some 7, none, false⟩]
def r_laws_FnExactRejectsNulls_5 : List GI := [⟨.mov 18 (.t 7), some 18, none, false⟩, ⟨.bin 19 .lss (.t 18) (.k (.v (.int .i64 0))), some 19, none, false⟩]
def r_laws_FnExactRejectsNulls_6 : List GI := [⟨.mov 6 (.k (.v (.bool true))), some 6, none, false⟩]
def r_laws_FnExactRejectsNulls_7 : List GI := [⟨.lod 20 3 (some 5), some 20, none, false⟩, ⟨.call 21 19 [.t 20], some 21, none, true⟩, ⟨.mov 22 (.t 1), some 22, none, false⟩, ⟨.mov 23 (.t 2), some 23, none, false⟩, ⟨.call 24 20 [.t 23], some 24, none, true⟩, ⟨.call 25 15 [.t 21, .t 22, .t 24], some 25, none, true⟩, ⟨.mov 8 (.t 25), some 8, none, false⟩]
def r_laws_FnExactRejectsNulls_8 : List GI := [⟨.lod 26 3 (some 5), some 26, none, false⟩, ⟨.call 27 19 [.t 26], some 27, none, true⟩, ⟨.alloc 9 2000009 [.v (.int .i64 0), .v (.int .i64 0), .v (.bool false), .v (.int .i64 0), .nul], some 9, none, false⟩, ⟨.sto 9 (.t 27) (some 5), none, none, false⟩]
def r_laws_FnExactRejectsNulls_9 : List GI := [⟨.mov 28 (.t 2), some 28, none, false⟩, ⟨.call 29 20 [.t 28], some 29, none, true⟩, ⟨.mov 10 (.t 29), some 10, none, false⟩]
def r_laws_FnExactRejectsNulls_10 : List GI := [⟨.lod 30 9 (some 5), some 30, none, false⟩, ⟨.mov 31 (.t 1), some 31, none, false⟩, ⟨.mov 32 (.t 10), some 32, none, false⟩, ⟨.call 33 14 [.t 30, .t 31, .t 32], some 33, none, true⟩, ⟨.mov 11 (.t 33), some 11, none, false⟩]
def r_laws_FnExactRejectsNulls_11 : List GI := [⟨.mov 34 (.t 11), some 34, none, false⟩, ⟨.mov 35 (.t 8), some 35, none, false⟩, ⟨.beq 36 true (.t 34) (.t 35), some 36, none, false⟩]
def r_laws_FnExactRejectsNulls_12 : List GI := [⟨.mov 6 (.k (.v (.bool false))), some 6, none, false⟩]
def r_laws_FnExactRejectsNulls_13 : List GI := [⟨.lod 37 9 (some 5), some 37, none, false⟩, ⟨.lod 38 3 (some 5), some 38, none, false⟩, ⟨.call 39 19 [.t 38], some 39, none, true⟩, ⟨.call 40 21 [.t 37, .t 39], some 40, none, true⟩, ⟨.un 41 UnOp.not (.t 40), some 41, none, false⟩]
def r_laws_FnExactRejectsNulls_14 : List GI := [⟨.mov 6 (.k (.v (.bool false))), some 6, none, false⟩]
def r_laws_FnExactRejectsNulls_15 : List GI := [⟨.mov 42 (.t 10), some 42, none, false⟩, ⟨.mov 43 (.t 2), some 43, none, false⟩, ⟨.call 44 20 [.t 43], some 44, none, true⟩, ⟨.call 45 22 [.t 42, .t 44], some 45, none, true⟩, ⟨.un 46 UnOp.not (.t 45), some 46, none, false⟩]
def r_laws_FnExactRejectsNulls_16 : List GI := [⟨.mov 6 (.k (.v (.bool false))), some 6, none, false⟩]
def r_laws_FnExactRejectsNulls_17 : List GI := [⟨.mov 6 (.k (.v (.bool true))), some 6, none, false⟩]
def dc_laws_FnExactRejectsNulls : DC := .seq (.reg r_laws_FnExactRejectsNulls_0 none) (.seq (.seq (.reg r_laws_FnExactRejectsNulls_1 none) (.cond (.t 14) (.seq (.reg r_laws_FnExactRejectsNulls_2 none) .ret) .skip)) (.seq (.reg r_laws_FnExactRejectsNulls_3 none) (.seq (.reg r_laws_FnExactRejectsNulls_4 none) (.seq (.seq (.reg r_laws_FnExactRejectsNulls_5 none) (.cond (.t 19) (.seq (.reg r_laws_FnExactRejectsNulls_6 none) .ret) .skip)) (.seq (.reg r_laws_FnExactRejectsNulls_7 none) (.seq (.reg r_laws_FnExactRejectsNulls_8 none) (.seq (.reg r_laws_FnExactRejectsNulls_9 none) (.seq (.reg r_laws_FnExactRejectsNulls_10 none) (.seq (.seq (.reg r_laws_FnExactRejectsNulls_11 none) (.cond (.t 36) (.seq (.reg r_laws_FnExactRejectsNulls_12 none) .ret) .skip)) (.seq (.seq (.reg r_laws_FnExactRejectsNulls_13 (some [0, 0, 2, 7, 15])) (.cond (.t 41) (.seq (.reg r_laws_FnExactRejectsNulls_14 none) .ret) .skip)) (.seq (.seq (.reg r_laws_FnExactRejectsNulls_15 none) (.cond (.t 46) (.seq (.reg r_laws_FnExactRejectsNulls_16 none) .ret) .skip)) (.seq (.reg r_laws_FnExactRejectsNulls_17 none) .ret))))))))))))
theorem c_laws_FnExactRejectsNulls : cfun Try.prog [] 8 = some (47, dc_laws_FnExactRejectsNulls, [(Res.tmp 6)]) := by kernel_rfl
end
end Go.Proofs.Ytnnbpekiaodcfaa
