/-
  Functions of the program read as code on plain data. Closed facts of the program alone.
-/
import Derived.Test.YtnakdmodegfibaaRows
import Derived.Test.YtnakdmodegfibaaVLib
import Derived.KernelRfl
namespace Go.Proofs.Ytnakdmodegfibaa
open Go.RowKit
noncomputable section
def r_laws_FnFoldTwice_0 : List GI := [⟨.mov 2 (.k (.v (.bool false))), some 2, none, false⟩]
def r_laws_FnFoldTwice_1 : List GI := [⟨.mov 5 (.t 0), some 5, none, false⟩, ⟨.len 6 (.t 5), some 6, none, false⟩, ⟨.bin 7 .gtr (.t 6) (.k (.v (.int .i64 1048576))), some 7, none, false⟩]
def r_laws_FnFoldTwice_2 : List GI := [⟨.mov 2 (.k (.v (.bool true))), some 2, none, false⟩]
def r_laws_FnFoldTwice_3 : List GI := [⟨.mov 8 (.t 0), some 8, none, false⟩, ⟨.call 9 20 [.t 8], some 9, none, true⟩, ⟨.alloc 3 2000003 [.v (.int .i64 0), .v (.int .i64 0), .v (.bool false), .v (.int .i64 0), .nul], some 3, none, false⟩, ⟨.sto 3 (.t 9) (some 5), none, none, false⟩]
def r_laws_FnFoldTwice_4 : List GI := [⟨.lod 10 3 (some 5), some 10, none, false⟩, ⟨.call 11 21 [.t 10], some 11, none, true⟩, ⟨.alloc 4 2000004 [.v (.int .i64 0), .v (.int .i64 0), .v (.bool false), .v (.int .i64 0), .nul], some 4, none, false⟩, ⟨.sto 4 (.t 11) (some 5), none, none, false⟩]
def r_laws_FnFoldTwice_5 : List GI := [⟨.lod 12 4 (some 5), some 12, none, false⟩, ⟨.lod 13 3 (some 5), some 13, none, false⟩, ⟨.call 14 23 [.t 13], some 14, none, true⟩, ⟨.call 15 22 [.t 12, .t 14], some 15, none, true⟩, ⟨.un 16 UnOp.not (.t 15), some 16, none, false⟩, ⟨.mov 17 (.t 16), some 17, none, false⟩, ⟨.lod 18 3 (some 5), some 18, some (17, false), false⟩, ⟨.call 19 19 [.t 18, .k (.v (.int .i64 6))], some 19, some (17, false), true⟩, ⟨.un 20 UnOp.not (.t 19), some 20, some (17, false), false⟩, ⟨.pick 21 (.t 17) (.k (.v (.bool true))) (.t 20), some 21, none, false⟩]
def r_laws_FnFoldTwice_6 : List GI := [⟨.lod 22 4 (some 5), some 22, none, false⟩, ⟨.lod 23 3 (some 5), some 23, none, false⟩, ⟨.call 24 23 [.t 23], some 24, none, true⟩, ⟨.call 25 22 [.t 22, .t 24], some 25, none, true⟩, ⟨.mov 2 (.t 25), some 2, none, false⟩]
def r_laws_FnFoldTwice_7 : List GI := [⟨.lod 26 4 (some 5), some 26, none, false⟩, ⟨.call 27 21 [.t 26], some 27, none, true⟩, ⟨.lod 28 4 (some 5), some 28, none, false⟩, ⟨.call 29 22 [.t 27, .t 28], some 29, none, true⟩, ⟨.mov 30 (.t 29), some 30, none, false⟩, ⟨.lod 31 3 (some 5), some 31, some (30, true), false⟩, ⟨.call 32 12 [.t 31], some 32, some (30, true), true⟩, ⟨.len 33 (.t 32), some 33, some (30, true), false⟩, ⟨.bin 34 .gtr (.t 33) (.k (.v (.int .i64 0))), some 34, some (30, true), false⟩, ⟨.mov 35 (.t 34), some 35, some (30, true), false⟩, ⟨.fad 36 4 0, some 36, some (35, false), false⟩, ⟨.lod 37 36 none, some 37, some (35, false), false⟩, ⟨.bin 38 .eql (.t 37) (.k (.v (.int .i64 2))), some 38, some (35, false), false⟩, ⟨.pick 39 (.t 35) (.k (.v (.bool true))) (.t 38), some 39, some (30, true), false⟩, ⟨.pick 40 (.t 30) (.t 39) (.k (.v (.bool false))), some 40, none, false⟩, ⟨.mov 2 (.t 40), some 2, none, false⟩]
def dc_laws_FnFoldTwice : DC := .seq (.reg r_laws_FnFoldTwice_0 none) (.seq (.seq (.reg r_laws_FnFoldTwice_1 none) (.cond (.t 7) (.seq (.reg r_laws_FnFoldTwice_2 none) .ret) .skip)) (.seq (.reg r_laws_FnFoldTwice_3 none) (.seq (.reg r_laws_FnFoldTwice_4 none) (.seq (.seq (.reg r_laws_FnFoldTwice_5 (some [0, 0, 2, 7, 15, 31, 63, 127, 255, 511])) (.cond (.t 21) (.seq (.reg r_laws_FnFoldTwice_6 (some [0, 0, 2, 7, 15])) .ret) .skip)) (.seq (.reg r_laws_FnFoldTwice_7 (some [0, 1, 0, 7, 15, 31, 63, 127, 255, 511, 1023, 2047, 4095, 8191, 16383, 32767])) .ret)))))
theorem c_laws_FnFoldTwice : cfun Try.prog [] 6 = some (41, dc_laws_FnFoldTwice, [(Res.tmp 2)]) := by kernel_rfl
end
end Go.Proofs.Ytnakdmodegfibaa
