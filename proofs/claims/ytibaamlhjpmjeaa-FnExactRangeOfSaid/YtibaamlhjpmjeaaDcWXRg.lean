/-
  Functions of the program read as code on plain data. Closed facts of the program alone.
-/
import Derived.Test.YtibaamlhjpmjeaaRows
import Derived.Test.YtibaamlhjpmjeaaVLib
import Derived.KernelRfl
namespace Go.Proofs.Ytibaamlhjpmjeaa
open Go.RowKit
noncomputable section
def r_laws_FnExactRangeOf_0 : List GI := [⟨.box 3 2000003 (.t 0) (some 5), some 3, none, false⟩, ⟨.mov 6 (.k (.v (.bool false))), some 6, none, false⟩]
def r_laws_FnExactRangeOf_1 : List GI := [⟨.mov 7 (.k (.v (.int .i64 1048576))), some 7, none, false⟩]
def r_laws_FnExactRangeOf_2 : List GI := [⟨.lod 13 3 (some 5), some 13, none, false⟩, ⟨.mov 14 (.t 7), some 14, none, false⟩, ⟨.call 15 7 [.t 13, .t 14], some 15, none, true⟩, ⟨.mov 7 (.t 15), some 7, none, false⟩]
def r_laws_FnExactRangeOf_3 : List GI := [⟨.mov 16 (.t 7), some 16, none, false⟩, ⟨.bin 17 .lss (.t 16) (.k (.v (.int .i64 0))), some 17, none, false⟩]
def r_laws_FnExactRangeOf_4 : List GI := [⟨.mov 6 (.k (.v (.bool true))), some 6, none, false⟩]
def r_laws_FnExactRangeOf_5 : List GI := [⟨.lod 19 3 (some 5), some 19, none, false⟩, ⟨.call 20 9 [.t 19], some 20, none, true⟩, ⟨.mov 21 (.t 1), some 21, none, false⟩, ⟨.mov 22 (.t 2), some 22, none, false⟩, ⟨.call 23 8 [.t 20, .t 21, .t 22], some 23, none, true⟩, ⟨.mov 18 (.t 23), some 18, none, false⟩, ⟨.ext 24 18 0, some 24, none, false⟩, ⟨.ext 25 18 1, some 25, none, false⟩, ⟨.alloc 8 2000008 [.v (.int .i64 0), .v (.int .i64 0)], some 8, none, false⟩, ⟨.sto 8 (.t 24) (some 2), none, none, false⟩, ⟨.mov 9 (.t 25), some 9, none, false⟩]
def r_laws_FnExactRangeOf_6 : List GI := [⟨.lod 26 3 (some 5), some 26, none, false⟩, ⟨.call 27 9 [.t 26], some 27, none, true⟩, ⟨.alloc 10 2000010 [.v (.int .i64 0), .v (.int .i64 0), .v (.bool false), .v (.int .i64 0), .nul], some 10, none, false⟩, ⟨.sto 10 (.t 27) (some 5), none, none, false⟩]
def r_laws_FnExactRangeOf_7 : List GI := [⟨.lod 29 10 (some 5), some 29, none, false⟩, ⟨.mov 30 (.t 1), some 30, none, false⟩, ⟨.mov 31 (.t 2), some 31, none, false⟩, ⟨.call 32 10 [.t 29, .t 30, .t 31], some 32, none, true⟩, ⟨.mov 28 (.t 32), some 28, none, false⟩, ⟨.ext 33 28 0, some 33, none, false⟩, ⟨.ext 34 28 1, some 34, none, false⟩, ⟨.alloc 11 2000011 [.v (.int .i64 0), .v (.int .i64 0)], some 11, none, false⟩, ⟨.sto 11 (.t 33) (some 2), none, none, false⟩, ⟨.mov 12 (.t 34), some 12, none, false⟩]
def r_laws_FnExactRangeOf_8 : List GI := [⟨.lod 35 11 (some 2), some 35, none, false⟩, ⟨.lod 36 8 (some 2), some 36, none, false⟩, ⟨.call 37 11 [.t 35, .t 36], some 37, none, true⟩, ⟨.un 38 UnOp.not (.t 37), some 38, none, false⟩, ⟨.mov 39 (.t 38), some 39, none, false⟩, ⟨.mov 40 (.t 12), some 40, some (39, false), false⟩, ⟨.mov 41 (.t 9), some 41, some (39, false), false⟩, ⟨.beq 42 true (.t 40) (.t 41), some 42, some (39, false), false⟩, ⟨.pick 43 (.t 39) (.k (.v (.bool true))) (.t 42), some 43, none, false⟩]
def r_laws_FnExactRangeOf_9 : List GI := [⟨.mov 6 (.k (.v (.bool false))), some 6, none, false⟩]
def r_laws_FnExactRangeOf_10 : List GI := [⟨.lod 44 10 (some 5), some 44, none, false⟩, ⟨.lod 45 3 (some 5), some 45, none, false⟩, ⟨.call 46 9 [.t 45], some 46, none, true⟩, ⟨.call 47 12 [.t 44, .t 46], some 47, none, true⟩, ⟨.un 48 UnOp.not (.t 47), some 48, none, false⟩]
def r_laws_FnExactRangeOf_11 : List GI := [⟨.mov 6 (.k (.v (.bool false))), some 6, none, false⟩]
def r_laws_FnExactRangeOf_12 : List GI := [⟨.mov 6 (.k (.v (.bool true))), some 6, none, false⟩]
def dc_laws_FnExactRangeOf : DC := .seq (.reg r_laws_FnExactRangeOf_0 none) (.seq (.reg r_laws_FnExactRangeOf_1 none) (.seq (.reg r_laws_FnExactRangeOf_2 none) (.seq (.seq (.reg r_laws_FnExactRangeOf_3 none) (.cond (.t 17) (.seq (.reg r_laws_FnExactRangeOf_4 none) .ret) .skip)) (.seq (.reg r_laws_FnExactRangeOf_5 none) (.seq (.reg r_laws_FnExactRangeOf_6 none) (.seq (.reg r_laws_FnExactRangeOf_7 none) (.seq (.seq (.reg r_laws_FnExactRangeOf_8 none) (.cond (.t 43) (.seq (.reg r_laws_FnExactRangeOf_9 none) .ret) .skip)) (.seq (.seq (.reg r_laws_FnExactRangeOf_10 (some [0, 0, 2, 7, 15])) (.cond (.t 48) (.seq (.reg r_laws_FnExactRangeOf_11 none) .ret) .skip)) (.seq (.reg r_laws_FnExactRangeOf_12 none) .ret)))))))))
theorem c_laws_FnExactRangeOf : cfun Try.prog [] 3 = some (49, dc_laws_FnExactRangeOf, [(Res.tmp 6)]) := by kernel_rfl
def r_laws_eqRange_0 : List GI := [⟨.box 2 2000002 (.t 0) (some 2), some 2, none, false⟩, ⟨.box 3 2000003 (.t 1) (some 2), some 3, none, false⟩, ⟨.mov 4 (.k (.v (.bool false))), some 4, none, false⟩]
def r_laws_eqRange_1 : List GI := [⟨.fad 5 2 0, some 5, none, false⟩, ⟨.lod 6 5 none, some 6, none, false⟩, ⟨.fad 7 3 0, some 7, none, false⟩, ⟨.lod 8 7 none, some 8, none, false⟩, ⟨.bin 9 .neq (.t 6) (.t 8), some 9, none, false⟩]
def r_laws_eqRange_2 : List GI := [⟨.mov 4 (.k (.v (.bool false))), some 4, none, false⟩]
def r_laws_eqRange_3 : List GI := [⟨.fad 10 2 1, some 10, none, false⟩, ⟨.lod 11 10 none, some 11, none, false⟩, ⟨.fad 12 3 1, some 12, none, false⟩, ⟨.lod 13 12 none, some 13, none, false⟩, ⟨.bin 14 .neq (.t 11) (.t 13), some 14, none, false⟩]
def r_laws_eqRange_4 : List GI := [⟨.mov 4 (.k (.v (.bool false))), some 4, none, false⟩]
def r_laws_eqRange_5 : List GI := [⟨.mov 4 (.k (.v (.bool true))), some 4, none, false⟩]
def dc_laws_eqRange : DC := .seq (.reg r_laws_eqRange_0 none) (.seq (.seq (.reg r_laws_eqRange_1 none) (.cond (.t 9) (.seq (.reg r_laws_eqRange_2 none) .ret) .skip)) (.seq (.seq (.reg r_laws_eqRange_3 none) (.cond (.t 14) (.seq (.reg r_laws_eqRange_4 none) .ret) .skip)) (.seq (.reg r_laws_eqRange_5 none) .ret)))
theorem c_laws_eqRange : cfun Try.prog [] 11 = some (15, dc_laws_eqRange, [(Res.tmp 4)]) := by kernel_rfl
end
end Go.Proofs.Ytibaamlhjpmjeaa
