/-
  Functions of the program read as code on plain data. Closed facts of the program alone.
-/
import Derived.Test.YtjclkhmpkknadaaRows
import Derived.Test.YtjclkhmpkknadaaVLib
import Derived.KernelRfl
namespace Go.Proofs.Ytjclkhmpkknadaa
open Go.RowKit
noncomputable section
def r_laws_FnIsSubtable_0 : List GI := [⟨.mov 2 (.k (.v (.bool false))), some 2, none, false⟩]
def r_laws_FnIsSubtable_1 : List GI := [⟨.mov 8 (.t 0), some 8, none, false⟩, ⟨.len 9 (.t 8), some 9, none, false⟩, ⟨.bin 10 .gtr (.t 9) (.k (.v (.int .i64 1048576))), some 10, none, false⟩]
def r_laws_FnIsSubtable_2 : List GI := [⟨.mov 2 (.k (.v (.bool true))), some 2, none, false⟩]
def r_laws_FnIsSubtable_3 : List GI := [⟨.mov 12 (.t 0), some 12, none, false⟩, ⟨.call 13 20 [.t 12], some 13, none, true⟩, ⟨.mov 11 (.t 13), some 11, none, false⟩, ⟨.ext 14 11 0, some 14, none, false⟩, ⟨.ext 15 11 1, some 15, none, false⟩, ⟨.alloc 3 2000003 [.v (.int .i64 0), .nul], some 3, none, false⟩, ⟨.alloc 4 2000004 [.v (.int .i64 0), .nul], some 4, none, false⟩, ⟨.sto 3 (.t 14) (some 2), none, none, false⟩, ⟨.sto 4 (.t 15) (some 2), none, none, false⟩]
def r_laws_FnIsSubtable_4 : List GI := [⟨.lod 16 3 (some 2), some 16, none, false⟩, ⟨.lod 17 4 (some 2), some 17, none, false⟩, ⟨.call 18 21 [.t 16, .t 17], some 18, none, true⟩, ⟨.mov 5 (.t 18), some 5, none, false⟩]
def r_laws_FnIsSubtable_5 : List GI := [⟨.mov 19 (.t 5), some 19, none, false⟩, ⟨.lod 20 3 (some 2), some 20, none, false⟩, ⟨.lod 21 4 (some 2), some 21, none, false⟩, ⟨.call 22 22 [.t 20, .t 21], some 22, none, true⟩, ⟨.beq 23 true (.t 19) (.t 22), some 23, none, false⟩]
def r_laws_FnIsSubtable_6 : List GI := [⟨.mov 2 (.k (.v (.bool false))), some 2, none, false⟩]
def r_laws_FnIsSubtable_7 : List GI := [⟨.lod 25 3 (some 2), some 25, none, false⟩, ⟨.lod 26 4 (some 2), some 26, none, false⟩, ⟨.call 27 17 [.t 25, .t 26], some 27, none, true⟩, ⟨.mov 24 (.t 27), some 24, none, false⟩, ⟨.ext 28 24 0, some 28, none, false⟩, ⟨.ext 29 24 1, some 29, none, false⟩, ⟨.alloc 6 2000006 [.v (.int .i64 0), .nul], some 6, none, false⟩, ⟨.sto 6 (.t 28) (some 2), none, none, false⟩, ⟨.mov 7 (.t 29), some 7, none, false⟩]
def r_laws_FnIsSubtable_8 : List GI := [⟨.mov 30 (.t 7), some 30, none, false⟩, ⟨.un 31 UnOp.not (.t 30), some 31, none, false⟩]
def r_laws_FnIsSubtable_9 : List GI := [⟨.mov 32 (.t 5), some 32, none, false⟩, ⟨.un 33 UnOp.not (.t 32), some 33, none, false⟩, ⟨.mov 2 (.t 33), some 2, none, false⟩]
def r_laws_FnIsSubtable_10 : List GI := [⟨.mov 34 (.t 5), some 34, none, false⟩, ⟨.fad 35 6 1, some 35, none, false⟩, ⟨.lod 36 35 none, some 36, none, false⟩, ⟨.len 37 (.t 36), some 37, none, false⟩, ⟨.bin 38 .eql (.t 37) (.k (.v (.int .i64 0))), some 38, none, false⟩, ⟨.beq 39 false (.t 34) (.t 38), some 39, none, false⟩, ⟨.mov 40 (.t 39), some 40, none, false⟩, ⟨.lod 41 3 (some 2), some 41, some (40, true), false⟩, ⟨.lod 42 3 (some 2), some 42, some (40, true), false⟩, ⟨.call 43 21 [.t 41, .t 42], some 43, some (40, true), true⟩, ⟨.pick 44 (.t 40) (.t 43) (.k (.v (.bool false))), some 44, none, false⟩, ⟨.mov 45 (.t 44), some 45, none, false⟩, ⟨.lod 46 6 (some 2), some 46, some (45, true), false⟩, ⟨.lod 47 3 (some 2), some 47, some (45, true), false⟩, ⟨.call 48 21 [.t 46, .t 47], some 48, some (45, true), true⟩, ⟨.pick 49 (.t 45) (.t 48) (.k (.v (.bool false))), some 49, none, false⟩, ⟨.mov 2 (.t 49), some 2, none, false⟩]
def dc_laws_FnIsSubtable : DC := .seq (.reg r_laws_FnIsSubtable_0 none) (.seq (.seq (.reg r_laws_FnIsSubtable_1 none) (.cond (.t 10) (.seq (.reg r_laws_FnIsSubtable_2 none) .ret) .skip)) (.seq (.reg r_laws_FnIsSubtable_3 none) (.seq (.reg r_laws_FnIsSubtable_4 none) (.seq (.seq (.reg r_laws_FnIsSubtable_5 none) (.cond (.t 23) (.seq (.reg r_laws_FnIsSubtable_6 none) .ret) .skip)) (.seq (.reg r_laws_FnIsSubtable_7 none) (.seq (.seq (.reg r_laws_FnIsSubtable_8 none) (.cond (.t 31) (.seq (.reg r_laws_FnIsSubtable_9 none) .ret) .skip)) (.seq (.reg r_laws_FnIsSubtable_10 none) .ret)))))))
theorem c_laws_FnIsSubtable : cfun Try.prog [] 7 = some (50, dc_laws_FnIsSubtable, [(Res.tmp 2)]) := by kernel_rfl
end
end Go.Proofs.Ytjclkhmpkknadaa
