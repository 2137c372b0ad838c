/-
  Functions of the program read as code on plain data. Closed facts of the program alone.
-/
import Derived.Test.YtjclkhmpkknadaaRows
import Derived.Test.YtjclkhmpkknadaaVLib
import Derived.KernelRfl
namespace Go.Proofs.Ytjclkhmpkknadaa
open Go.RowKit
noncomputable section
def r_spec_bagRows_0 : List GI := [⟨.box 3 2000003 (.t 0) (some 2), some 3, none, false⟩, ⟨.box 4 2000004 (.t 1) (some 2), some 4, none, false⟩, ⟨.alloc 6 2000006 [.v (.int .i64 0), .nul], some 6, none, false⟩]
def r_spec_bagRows_1 : List GI := [⟨.mov 12 (.k .nul), some 12, none, false⟩, ⟨.mov 7 (.t 12), some 7, none, false⟩]
def r_spec_bagRows_2 : List GI := [⟨.mov 8 (.k (.v (.int .i64 0))), some 8, none, false⟩]
def r_spec_bagRows_3 : List GI := [⟨.mov 13 (.t 8), some 13, none, false⟩, ⟨.fad 14 3 1, some 14, none, false⟩, ⟨.lod 15 14 none, some 15, none, false⟩, ⟨.len 16 (.t 15), some 16, none, false⟩, ⟨.bin 17 .lss (.t 13) (.t 16), some 17, none, false⟩]
def r_spec_bagRows_4 : List GI := [⟨.mov 20 (.t 7), some 20, none, false⟩, ⟨.fad 21 3 1, some 21, none, false⟩, ⟨.lod 22 21 none, some 22, none, false⟩, ⟨.mov 23 (.t 8), some 23, none, false⟩, ⟨.iad 24 22 (.t 23) 1, some 24, none, false⟩, ⟨.lod 25 24 none, some 25, none, false⟩, ⟨.call 26 45 [.t 20, .t 25], some 26, none, true⟩, ⟨.mov 9 (.t 26), some 9, none, false⟩]
def r_spec_bagRows_5 : List GI := [⟨.fad 27 3 1, some 27, none, false⟩, ⟨.lod 28 27 none, some 28, none, false⟩, ⟨.mov 29 (.t 8), some 29, none, false⟩, ⟨.slc 30 (.t 28) none (some (.t 29)) 1, some 30, none, false⟩, ⟨.fad 31 3 1, some 31, none, false⟩, ⟨.lod 32 31 none, some 32, none, false⟩, ⟨.mov 33 (.t 8), some 33, none, false⟩, ⟨.iad 34 32 (.t 33) 1, some 34, none, false⟩, ⟨.lod 35 34 none, some 35, none, false⟩, ⟨.call 36 45 [.t 30, .t 35], some 36, none, true⟩, ⟨.mov 10 (.t 36), some 10, none, false⟩]
def r_spec_bagRows_6 : List GI := [⟨.fad 37 4 1, some 37, none, false⟩, ⟨.lod 38 37 none, some 38, none, false⟩, ⟨.fad 39 3 1, some 39, none, false⟩, ⟨.lod 40 39 none, some 40, none, false⟩, ⟨.mov 41 (.t 8), some 41, none, false⟩, ⟨.iad 42 40 (.t 41) 1, some 42, none, false⟩, ⟨.lod 43 42 none, some 43, none, false⟩, ⟨.call 44 45 [.t 38, .t 43], some 44, none, true⟩, ⟨.mov 11 (.t 44), some 11, none, false⟩]
def r_spec_bagRows_7 : List GI := [⟨.mov 45 (.t 2), some 45, none, false⟩, ⟨.mov 46 (.t 45), some 46, none, false⟩, ⟨.mov 47 (.t 9), some 47, some (46, true), false⟩, ⟨.mov 48 (.t 11), some 48, some (46, true), false⟩, ⟨.bin 49 .lss (.t 47) (.t 48), some 49, some (46, true), false⟩, ⟨.pick 50 (.t 46) (.t 49) (.k (.v (.bool false))), some 50, none, false⟩, ⟨.mov 51 (.t 50), some 51, none, false⟩, ⟨.mov 52 (.t 2), some 52, some (51, false), false⟩, ⟨.un 53 UnOp.not (.t 52), some 53, some (51, false), false⟩, ⟨.mov 54 (.t 53), some 54, some (51, false), false⟩, ⟨.mov 55 (.t 10), some 55, some (54, true), false⟩, ⟨.mov 56 (.t 11), some 56, some (54, true), false⟩, ⟨.bin 57 .geq (.t 55) (.t 56), some 57, some (54, true), false⟩, ⟨.pick 58 (.t 54) (.t 57) (.k (.v (.bool false))), some 58, some (51, false), false⟩, ⟨.pick 59 (.t 51) (.k (.v (.bool true))) (.t 58), some 59, none, false⟩]
def r_spec_bagRows_8 : List GI := [⟨.mov 60 (.t 7), some 60, none, false⟩, ⟨.fad 61 3 1, some 61, none, false⟩, ⟨.lod 62 61 none, some 62, none, false⟩, ⟨.mov 63 (.t 8), some 63, none, false⟩, ⟨.iad 64 62 (.t 63) 1, some 64, none, false⟩, ⟨.lod 65 64 none, some 65, none, false⟩, ⟨.bsl 66 1 none [.nul] [(0, .t 65)], some 66, none, false⟩, ⟨.app 67 2000067 (.t 60) (.t 66) 1 24, some 67, none, false⟩, ⟨.mov 7 (.t 67), some 7, none, false⟩]
def r_spec_bagRows_9 : List GI := [⟨.mov 18 (.t 8), some 18, none, false⟩, ⟨.bin 19 .add (.t 18) (.k (.v (.int .i64 1))), some 19, none, false⟩, ⟨.mov 8 (.t 19), some 8, none, false⟩]
def r_spec_bagRows_10 : List GI := [⟨.fad 68 3 0, some 68, none, false⟩, ⟨.lod 69 68 none, some 69, none, false⟩, ⟨.mov 70 (.t 7), some 70, none, false⟩, ⟨.call 71 47 [.t 69, .t 70], some 71, none, true⟩, ⟨.sto 6 (.t 71) (some 2), none, none, false⟩]
def dc_spec_bagRows : DC := .seq (.reg r_spec_bagRows_0 none) (.seq (.reg r_spec_bagRows_1 none) (.seq (.seq (.reg r_spec_bagRows_2 none) (.block 0 (.loop (.seq (.seq (.reg r_spec_bagRows_3 none) (.cond (.t 17) .skip (.exit 0))) (.seq (.block 1 (.seq (.reg r_spec_bagRows_4 none) (.seq (.reg r_spec_bagRows_5 (some [0, 1, 0, 7, 0, 16, 0, 112, 240, 511, 1023])) (.seq (.reg r_spec_bagRows_6 (some [0, 1, 0, 4, 0, 28, 60, 127, 255])) (.seq (.reg r_spec_bagRows_7 none) (.cond (.t 59) (.reg r_spec_bagRows_8 none) .skip)))))) (.reg r_spec_bagRows_9 none)))))) (.seq (.reg r_spec_bagRows_10 none) .ret)))
theorem c_spec_bagRows : cfun Try.prog [] 38 = some (72, dc_spec_bagRows, [(Res.cell 6 (some 2))]) := by kernel_rfl
end
end Go.Proofs.Ytjclkhmpkknadaa
