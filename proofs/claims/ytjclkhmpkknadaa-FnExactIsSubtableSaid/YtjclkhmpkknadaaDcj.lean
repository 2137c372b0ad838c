/-
  Functions of the program read as code on plain data. Closed facts of the program alone.
-/
import Derived.Test.YtjclkhmpkknadaaRows
import Derived.Test.YtjclkhmpkknadaaVLib
import Derived.KernelRfl
namespace Go.Proofs.Ytjclkhmpkknadaa
open Go.RowKit
noncomputable section
def r_spec_IsSubtable_0 : List GI := [⟨.box 2 2000002 (.t 0) (some 2), some 2, none, false⟩, ⟨.box 3 2000003 (.t 1) (some 2), some 3, none, false⟩, ⟨.mov 4 (.k (.v (.bool false))), some 4, none, false⟩]
def r_spec_IsSubtable_1 : List GI := [⟨.lod 6 2 (some 2), some 6, none, false⟩, ⟨.call 7 37 [.t 6], some 7, none, true⟩, ⟨.un 8 UnOp.not (.t 7), some 8, none, false⟩, ⟨.mov 9 (.t 8), some 9, none, false⟩, ⟨.lod 10 3 (some 2), some 10, some (9, false), false⟩, ⟨.call 11 37 [.t 10], some 11, some (9, false), true⟩, ⟨.un 12 UnOp.not (.t 11), some 12, some (9, false), false⟩, ⟨.pick 13 (.t 9) (.k (.v (.bool true))) (.t 12), some 13, none, false⟩, ⟨.mov 14 (.t 13), some 14, none, false⟩, ⟨.fad 15 2 0, some 15, some (14, false), false⟩, ⟨.lod 16 15 none, some 16, some (14, false), false⟩, ⟨.fad 17 3 0, some 17, some (14, false), false⟩, ⟨.lod 18 17 none, some 18, some (14, false), false⟩, ⟨.bin 19 .neq (.t 16) (.t 18), some 19, some (14, false), false⟩, ⟨.pick 20 (.t 14) (.k (.v (.bool true))) (.t 19), some 20, none, false⟩]
def r_spec_IsSubtable_2 : List GI := [⟨.mov 4 (.k (.v (.bool false))), some 4, none, false⟩]
def r_spec_IsSubtable_3 : List GI := [⟨.mov 5 (.k (.v (.int .i64 0))), some 5, none, false⟩]
def r_spec_IsSubtable_4 : List GI := [⟨.mov 21 (.t 5), some 21, none, false⟩, ⟨.fad 22 2 1, some 22, none, false⟩, ⟨.lod 23 22 none, some 23, none, false⟩, ⟨.len 24 (.t 23), some 24, none, false⟩, ⟨.bin 25 .lss (.t 21) (.t 24), some 25, none, false⟩]
def r_spec_IsSubtable_5 : List GI := [⟨.fad 28 2 1, some 28, none, false⟩, ⟨.lod 29 28 none, some 29, none, false⟩, ⟨.fad 30 2 1, some 30, none, false⟩, ⟨.lod 31 30 none, some 31, none, false⟩, ⟨.mov 32 (.t 5), some 32, none, false⟩, ⟨.iad 33 31 (.t 32) 1, some 33, none, false⟩, ⟨.lod 34 33 none, some 34, none, false⟩, ⟨.call 35 45 [.t 29, .t 34], some 35, none, true⟩, ⟨.fad 36 3 1, some 36, none, false⟩, ⟨.lod 37 36 none, some 37, none, false⟩, ⟨.fad 38 2 1, some 38, none, false⟩, ⟨.lod 39 38 none, some 39, none, false⟩, ⟨.mov 40 (.t 5), some 40, none, false⟩, ⟨.iad 41 39 (.t 40) 1, some 41, none, false⟩, ⟨.lod 42 41 none, some 42, none, false⟩, ⟨.call 43 45 [.t 37, .t 42], some 43, none, true⟩, ⟨.bin 44 .gtr (.t 35) (.t 43), some 44, none, false⟩]
def r_spec_IsSubtable_6 : List GI := [⟨.mov 4 (.k (.v (.bool false))), some 4, none, false⟩]
def r_spec_IsSubtable_7 : List GI := [⟨.mov 26 (.t 5), some 26, none, false⟩, ⟨.bin 27 .add (.t 26) (.k (.v (.int .i64 1))), some 27, none, false⟩, ⟨.mov 5 (.t 27), some 5, none, false⟩]
def r_spec_IsSubtable_8 : List GI := [⟨.mov 4 (.k (.v (.bool true))), some 4, none, false⟩]
def dc_spec_IsSubtable : DC := .seq (.reg r_spec_IsSubtable_0 none) (.seq (.seq (.reg r_spec_IsSubtable_1 none) (.cond (.t 20) (.seq (.reg r_spec_IsSubtable_2 none) .ret) .skip)) (.seq (.seq (.reg r_spec_IsSubtable_3 none) (.block 0 (.loop (.seq (.seq (.reg r_spec_IsSubtable_4 none) (.cond (.t 25) .skip (.exit 0))) (.seq (.block 1 (.seq (.reg r_spec_IsSubtable_5 (some [0, 1, 0, 4, 0, 28, 60, 127, 0, 256, 0, 1024, 0, 7168, 15360, 32767, 65535])) (.cond (.t 44) (.seq (.reg r_spec_IsSubtable_6 none) .ret) .skip))) (.reg r_spec_IsSubtable_7 none)))))) (.seq (.reg r_spec_IsSubtable_8 none) .ret)))
theorem c_spec_IsSubtable : cfun Try.prog [] 22 = some (45, dc_spec_IsSubtable, [(Res.tmp 4)]) := by kernel_rfl
end
end Go.Proofs.Ytjclkhmpkknadaa
