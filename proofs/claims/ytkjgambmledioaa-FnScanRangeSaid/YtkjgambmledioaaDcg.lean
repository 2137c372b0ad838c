/-
  Functions of the program read as code on plain data. Closed facts of the program alone.
-/
import Derived.Test.YtkjgambmledioaaRows
import Derived.Test.YtkjgambmledioaaVLib
import Derived.KernelRfl
namespace Go.Proofs.Ytkjgambmledioaa
open Go.RowKit
noncomputable section
def r_spec_TableOf_0 : List GI := [⟨.alloc 4 2000004 [.v (.int .i64 0), .nul], some 4, none, false⟩, ⟨.mov 5 (.k (.v (.bool false))), some 5, none, false⟩]
def r_spec_TableOf_1 : List GI := [⟨.mov 7 (.t 0), some 7, none, false⟩, ⟨.call 8 48 [.t 7, .k (.v (.int .i64 1)), .k (.v (.int .i64 6))], some 8, none, true⟩, ⟨.un 9 UnOp.not (.t 8), some 9, none, false⟩, ⟨.mov 10 (.t 9), some 10, none, false⟩, ⟨.mov 11 (.t 1), some 11, some (10, false), false⟩, ⟨.len 12 (.t 11), some 12, some (10, false), false⟩, ⟨.bin 13 .gtr (.t 12) (.k (.v (.int .i64 400))), some 13, some (10, false), false⟩, ⟨.pick 14 (.t 10) (.k (.v (.bool true))) (.t 13), some 14, none, false⟩]
def r_spec_TableOf_2 : List GI := [⟨.build 15 [.v (.int .i64 0), .nul] [], some 15, none, false⟩, ⟨.sto 4 (.t 15) (some 2), none, none, false⟩, ⟨.mov 5 (.k (.v (.bool false))), some 5, none, false⟩]
def r_spec_TableOf_3 : List GI := [⟨.mov 6 (.k (.v (.int .i64 0))), some 6, none, false⟩]
def r_spec_TableOf_4 : List GI := [⟨.mov 16 (.t 6), some 16, none, false⟩, ⟨.mov 17 (.t 1), some 17, none, false⟩, ⟨.len 18 (.t 17), some 18, none, false⟩, ⟨.bin 19 .lss (.t 16) (.t 18), some 19, none, false⟩]
def r_spec_TableOf_5 : List GI := [⟨.mov 22 (.t 1), some 22, none, false⟩, ⟨.mov 23 (.t 6), some 23, none, false⟩, ⟨.iad 24 22 (.t 23) 1, some 24, none, false⟩, ⟨.lod 25 24 none, some 25, none, false⟩, ⟨.call 26 49 [.t 25], some 26, none, true⟩, ⟨.un 27 UnOp.not (.t 26), some 27, none, false⟩, ⟨.mov 28 (.t 27), some 28, none, false⟩, ⟨.mov 29 (.t 1), some 29, some (28, false), false⟩, ⟨.mov 30 (.t 6), some 30, some (28, false), false⟩, ⟨.iad 31 29 (.t 30) 1, some 31, some (28, false), false⟩, ⟨.lod 32 31 none, some 32, some (28, false), false⟩, ⟨.len 33 (.t 32), some 33, some (28, false), false⟩, ⟨.mov 34 (.t 0), some 34, some (28, false), false⟩, ⟨.bin 35 .neq (.t 33) (.t 34), some 35, some (28, false), false⟩, ⟨.pick 36 (.t 28) (.k (.v (.bool true))) (.t 35), some 36, none, false⟩]
def r_spec_TableOf_6 : List GI := [⟨.build 37 [.v (.int .i64 0), .nul] [], some 37, none, false⟩, ⟨.sto 4 (.t 37) (some 2), none, none, false⟩, ⟨.mov 5 (.k (.v (.bool false))), some 5, none, false⟩]
def r_spec_TableOf_7 : List GI := [⟨.mov 20 (.t 6), some 20, none, false⟩, ⟨.bin 21 .add (.t 20) (.k (.v (.int .i64 1))), some 21, none, false⟩, ⟨.mov 6 (.t 21), some 6, none, false⟩]
def r_spec_TableOf_8 : List GI := [⟨.mov 38 (.t 0), some 38, none, false⟩, ⟨.mov 39 (.t 1), some 39, none, false⟩, ⟨.call 40 50 [.t 38, .t 39], some 40, none, true⟩, ⟨.sto 4 (.t 40) (some 2), none, none, false⟩, ⟨.mov 5 (.k (.v (.bool true))), some 5, none, false⟩]
def dc_spec_TableOf : DC := .seq (.reg r_spec_TableOf_0 none) (.seq (.seq (.reg r_spec_TableOf_1 none) (.cond (.t 14) (.seq (.reg r_spec_TableOf_2 none) .ret) .skip)) (.seq (.seq (.reg r_spec_TableOf_3 none) (.block 0 (.loop (.seq (.seq (.reg r_spec_TableOf_4 none) (.cond (.t 19) .skip (.exit 0))) (.seq (.block 1 (.seq (.reg r_spec_TableOf_5 none) (.cond (.t 36) (.seq (.reg r_spec_TableOf_6 none) .ret) .skip))) (.reg r_spec_TableOf_7 none)))))) (.seq (.reg r_spec_TableOf_8 none) .ret)))
theorem c_spec_TableOf : cfun Try.prog [] 15 = some (41, dc_spec_TableOf, [(Res.cell 4 (some 2)), (Res.tmp 5)]) := by kernel_rfl
end
end Go.Proofs.Ytkjgambmledioaa
