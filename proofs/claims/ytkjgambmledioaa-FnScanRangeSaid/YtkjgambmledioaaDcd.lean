/-
  Functions of the program read as code on plain data. Closed facts of the program alone.
-/
import Derived.Test.YtkjgambmledioaaRows
import Derived.Test.YtkjgambmledioaaVLib
import Derived.KernelRfl
namespace Go.Proofs.Ytkjgambmledioaa
open Go.RowKit
noncomputable section
def r_spec_tableOf_0 : List GI := [⟨.alloc 4 2000004 [.v (.int .i64 0), .nul], some 4, none, false⟩]
def r_spec_tableOf_1 : List GI := [⟨.mov 7 (.t 0), some 7, none, false⟩, ⟨.build 8 [.v (.int .i64 0), .nul] [(0, (none, .t 7))], some 8, none, false⟩, ⟨.alloc 5 2000005 [.v (.int .i64 0), .nul], some 5, none, false⟩, ⟨.sto 5 (.t 8) (some 2), none, none, false⟩]
def r_spec_tableOf_2 : List GI := [⟨.mov 9 (.t 1), some 9, none, false⟩, ⟨.len 10 (.t 9), some 10, none, false⟩, ⟨.bin 11 .gtr (.t 10) (.k (.v (.int .i64 400))), some 11, none, false⟩]
def r_spec_tableOf_3 : List GI := [⟨.lod 12 5 (some 2), some 12, none, false⟩, ⟨.sto 4 (.t 12) (some 2), none, none, false⟩]
def r_spec_tableOf_4 : List GI := [⟨.mov 6 (.k (.v (.int .i64 0))), some 6, none, false⟩]
def r_spec_tableOf_5 : List GI := [⟨.mov 13 (.t 6), some 13, none, false⟩, ⟨.mov 14 (.t 1), some 14, none, false⟩, ⟨.len 15 (.t 14), some 15, none, false⟩, ⟨.bin 16 .lss (.t 13) (.t 15), some 16, none, false⟩]
def r_spec_tableOf_6 : List GI := [⟨.fad 19 5 1, some 19, none, false⟩, ⟨.lod 20 19 none, some 20, none, false⟩, ⟨.mov 21 (.t 1), some 21, none, false⟩, ⟨.mov 22 (.t 6), some 22, none, false⟩, ⟨.iad 23 21 (.t 22) 1, some 23, none, false⟩, ⟨.lod 24 23 none, some 24, none, false⟩, ⟨.call 25 78 [.t 20, .t 24], some 25, none, true⟩, ⟨.fad 26 5 1, some 26, none, false⟩, ⟨.sto 26 (.t 25) none, none, none, false⟩]
def r_spec_tableOf_7 : List GI := [⟨.mov 17 (.t 6), some 17, none, false⟩, ⟨.bin 18 .add (.t 17) (.k (.v (.int .i64 1))), some 18, none, false⟩, ⟨.mov 6 (.t 18), some 6, none, false⟩]
def r_spec_tableOf_8 : List GI := [⟨.lod 27 5 (some 2), some 27, none, false⟩, ⟨.sto 4 (.t 27) (some 2), none, none, false⟩]
def dc_spec_tableOf : DC := .seq (.reg r_spec_tableOf_0 none) (.seq (.reg r_spec_tableOf_1 none) (.seq (.seq (.reg r_spec_tableOf_2 none) (.cond (.t 11) (.seq (.reg r_spec_tableOf_3 none) .ret) .skip)) (.seq (.seq (.reg r_spec_tableOf_4 none) (.block 0 (.loop (.seq (.seq (.reg r_spec_tableOf_5 none) (.cond (.t 16) .skip (.exit 0))) (.seq (.block 1 (.reg r_spec_tableOf_6 (some [0, 1, 0, 0, 12, 28, 63, 127, 255]))) (.reg r_spec_tableOf_7 none)))))) (.seq (.reg r_spec_tableOf_8 none) .ret))))
theorem c_spec_tableOf : cfun Try.prog [] 50 = some (28, dc_spec_tableOf, [(Res.cell 4 (some 2))]) := by kernel_rfl
end
end Go.Proofs.Ytkjgambmledioaa
