/-
  Functions of the program read as code on plain data. Closed facts of the program alone.
-/
import Derived.Test.YtjclkhmpkknadaaRows
import Derived.Test.YtjclkhmpkknadaaVLib
import Derived.KernelRfl
namespace Go.Proofs.Ytjclkhmpkknadaa
open Go.RowKit
noncomputable section
def r_spec_ExceptAll_0 : List GI := [⟨.box 2 2000002 (.t 0) (some 2), some 2, none, false⟩, ⟨.box 3 2000003 (.t 1) (some 2), some 3, none, false⟩, ⟨.alloc 4 2000004 [.v (.int .i64 0), .nul], some 4, none, false⟩, ⟨.mov 5 (.k (.v (.bool false))), some 5, none, false⟩]
def r_spec_ExceptAll_1 : List GI := [⟨.lod 6 2 (some 2), some 6, none, false⟩, ⟨.call 7 37 [.t 6], some 7, none, true⟩, ⟨.un 8 UnOp.not (.t 7), some 8, none, false⟩, ⟨.mov 9 (.t 8), some 9, none, false⟩, ⟨.lod 10 3 (some 2), some 10, some (9, false), false⟩, ⟨.call 11 37 [.t 10], some 11, some (9, false), true⟩, ⟨.un 12 UnOp.not (.t 11), some 12, some (9, false), false⟩, ⟨.pick 13 (.t 9) (.k (.v (.bool true))) (.t 12), some 13, none, false⟩, ⟨.mov 14 (.t 13), some 14, none, false⟩, ⟨.fad 15 2 0, some 15, some (14, false), false⟩, ⟨.lod 16 15 none, some 16, some (14, false), false⟩, ⟨.fad 17 3 0, some 17, some (14, false), false⟩, ⟨.lod 18 17 none, some 18, some (14, false), false⟩, ⟨.bin 19 .neq (.t 16) (.t 18), some 19, some (14, false), false⟩, ⟨.pick 20 (.t 14) (.k (.v (.bool true))) (.t 19), some 20, none, false⟩]
def r_spec_ExceptAll_2 : List GI := [⟨.build 21 [.v (.int .i64 0), .nul] [], some 21, none, false⟩, ⟨.sto 4 (.t 21) (some 2), none, none, false⟩, ⟨.mov 5 (.k (.v (.bool false))), some 5, none, false⟩]
def r_spec_ExceptAll_3 : List GI := [⟨.lod 22 2 (some 2), some 22, none, false⟩, ⟨.lod 23 3 (some 2), some 23, none, false⟩, ⟨.call 24 38 [.t 22, .t 23, .k (.v (.bool false))], some 24, none, true⟩, ⟨.sto 4 (.t 24) (some 2), none, none, false⟩, ⟨.mov 5 (.k (.v (.bool true))), some 5, none, false⟩]
def dc_spec_ExceptAll : DC := .seq (.reg r_spec_ExceptAll_0 none) (.seq (.seq (.reg r_spec_ExceptAll_1 none) (.cond (.t 20) (.seq (.reg r_spec_ExceptAll_2 none) .ret) .skip)) (.seq (.reg r_spec_ExceptAll_3 none) .ret))
theorem c_spec_ExceptAll : cfun Try.prog [] 18 = some (25, dc_spec_ExceptAll, [(Res.cell 4 (some 2)), (Res.tmp 5)]) := by kernel_rfl
def r_spec_IntersectAll_0 : List GI := [⟨.box 2 2000002 (.t 0) (some 2), some 2, none, false⟩, ⟨.box 3 2000003 (.t 1) (some 2), some 3, none, false⟩, ⟨.alloc 4 2000004 [.v (.int .i64 0), .nul], some 4, none, false⟩, ⟨.mov 5 (.k (.v (.bool false))), some 5, none, false⟩]
def r_spec_IntersectAll_1 : List GI := [⟨.lod 6 2 (some 2), some 6, none, false⟩, ⟨.call 7 37 [.t 6], some 7, none, true⟩, ⟨.un 8 UnOp.not (.t 7), some 8, none, false⟩, ⟨.mov 9 (.t 8), some 9, none, false⟩, ⟨.lod 10 3 (some 2), some 10, some (9, false), false⟩, ⟨.call 11 37 [.t 10], some 11, some (9, false), true⟩, ⟨.un 12 UnOp.not (.t 11), some 12, some (9, false), false⟩, ⟨.pick 13 (.t 9) (.k (.v (.bool true))) (.t 12), some 13, none, false⟩, ⟨.mov 14 (.t 13), some 14, none, false⟩, ⟨.fad 15 2 0, some 15, some (14, false), false⟩, ⟨.lod 16 15 none, some 16, some (14, false), false⟩, ⟨.fad 17 3 0, some 17, some (14, false), false⟩, ⟨.lod 18 17 none, some 18, some (14, false), false⟩, ⟨.bin 19 .neq (.t 16) (.t 18), some 19, some (14, false), false⟩, ⟨.pick 20 (.t 14) (.k (.v (.bool true))) (.t 19), some 20, none, false⟩]
def r_spec_IntersectAll_2 : List GI := [⟨.build 21 [.v (.int .i64 0), .nul] [], some 21, none, false⟩, ⟨.sto 4 (.t 21) (some 2), none, none, false⟩, ⟨.mov 5 (.k (.v (.bool false))), some 5, none, false⟩]
def r_spec_IntersectAll_3 : List GI := [⟨.lod 22 2 (some 2), some 22, none, false⟩, ⟨.lod 23 3 (some 2), some 23, none, false⟩, ⟨.call 24 38 [.t 22, .t 23, .k (.v (.bool true))], some 24, none, true⟩, ⟨.sto 4 (.t 24) (some 2), none, none, false⟩, ⟨.mov 5 (.k (.v (.bool true))), some 5, none, false⟩]
def dc_spec_IntersectAll : DC := .seq (.reg r_spec_IntersectAll_0 none) (.seq (.seq (.reg r_spec_IntersectAll_1 none) (.cond (.t 20) (.seq (.reg r_spec_IntersectAll_2 none) .ret) .skip)) (.seq (.reg r_spec_IntersectAll_3 none) .ret))
theorem c_spec_IntersectAll : cfun Try.prog [] 13 = some (25, dc_spec_IntersectAll, [(Res.cell 4 (some 2)), (Res.tmp 5)]) := by kernel_rfl
end
end Go.Proofs.Ytjclkhmpkknadaa
