/-
  Functions of the program read as code on plain data. Closed facts of the program alone.
-/
import Derived.Test.YtjclkhmpkknadaaRows
import Derived.Test.YtjclkhmpkknadaaVLib
import Derived.KernelRfl
namespace Go.Proofs.Ytjclkhmpkknadaa
open Go.RowKit
noncomputable section
def r_spec_DrawExceptAll_0 : List GI := [⟨.alloc 2 2000002 [.v (.int .i64 0), .nul], some 2, none, false⟩, ⟨.alloc 3 2000003 [.v (.int .i64 0), .nul], some 3, none, false⟩]
def r_spec_DrawExceptAll_1 : List GI := [⟨.mov 4 (.t 0), some 4, none, false⟩, ⟨.call 5 32 [.t 4], some 5, none, true⟩, ⟨.call 6 31 [.t 5], some 6, none, true⟩, ⟨.ext 7 6 0, some 7, none, false⟩, ⟨.ext 8 6 1, some 8, none, false⟩, ⟨.sto 2 (.t 7) (some 2), none, none, false⟩, ⟨.sto 3 (.t 8) (some 2), none, none, false⟩]
def dc_spec_DrawExceptAll : DC := .seq (.reg r_spec_DrawExceptAll_0 none) (.seq (.reg r_spec_DrawExceptAll_1 none) .ret)
theorem c_spec_DrawExceptAll : cfun Try.prog [] 16 = some (9, dc_spec_DrawExceptAll, [(Res.cell 2 (some 2)), (Res.cell 3 (some 2))]) := by kernel_rfl
def r_spec_DrawIntersectAll_0 : List GI := [⟨.alloc 2 2000002 [.v (.int .i64 0), .nul], some 2, none, false⟩, ⟨.alloc 3 2000003 [.v (.int .i64 0), .nul], some 3, none, false⟩]
def r_spec_DrawIntersectAll_1 : List GI := [⟨.mov 4 (.t 0), some 4, none, false⟩, ⟨.call 5 32 [.t 4], some 5, none, true⟩, ⟨.call 6 31 [.t 5], some 6, none, true⟩, ⟨.ext 7 6 0, some 7, none, false⟩, ⟨.ext 8 6 1, some 8, none, false⟩, ⟨.sto 2 (.t 7) (some 2), none, none, false⟩, ⟨.sto 3 (.t 8) (some 2), none, none, false⟩]
def dc_spec_DrawIntersectAll : DC := .seq (.reg r_spec_DrawIntersectAll_0 none) (.seq (.reg r_spec_DrawIntersectAll_1 none) .ret)
theorem c_spec_DrawIntersectAll : cfun Try.prog [] 11 = some (9, dc_spec_DrawIntersectAll, [(Res.cell 2 (some 2)), (Res.cell 3 (some 2))]) := by kernel_rfl
def r_spec_DrawIsSubtable_0 : List GI := [⟨.alloc 2 2000002 [.v (.int .i64 0), .nul], some 2, none, false⟩, ⟨.alloc 3 2000003 [.v (.int .i64 0), .nul], some 3, none, false⟩]
def r_spec_DrawIsSubtable_1 : List GI := [⟨.mov 9 (.t 0), some 9, none, false⟩, ⟨.call 10 32 [.t 9], some 10, none, true⟩, ⟨.mov 4 (.t 10), some 4, none, false⟩]
def r_spec_DrawIsSubtable_2 : List GI := [⟨.mov 12 (.t 4), some 12, none, false⟩, ⟨.call 13 31 [.t 12], some 13, none, true⟩, ⟨.mov 11 (.t 13), some 11, none, false⟩, ⟨.ext 14 11 0, some 14, none, false⟩, ⟨.ext 15 11 1, some 15, none, false⟩, ⟨.alloc 5 2000005 [.v (.int .i64 0), .nul], some 5, none, false⟩, ⟨.alloc 6 2000006 [.v (.int .i64 0), .nul], some 6, none, false⟩, ⟨.sto 5 (.t 14) (some 2), none, none, false⟩, ⟨.sto 6 (.t 15) (some 2), none, none, false⟩]
def r_spec_DrawIsSubtable_3 : List GI := [⟨.mov 16 (.t 4), some 16, none, false⟩, ⟨.call 17 44 [.t 16, .k (.v (.int .i64 2))], some 17, none, true⟩, ⟨.bin 18 .eql (.t 17) (.k (.v (.int .i64 0))), some 18, none, false⟩]
def r_spec_DrawIsSubtable_4 : List GI := [⟨.lod 20 5 (some 2), some 20, none, false⟩, ⟨.lod 21 6 (some 2), some 21, none, false⟩, ⟨.call 22 13 [.t 20, .t 21], some 22, none, true⟩, ⟨.mov 19 (.t 22), some 19, none, false⟩, ⟨.ext 23 19 0, some 23, none, false⟩, ⟨.ext 24 19 1, some 24, none, false⟩, ⟨.alloc 7 2000007 [.v (.int .i64 0), .nul], some 7, none, false⟩, ⟨.sto 7 (.t 23) (some 2), none, none, false⟩, ⟨.mov 8 (.t 24), some 8, none, false⟩]
def r_spec_DrawIsSubtable_5 : List GI := [⟨.mov 25 (.t 8), some 25, none, false⟩]
def r_spec_DrawIsSubtable_6 : List GI := [⟨.lod 26 7 (some 2), some 26, none, false⟩, ⟨.lod 27 6 (some 2), some 27, none, false⟩, ⟨.sto 2 (.t 26) (some 2), none, none, false⟩, ⟨.sto 3 (.t 27) (some 2), none, none, false⟩]
def r_spec_DrawIsSubtable_7 : List GI := [⟨.lod 28 5 (some 2), some 28, none, false⟩, ⟨.lod 29 6 (some 2), some 29, none, false⟩, ⟨.sto 2 (.t 28) (some 2), none, none, false⟩, ⟨.sto 3 (.t 29) (some 2), none, none, false⟩]
def dc_spec_DrawIsSubtable : DC := .seq (.reg r_spec_DrawIsSubtable_0 none) (.seq (.reg r_spec_DrawIsSubtable_1 none) (.seq (.reg r_spec_DrawIsSubtable_2 none) (.seq (.seq (.reg r_spec_DrawIsSubtable_3 none) (.cond (.t 18) (.seq (.reg r_spec_DrawIsSubtable_4 none) (.seq (.reg r_spec_DrawIsSubtable_5 none) (.cond (.t 25) (.seq (.reg r_spec_DrawIsSubtable_6 (some [0, 0, 1, 7])) .ret) .skip))) .skip)) (.seq (.reg r_spec_DrawIsSubtable_7 (some [0, 0, 1, 7])) .ret))))
theorem c_spec_DrawIsSubtable : cfun Try.prog [] 20 = some (30, dc_spec_DrawIsSubtable, [(Res.cell 2 (some 2)), (Res.cell 3 (some 2))]) := by kernel_rfl
end
end Go.Proofs.Ytjclkhmpkknadaa
