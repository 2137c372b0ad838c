/-
  Functions of the program read as code on plain data. Closed facts of the program alone.
-/
import Derived.Test.YtncecpieebepaaaRows
import Derived.Test.YtncecpieebepaaaVLib
import Derived.KernelRfl
namespace Go.Proofs.Ytncecpieebepaaa
open Go.RowKit
noncomputable section
def r_spec_DrawOrderCovers_0 : List GI := [⟨.mov 2 (.k .nul), some 2, none, false⟩, ⟨.mov 3 (.k .nul), some 3, none, false⟩]
def r_spec_DrawOrderCovers_1 : List GI := [⟨.mov 6 (.t 0), some 6, none, false⟩, ⟨.call 7 19 [.t 6], some 7, none, true⟩, ⟨.mov 4 (.t 7), some 4, none, false⟩]
def r_spec_DrawOrderCovers_2 : List GI := [⟨.mov 8 (.t 4), some 8, none, false⟩, ⟨.call 9 22 [.t 8, .k (.v (.int .i64 3))], some 9, none, true⟩, ⟨.mov 5 (.t 9), some 5, none, false⟩]
def r_spec_DrawOrderCovers_3 : List GI := [⟨.mov 10 (.t 4), some 10, none, false⟩, ⟨.call 11 20 [.t 10, .k (.v (.int .i64 2))], some 11, none, true⟩, ⟨.bin 12 .eql (.t 11) (.k (.v (.int .i64 0))), some 12, none, false⟩]
def r_spec_DrawOrderCovers_4 : List GI := [⟨.mov 13 (.t 5), some 13, none, false⟩, ⟨.mov 14 (.k .nul), some 14, none, false⟩, ⟨.mov 15 (.t 5), some 15, none, false⟩, ⟨.mov 16 (.t 4), some 16, none, false⟩, ⟨.mov 17 (.t 5), some 17, none, false⟩, ⟨.len 18 (.t 17), some 18, none, false⟩, ⟨.bin 19 .add (.t 18) (.k (.v (.int .i64 1))), some 19, none, false⟩, ⟨.call 20 20 [.t 16, .t 19], some 20, none, true⟩, ⟨.slc 21 (.t 15) none (some (.t 20)) 2, some 21, none, false⟩, ⟨.app 22 2000022 (.t 14) (.t 21) 2 16, some 22, none, false⟩, ⟨.mov 2 (.t 13), some 2, none, false⟩, ⟨.mov 3 (.t 22), some 3, none, false⟩]
def r_spec_DrawOrderCovers_5 : List GI := [⟨.mov 23 (.t 5), some 23, none, false⟩, ⟨.mov 24 (.t 4), some 24, none, false⟩, ⟨.call 25 22 [.t 24, .k (.v (.int .i64 3))], some 25, none, true⟩, ⟨.mov 2 (.t 23), some 2, none, false⟩, ⟨.mov 3 (.t 25), some 3, none, false⟩]
def dc_spec_DrawOrderCovers : DC := .seq (.reg r_spec_DrawOrderCovers_0 none) (.seq (.reg r_spec_DrawOrderCovers_1 none) (.seq (.reg r_spec_DrawOrderCovers_2 none) (.seq (.seq (.reg r_spec_DrawOrderCovers_3 none) (.cond (.t 12) (.seq (.reg r_spec_DrawOrderCovers_4 none) .ret) .skip)) (.seq (.reg r_spec_DrawOrderCovers_5 none) .ret))))
theorem c_spec_DrawOrderCovers : cfun Try.prog [] 13 = some (26, dc_spec_DrawOrderCovers, [(Res.tmp 2), (Res.tmp 3)]) := by kernel_rfl
def r_spec_DrawSortRows_0 : List GI := [⟨.alloc 2 2000002 [.v (.int .i64 0), .nul], some 2, none, false⟩, ⟨.mov 3 (.k .nul), some 3, none, false⟩]
def r_spec_DrawSortRows_1 : List GI := [⟨.mov 7 (.t 0), some 7, none, false⟩, ⟨.call 8 19 [.t 7], some 8, none, true⟩, ⟨.mov 4 (.t 8), some 4, none, false⟩]
def r_spec_DrawSortRows_2 : List GI := [⟨.mov 9 (.t 4), some 9, none, false⟩, ⟨.call 10 20 [.t 9, .k (.v (.int .i64 3))], some 10, none, true⟩, ⟨.bin 11 .add (.k (.v (.int .i64 1))) (.t 10), some 11, none, false⟩, ⟨.mov 5 (.t 11), some 5, none, false⟩]
def r_spec_DrawSortRows_3 : List GI := [⟨.mov 12 (.t 4), some 12, none, false⟩, ⟨.mov 13 (.t 5), some 13, none, false⟩, ⟨.call 14 21 [.t 12, .t 13, .k (.v (.int .i64 7))], some 14, none, true⟩, ⟨.alloc 6 2000006 [.v (.int .i64 0), .nul], some 6, none, false⟩, ⟨.sto 6 (.t 14) (some 2), none, none, false⟩]
def r_spec_DrawSortRows_4 : List GI := [⟨.lod 15 6 (some 2), some 15, none, false⟩, ⟨.mov 16 (.t 4), some 16, none, false⟩, ⟨.mov 17 (.t 5), some 17, none, false⟩, ⟨.call 18 22 [.t 16, .t 17], some 18, none, true⟩, ⟨.sto 2 (.t 15) (some 2), none, none, false⟩, ⟨.mov 3 (.t 18), some 3, none, false⟩]
def dc_spec_DrawSortRows : DC := .seq (.reg r_spec_DrawSortRows_0 none) (.seq (.reg r_spec_DrawSortRows_1 none) (.seq (.reg r_spec_DrawSortRows_2 none) (.seq (.reg r_spec_DrawSortRows_3 none) (.seq (.reg r_spec_DrawSortRows_4 (some [0, 0, 0, 6, 15, 31])) .ret))))
theorem c_spec_DrawSortRows : cfun Try.prog [] 6 = some (19, dc_spec_DrawSortRows, [(Res.cell 2 (some 2)), (Res.tmp 3)]) := by kernel_rfl
def r_spec_DrawTopRows_0 : List GI := [⟨.alloc 2 2000002 [.v (.int .i64 0), .nul], some 2, none, false⟩, ⟨.mov 3 (.k .nul), some 3, none, false⟩, ⟨.mov 4 (.k (.v (.int .i64 0))), some 4, none, false⟩]
def r_spec_DrawTopRows_1 : List GI := [⟨.mov 9 (.t 0), some 9, none, false⟩, ⟨.call 10 19 [.t 9], some 10, none, true⟩, ⟨.mov 5 (.t 10), some 5, none, false⟩]
def r_spec_DrawTopRows_2 : List GI := [⟨.mov 11 (.t 5), some 11, none, false⟩, ⟨.call 12 20 [.t 11, .k (.v (.int .i64 2))], some 12, none, true⟩, ⟨.bin 13 .add (.k (.v (.int .i64 1))) (.t 12), some 13, none, false⟩, ⟨.mov 6 (.t 13), some 6, none, false⟩]
def r_spec_DrawTopRows_3 : List GI := [⟨.mov 14 (.t 5), some 14, none, false⟩, ⟨.mov 15 (.t 6), some 15, none, false⟩, ⟨.call 16 21 [.t 14, .t 15, .k (.v (.int .i64 7))], some 16, none, true⟩, ⟨.alloc 7 2000007 [.v (.int .i64 0), .nul], some 7, none, false⟩, ⟨.sto 7 (.t 16) (some 2), none, none, false⟩]
def r_spec_DrawTopRows_4 : List GI := [⟨.mov 17 (.t 5), some 17, none, false⟩, ⟨.mov 18 (.t 6), some 18, none, false⟩, ⟨.call 19 22 [.t 17, .t 18], some 19, none, true⟩, ⟨.mov 8 (.t 19), some 8, none, false⟩]
def r_spec_DrawTopRows_5 : List GI := [⟨.lod 20 7 (some 2), some 20, none, false⟩, ⟨.mov 21 (.t 8), some 21, none, false⟩, ⟨.mov 22 (.t 5), some 22, none, false⟩, ⟨.bsl 23 1 none [.v (.int .i64 0), .v (.int .i64 0), .v (.int .i64 0), .v (.int .i64 0), .v (.int .i64 0), .v (.int .i64 0)] [(0, .k (.v (.int .i64 0))), (1, .k (.v (.int .i64 1))), (2, .k (.v (.int .i64 2))), (3, .k (.v (.int .i64 5))), (4, .k (.v (.int .i64 9))), (5, .k (.v (.int .i64 (-1))))], some 23, none, false⟩, ⟨.call 24 34 [.t 22, .t 23], some 24, none, true⟩, ⟨.sto 2 (.t 20) (some 2), none, none, false⟩, ⟨.mov 3 (.t 21), some 3, none, false⟩, ⟨.mov 4 (.t 24), some 4, none, false⟩]
def dc_spec_DrawTopRows : DC := .seq (.reg r_spec_DrawTopRows_0 none) (.seq (.reg r_spec_DrawTopRows_1 none) (.seq (.reg r_spec_DrawTopRows_2 none) (.seq (.reg r_spec_DrawTopRows_3 none) (.seq (.reg r_spec_DrawTopRows_4 none) (.seq (.reg r_spec_DrawTopRows_5 (some [0, 0, 0, 0, 12, 29, 63, 127])) .ret)))))
theorem c_spec_DrawTopRows : cfun Try.prog [] 16 = some (25, dc_spec_DrawTopRows, [(Res.cell 2 (some 2)), (Res.tmp 3), (Res.tmp 4)]) := by kernel_rfl
end
end Go.Proofs.Ytncecpieebepaaa
