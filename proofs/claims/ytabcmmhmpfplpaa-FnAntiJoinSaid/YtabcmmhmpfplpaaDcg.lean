/-
  Functions of the program read as code on plain data. Closed facts of the program alone.
-/
import Derived.Test.YtabcmmhmpfplpaaRows
import Derived.Test.YtabcmmhmpfplpaaVLib
import Derived.KernelRfl
namespace Go.Proofs.Ytabcmmhmpfplpaa
open Go.RowKit
noncomputable section
def r_spec_AntiJoin_0 : List GI := [⟨.box 4 2000004 (.t 0) (some 2), some 4, none, false⟩, ⟨.box 5 2000005 (.t 1) (some 2), some 5, none, false⟩, ⟨.alloc 8 2000008 [.v (.int .i64 0), .nul], some 8, none, false⟩, ⟨.mov 9 (.k (.v (.bool false))), some 9, none, false⟩]
def r_spec_AntiJoin_1 : List GI := [⟨.lod 10 4 (some 2), some 10, none, false⟩, ⟨.lod 11 5 (some 2), some 11, none, false⟩, ⟨.mov 12 (.t 2), some 12, none, false⟩, ⟨.mov 13 (.t 3), some 13, none, false⟩, ⟨.call 14 32 [.t 10, .t 11, .t 12, .t 13], some 14, none, true⟩, ⟨.un 15 UnOp.not (.t 14), some 15, none, false⟩]
def r_spec_AntiJoin_2 : List GI := [⟨.build 16 [.v (.int .i64 0), .nul] [], some 16, none, false⟩, ⟨.sto 8 (.t 16) (some 2), none, none, false⟩, ⟨.mov 9 (.k (.v (.bool false))), some 9, none, false⟩]
def r_spec_AntiJoin_3 : List GI := [⟨.lod 17 4 (some 2), some 17, none, false⟩, ⟨.lod 18 5 (some 2), some 18, none, false⟩, ⟨.mov 19 (.t 2), some 19, none, false⟩, ⟨.mov 20 (.t 3), some 20, none, false⟩, ⟨.call 21 33 [.t 17, .t 18, .t 19, .t 20, .k (.v (.bool false))], some 21, none, true⟩, ⟨.sto 8 (.t 21) (some 2), none, none, false⟩, ⟨.mov 9 (.k (.v (.bool true))), some 9, none, false⟩]
def dc_spec_AntiJoin : DC := .seq (.reg r_spec_AntiJoin_0 none) (.seq (.seq (.reg r_spec_AntiJoin_1 none) (.cond (.t 15) (.seq (.reg r_spec_AntiJoin_2 none) .ret) .skip)) (.seq (.reg r_spec_AntiJoin_3 none) .ret))
theorem c_spec_AntiJoin : cfun Try.prog [] 15 = some (22, dc_spec_AntiJoin, [(Res.cell 8 (some 2)), (Res.tmp 9)]) := by kernel_rfl
def r_spec_SemiJoin_0 : List GI := [⟨.box 4 2000004 (.t 0) (some 2), some 4, none, false⟩, ⟨.box 5 2000005 (.t 1) (some 2), some 5, none, false⟩, ⟨.alloc 8 2000008 [.v (.int .i64 0), .nul], some 8, none, false⟩, ⟨.mov 9 (.k (.v (.bool false))), some 9, none, false⟩]
def r_spec_SemiJoin_1 : List GI := [⟨.lod 10 4 (some 2), some 10, none, false⟩, ⟨.lod 11 5 (some 2), some 11, none, false⟩, ⟨.mov 12 (.t 2), some 12, none, false⟩, ⟨.mov 13 (.t 3), some 13, none, false⟩, ⟨.call 14 32 [.t 10, .t 11, .t 12, .t 13], some 14, none, true⟩, ⟨.un 15 UnOp.not (.t 14), some 15, none, false⟩]
def r_spec_SemiJoin_2 : List GI := [⟨.build 16 [.v (.int .i64 0), .nul] [], some 16, none, false⟩, ⟨.sto 8 (.t 16) (some 2), none, none, false⟩, ⟨.mov 9 (.k (.v (.bool false))), some 9, none, false⟩]
def r_spec_SemiJoin_3 : List GI := [⟨.lod 17 4 (some 2), some 17, none, false⟩, ⟨.lod 18 5 (some 2), some 18, none, false⟩, ⟨.mov 19 (.t 2), some 19, none, false⟩, ⟨.mov 20 (.t 3), some 20, none, false⟩, ⟨.call 21 33 [.t 17, .t 18, .t 19, .t 20, .k (.v (.bool true))], some 21, none, true⟩, ⟨.sto 8 (.t 21) (some 2), none, none, false⟩, ⟨.mov 9 (.k (.v (.bool true))), some 9, none, false⟩]
def dc_spec_SemiJoin : DC := .seq (.reg r_spec_SemiJoin_0 none) (.seq (.seq (.reg r_spec_SemiJoin_1 none) (.cond (.t 15) (.seq (.reg r_spec_SemiJoin_2 none) .ret) .skip)) (.seq (.reg r_spec_SemiJoin_3 none) .ret))
theorem c_spec_SemiJoin : cfun Try.prog [] 10 = some (22, dc_spec_SemiJoin, [(Res.cell 8 (some 2)), (Res.tmp 9)]) := by kernel_rfl
def r_spec_joined_0 : List GI := [⟨.alloc 2 2000002 [.v (.int .i64 0), .nul], some 2, none, false⟩, ⟨.alloc 3 2000003 [.v (.int .i64 0), .nul], some 3, none, false⟩, ⟨.mov 4 (.k (.v (.int .i64 0))), some 4, none, false⟩, ⟨.mov 5 (.k (.v (.int .i64 0))), some 5, none, false⟩]
def r_spec_joined_1 : List GI := [⟨.mov 12 (.t 0), some 12, none, false⟩, ⟨.call 13 41 [.t 12, .k (.v (.int .i64 3))], some 13, none, true⟩, ⟨.bin 14 .add (.k (.v (.int .i64 1))) (.t 13), some 14, none, false⟩, ⟨.mov 6 (.t 14), some 6, none, false⟩]
def r_spec_joined_2 : List GI := [⟨.mov 15 (.t 0), some 15, none, false⟩, ⟨.call 16 41 [.t 15, .k (.v (.int .i64 3))], some 16, none, true⟩, ⟨.bin 17 .add (.k (.v (.int .i64 1))) (.t 16), some 17, none, false⟩, ⟨.mov 7 (.t 17), some 7, none, false⟩]
def r_spec_joined_3 : List GI := [⟨.mov 18 (.t 0), some 18, none, false⟩, ⟨.mov 19 (.t 6), some 19, none, false⟩, ⟨.call 20 50 [.t 18, .t 19, .k (.v (.int .i64 6))], some 20, none, true⟩, ⟨.alloc 8 2000008 [.v (.int .i64 0), .nul], some 8, none, false⟩, ⟨.sto 8 (.t 20) (some 2), none, none, false⟩]
def r_spec_joined_4 : List GI := [⟨.mov 21 (.t 0), some 21, none, false⟩, ⟨.mov 22 (.t 7), some 22, none, false⟩, ⟨.call 23 50 [.t 21, .t 22, .k (.v (.int .i64 6))], some 23, none, true⟩, ⟨.alloc 9 2000009 [.v (.int .i64 0), .nul], some 9, none, false⟩, ⟨.sto 9 (.t 23) (some 2), none, none, false⟩]
def r_spec_joined_5 : List GI := [⟨.mov 24 (.t 0), some 24, none, false⟩, ⟨.mov 25 (.t 6), some 25, none, false⟩, ⟨.call 26 41 [.t 24, .t 25], some 26, none, true⟩, ⟨.mov 10 (.t 26), some 10, none, false⟩]
def r_spec_joined_6 : List GI := [⟨.mov 27 (.t 0), some 27, none, false⟩, ⟨.mov 28 (.t 7), some 28, none, false⟩, ⟨.call 29 41 [.t 27, .t 28], some 29, none, true⟩, ⟨.mov 11 (.t 29), some 11, none, false⟩]
def r_spec_joined_7 : List GI := [⟨.mov 30 (.t 0), some 30, none, false⟩, ⟨.call 31 41 [.t 30, .k (.v (.int .i64 16))], some 31, none, true⟩, ⟨.bin 32 .eql (.t 31) (.k (.v (.int .i64 0))), some 32, none, false⟩]
def r_spec_joined_8 : List GI := [⟨.mov 33 (.t 0), some 33, none, false⟩, ⟨.mov 34 (.t 6), some 34, none, false⟩, ⟨.bsl 35 1 none [.v (.int .i64 0), .v (.int .i64 0)] [(0, .k (.v (.int .i64 (-1)))), (1, .t 34)], some 35, none, false⟩, ⟨.call 36 51 [.t 33, .t 35], some 36, none, true⟩, ⟨.mov 10 (.t 36), some 10, none, false⟩]
def r_spec_joined_9 : List GI := [⟨.lod 37 8 (some 2), some 37, none, false⟩, ⟨.lod 38 9 (some 2), some 38, none, false⟩, ⟨.mov 39 (.t 10), some 39, none, false⟩, ⟨.mov 40 (.t 11), some 40, none, false⟩, ⟨.sto 2 (.t 37) (some 2), none, none, false⟩, ⟨.sto 3 (.t 38) (some 2), none, none, false⟩, ⟨.mov 4 (.t 39), some 4, none, false⟩, ⟨.mov 5 (.t 40), some 5, none, false⟩]
def dc_spec_joined : DC := .seq (.reg r_spec_joined_0 none) (.seq (.reg r_spec_joined_1 none) (.seq (.reg r_spec_joined_2 none) (.seq (.reg r_spec_joined_3 none) (.seq (.reg r_spec_joined_4 none) (.seq (.reg r_spec_joined_5 none) (.seq (.reg r_spec_joined_6 none) (.seq (.seq (.reg r_spec_joined_7 none) (.cond (.t 32) (.reg r_spec_joined_8 none) .skip)) (.seq (.reg r_spec_joined_9 (some [0, 0, 0, 0, 1, 19, 55, 127])) .ret))))))))
theorem c_spec_joined : cfun Try.prog [] 27 = some (41, dc_spec_joined, [(Res.cell 2 (some 2)), (Res.cell 3 (some 2)), (Res.tmp 4), (Res.tmp 5)]) := by kernel_rfl
end
end Go.Proofs.Ytabcmmhmpfplpaa
