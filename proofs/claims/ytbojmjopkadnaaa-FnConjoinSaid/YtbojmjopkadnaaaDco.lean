/-
  Functions of the program read as code on plain data. Closed facts of the program alone.
-/
import Derived.Test.YtbojmjopkadnaaaRows
import Derived.Test.YtbojmjopkadnaaaVLib
import Derived.KernelRfl
namespace Go.Proofs.Ytbojmjopkadnaaa
open Go.RowKit
noncomputable section
def r_spec_Conjoin_0 : List GI := [⟨.alloc 2 2000002 [.v (.int .i64 0), .v (.int .i64 0), .v (.bool false), .v (.int .i64 0), .nul], some 2, none, false⟩]
def r_spec_Conjoin_1 : List GI := [⟨.mov 3 (.k (.v (.int .i64 0))), some 3, none, false⟩]
def r_spec_Conjoin_2 : List GI := [⟨.mov 5 (.t 3), some 5, none, false⟩, ⟨.mov 6 (.t 0), some 6, none, false⟩, ⟨.len 7 (.t 6), some 7, none, false⟩, ⟨.bin 8 .lss (.t 5) (.t 7), some 8, none, false⟩]
def r_spec_Conjoin_3 : List GI := [⟨.mov 11 (.t 0), some 11, none, false⟩, ⟨.mov 12 (.t 3), some 12, none, false⟩, ⟨.iad 13 11 (.t 12) 5, some 13, none, false⟩, ⟨.lod 14 13 (some 5), some 14, none, false⟩, ⟨.call 15 31 [.t 14, .k (.v (.int .i64 6))], some 15, none, true⟩, ⟨.un 16 UnOp.not (.t 15), some 16, none, false⟩]
def r_spec_Conjoin_4 : List GI := [⟨.build 17 [.v (.int .i64 0), .v (.int .i64 0), .v (.bool false), .v (.int .i64 0), .nul] [], some 17, none, false⟩, ⟨.sto 2 (.t 17) (some 5), none, none, false⟩]
def r_spec_Conjoin_5 : List GI := [⟨.mov 9 (.t 3), some 9, none, false⟩, ⟨.bin 10 .add (.t 9) (.k (.v (.int .i64 1))), some 10, none, false⟩, ⟨.mov 3 (.t 10), some 3, none, false⟩]
def r_spec_Conjoin_6 : List GI := [⟨.mov 18 (.t 0), some 18, none, false⟩, ⟨.len 19 (.t 18), some 19, none, false⟩, ⟨.bin 20 .gtr (.t 19) (.k (.v (.int .i64 9))), some 20, none, false⟩]
def r_spec_Conjoin_7 : List GI := [⟨.build 21 [.v (.int .i64 0), .v (.int .i64 0), .v (.bool false), .v (.int .i64 0), .nul] [], some 21, none, false⟩, ⟨.sto 2 (.t 21) (some 5), none, none, false⟩]
def r_spec_Conjoin_8 : List GI := [⟨.mov 22 (.t 0), some 22, none, false⟩, ⟨.call 23 43 [.t 22], some 23, none, true⟩, ⟨.alloc 4 2000004 [.v (.int .i64 0), .v (.int .i64 0), .v (.bool false), .v (.int .i64 0), .nul], some 4, none, false⟩, ⟨.sto 4 (.t 23) (some 5), none, none, false⟩]
def r_spec_Conjoin_9 : List GI := [⟨.lod 24 4 (some 5), some 24, none, false⟩, ⟨.call 25 31 [.t 24, .k (.v (.int .i64 6))], some 25, none, true⟩, ⟨.un 26 UnOp.not (.t 25), some 26, none, false⟩]
def r_spec_Conjoin_10 : List GI := [⟨.build 27 [.v (.int .i64 0), .v (.int .i64 0), .v (.bool false), .v (.int .i64 0), .nul] [], some 27, none, false⟩, ⟨.sto 2 (.t 27) (some 5), none, none, false⟩]
def r_spec_Conjoin_11 : List GI := [⟨.lod 28 4 (some 5), some 28, none, false⟩, ⟨.sto 2 (.t 28) (some 5), none, none, false⟩]
def dc_spec_Conjoin : DC := .seq (.reg r_spec_Conjoin_0 none) (.seq (.seq (.reg r_spec_Conjoin_1 none) (.block 0 (.loop (.seq (.seq (.reg r_spec_Conjoin_2 none) (.cond (.t 8) .skip (.exit 0))) (.seq (.block 1 (.seq (.reg r_spec_Conjoin_3 none) (.cond (.t 16) (.seq (.reg r_spec_Conjoin_4 none) .ret) .skip))) (.reg r_spec_Conjoin_5 none)))))) (.seq (.seq (.reg r_spec_Conjoin_6 none) (.cond (.t 20) (.seq (.reg r_spec_Conjoin_7 none) .ret) .skip)) (.seq (.reg r_spec_Conjoin_8 none) (.seq (.seq (.reg r_spec_Conjoin_9 none) (.cond (.t 26) (.seq (.reg r_spec_Conjoin_10 none) .ret) .skip)) (.seq (.reg r_spec_Conjoin_11 none) .ret)))))
theorem c_spec_Conjoin : cfun Try.prog [] 21 = some (29, dc_spec_Conjoin, [(Res.cell 2 (some 5))]) := by kernel_rfl
def r_spec_conjoin_0 : List GI := [⟨.alloc 2 2000002 [.v (.int .i64 0), .v (.int .i64 0), .v (.bool false), .v (.int .i64 0), .nul], some 2, none, false⟩]
def r_spec_conjoin_1 : List GI := [⟨.mov 5 (.t 0), some 5, none, false⟩, ⟨.len 6 (.t 5), some 6, none, false⟩, ⟨.bin 7 .eql (.t 6) (.k (.v (.int .i64 0))), some 7, none, false⟩]
def r_spec_conjoin_2 : List GI := [⟨.build 8 [.v (.bool false), .v (.int .i64 0)] [(1, (none, .k (.v (.int .i64 1))))], some 8, none, false⟩, ⟨.call 9 56 [.t 8], some 9, none, true⟩, ⟨.sto 2 (.t 9) (some 5), none, none, false⟩]
def r_spec_conjoin_3 : List GI := [⟨.mov 10 (.t 0), some 10, none, false⟩, ⟨.iad 11 10 (.k (.v (.int .i64 0))) 5, some 11, none, false⟩, ⟨.lod 12 11 (some 5), some 12, none, false⟩, ⟨.call 13 60 [.t 12], some 13, none, true⟩, ⟨.alloc 3 2000003 [.v (.int .i64 0), .v (.int .i64 0), .v (.bool false), .v (.int .i64 0), .nul], some 3, none, false⟩, ⟨.sto 3 (.t 13) (some 5), none, none, false⟩]
def r_spec_conjoin_4 : List GI := [⟨.mov 4 (.k (.v (.int .i64 1))), some 4, none, false⟩]
def r_spec_conjoin_5 : List GI := [⟨.mov 14 (.t 4), some 14, none, false⟩, ⟨.mov 15 (.t 0), some 15, none, false⟩, ⟨.len 16 (.t 15), some 16, none, false⟩, ⟨.bin 17 .lss (.t 14) (.t 16), some 17, none, false⟩]
def r_spec_conjoin_6 : List GI := [⟨.lod 20 3 (some 5), some 20, none, false⟩, ⟨.mov 21 (.t 0), some 21, none, false⟩, ⟨.mov 22 (.t 4), some 22, none, false⟩, ⟨.iad 23 21 (.t 22) 5, some 23, none, false⟩, ⟨.lod 24 23 (some 5), some 24, none, false⟩, ⟨.call 25 60 [.t 24], some 25, none, true⟩, ⟨.bsl 26 5 (some 5) [.agg [.v (.int .i64 0), .v (.int .i64 0), .v (.bool false), .v (.int .i64 0), .nul], .agg [.v (.int .i64 0), .v (.int .i64 0), .v (.bool false), .v (.int .i64 0), .nul]] [(0, .t 20), (1, .t 25)], some 26, none, false⟩, ⟨.build 27 [.v (.int .i64 0), .v (.int .i64 0), .v (.bool false), .v (.int .i64 0), .nul] [(0, (none, .k (.v (.int .i64 8)))), (4, (none, .t 26))], some 27, none, false⟩, ⟨.sto 3 (.t 27) (some 5), none, none, false⟩]
def r_spec_conjoin_7 : List GI := [⟨.mov 18 (.t 4), some 18, none, false⟩, ⟨.bin 19 .add (.t 18) (.k (.v (.int .i64 1))), some 19, none, false⟩, ⟨.mov 4 (.t 19), some 4, none, false⟩]
def r_spec_conjoin_8 : List GI := [⟨.lod 28 3 (some 5), some 28, none, false⟩, ⟨.sto 2 (.t 28) (some 5), none, none, false⟩]
def dc_spec_conjoin : DC := .seq (.reg r_spec_conjoin_0 none) (.seq (.seq (.reg r_spec_conjoin_1 none) (.cond (.t 7) (.seq (.reg r_spec_conjoin_2 none) .ret) .skip)) (.seq (.reg r_spec_conjoin_3 none) (.seq (.seq (.reg r_spec_conjoin_4 none) (.block 0 (.loop (.seq (.seq (.reg r_spec_conjoin_5 none) (.cond (.t 17) .skip (.exit 0))) (.seq (.block 1 (.reg r_spec_conjoin_6 (some [0, 0, 0, 6, 14, 30, 63, 127, 255]))) (.reg r_spec_conjoin_7 none)))))) (.seq (.reg r_spec_conjoin_8 none) .ret))))
theorem c_spec_conjoin : cfun Try.prog [] 43 = some (29, dc_spec_conjoin, [(Res.cell 2 (some 5))]) := by kernel_rfl
end
end Go.Proofs.Ytbojmjopkadnaaa
