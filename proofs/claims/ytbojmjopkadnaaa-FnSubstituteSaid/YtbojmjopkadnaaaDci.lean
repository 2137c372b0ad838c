/-
  Functions of the program read as code on plain data. Closed facts of the program alone.
-/
import Derived.Test.YtbojmjopkadnaaaRows
import Derived.Test.YtbojmjopkadnaaaVLib
import Derived.KernelRfl
namespace Go.Proofs.Ytbojmjopkadnaaa
open Go.RowKit
noncomputable section
def r_spec_DrawSubstitute_0 : List GI := [⟨.alloc 2 2000002 [.v (.int .i64 0), .v (.int .i64 0), .v (.bool false), .v (.int .i64 0), .nul], some 2, none, false⟩, ⟨.mov 3 (.k .nul), some 3, none, false⟩, ⟨.mov 4 (.k (.v (.int .i64 0))), some 4, none, false⟩]
def r_spec_DrawSubstitute_1 : List GI := [⟨.mov 11 (.t 0), some 11, none, false⟩, ⟨.call 12 26 [.t 11], some 12, none, true⟩, ⟨.mov 5 (.t 12), some 5, none, false⟩]
def r_spec_DrawSubstitute_2 : List GI := [⟨.mov 13 (.t 5), some 13, none, false⟩, ⟨.call 14 27 [.t 13, .k (.v (.int .i64 3))], some 14, none, true⟩, ⟨.bin 15 .add (.k (.v (.int .i64 1))) (.t 14), some 15, none, false⟩, ⟨.mov 6 (.t 15), some 6, none, false⟩]
def r_spec_DrawSubstitute_3 : List GI := [⟨.mov 16 (.t 5), some 16, none, false⟩, ⟨.call 17 27 [.t 16, .k (.v (.int .i64 3))], some 17, none, true⟩, ⟨.bin 18 .add (.k (.v (.int .i64 1))) (.t 17), some 18, none, false⟩, ⟨.mov 7 (.t 18), some 7, none, false⟩]
def r_spec_DrawSubstitute_4 : List GI := [⟨.mov 19 (.t 5), some 19, none, false⟩, ⟨.mov 20 (.t 6), some 20, none, false⟩, ⟨.call 21 28 [.t 19, .t 20], some 21, none, true⟩, ⟨.alloc 8 2000008 [.v (.int .i64 0), .v (.int .i64 0), .v (.bool false), .v (.int .i64 0), .nul], some 8, none, false⟩, ⟨.sto 8 (.t 21) (some 5), none, none, false⟩]
def r_spec_DrawSubstitute_5 : List GI := [⟨.mov 22 (.k .nul), some 22, none, false⟩, ⟨.mov 9 (.t 22), some 9, none, false⟩]
def r_spec_DrawSubstitute_6 : List GI := [⟨.mov 10 (.k (.v (.int .i64 0))), some 10, none, false⟩]
def r_spec_DrawSubstitute_7 : List GI := [⟨.mov 23 (.t 10), some 23, none, false⟩, ⟨.mov 24 (.t 6), some 24, none, false⟩, ⟨.bin 25 .lss (.t 23) (.t 24), some 25, none, false⟩]
def r_spec_DrawSubstitute_8 : List GI := [⟨.mov 28 (.t 9), some 28, none, false⟩, ⟨.mov 29 (.t 5), some 29, none, false⟩, ⟨.mov 30 (.t 7), some 30, none, false⟩, ⟨.call 31 29 [.t 29, .t 30, .k (.v (.int .i64 2))], some 31, none, true⟩, ⟨.bsl 32 5 (some 5) [.agg [.v (.int .i64 0), .v (.int .i64 0), .v (.bool false), .v (.int .i64 0), .nul]] [(0, .t 31)], some 32, none, false⟩, ⟨.app 33 2000033 (.t 28) (.t 32) 5 56, some 33, none, false⟩, ⟨.mov 9 (.t 33), some 9, none, false⟩]
def r_spec_DrawSubstitute_9 : List GI := [⟨.mov 26 (.t 10), some 26, none, false⟩, ⟨.bin 27 .add (.t 26) (.k (.v (.int .i64 1))), some 27, none, false⟩, ⟨.mov 10 (.t 27), some 10, none, false⟩]
def r_spec_DrawSubstitute_10 : List GI := [⟨.mov 34 (.t 5), some 34, none, false⟩, ⟨.call 35 27 [.t 34, .k (.v (.int .i64 12))], some 35, none, true⟩, ⟨.bin 36 .eql (.t 35) (.k (.v (.int .i64 0))), some 36, none, false⟩]
def r_spec_DrawSubstitute_11 : List GI := [⟨.mov 37 (.t 9), some 37, none, false⟩, ⟨.mov 38 (.t 5), some 38, none, false⟩, ⟨.mov 39 (.t 7), some 39, none, false⟩, ⟨.call 40 28 [.t 38, .t 39], some 40, none, true⟩, ⟨.iad 41 37 (.k (.v (.int .i64 0))) 5, some 41, none, false⟩, ⟨.sto 41 (.t 40) (some 5), none, none, false⟩]
def r_spec_DrawSubstitute_12 : List GI := [⟨.lod 42 8 (some 5), some 42, none, false⟩, ⟨.mov 43 (.t 9), some 43, none, false⟩, ⟨.mov 44 (.t 7), some 44, none, false⟩, ⟨.sto 2 (.t 42) (some 5), none, none, false⟩, ⟨.mov 3 (.t 43), some 3, none, false⟩, ⟨.mov 4 (.t 44), some 4, none, false⟩]
def dc_spec_DrawSubstitute : DC := .seq (.reg r_spec_DrawSubstitute_0 none) (.seq (.reg r_spec_DrawSubstitute_1 none) (.seq (.reg r_spec_DrawSubstitute_2 none) (.seq (.reg r_spec_DrawSubstitute_3 none) (.seq (.reg r_spec_DrawSubstitute_4 none) (.seq (.reg r_spec_DrawSubstitute_5 none) (.seq (.seq (.reg r_spec_DrawSubstitute_6 none) (.block 0 (.loop (.seq (.seq (.reg r_spec_DrawSubstitute_7 none) (.cond (.t 25) .skip (.exit 0))) (.seq (.block 1 (.reg r_spec_DrawSubstitute_8 none)) (.reg r_spec_DrawSubstitute_9 none)))))) (.seq (.seq (.reg r_spec_DrawSubstitute_10 none) (.cond (.t 36) (.reg r_spec_DrawSubstitute_11 none) .skip)) (.seq (.reg r_spec_DrawSubstitute_12 none) .ret))))))))
theorem c_spec_DrawSubstitute : cfun Try.prog [] 8 = some (45, dc_spec_DrawSubstitute, [(Res.cell 2 (some 5)), (Res.tmp 3), (Res.tmp 4)]) := by kernel_rfl
end
end Go.Proofs.Ytbojmjopkadnaaa
