/-
  Functions of the program read as code on plain data. Closed facts of the program alone.
-/
import Derived.Test.YtbojmjopkadnaaaRows
import Derived.Test.YtbojmjopkadnaaaVLib
import Derived.KernelRfl
namespace Go.Proofs.Ytbojmjopkadnaaa
open Go.RowKit
noncomputable section
def r_spec_DrawConjoin_0 : List GI := [⟨.mov 2 (.k .nul), some 2, none, false⟩]
def r_spec_DrawConjoin_1 : List GI := [⟨.mov 6 (.t 0), some 6, none, false⟩, ⟨.call 7 26 [.t 6], some 7, none, true⟩, ⟨.mov 3 (.t 7), some 3, none, false⟩]
def r_spec_DrawConjoin_2 : List GI := [⟨.mov 8 (.k .nul), some 8, none, false⟩, ⟨.mov 4 (.t 8), some 4, none, false⟩]
def r_spec_DrawConjoin_3 : List GI := [⟨.mov 9 (.t 3), some 9, none, false⟩, ⟨.bsl 10 1 none [.v (.int .i64 0), .v (.int .i64 0), .v (.int .i64 0), .v (.int .i64 0), .v (.int .i64 0), .v (.int .i64 0)] [(0, .k (.v (.int .i64 0))), (1, .k (.v (.int .i64 1))), (2, .k (.v (.int .i64 2))), (3, .k (.v (.int .i64 3))), (4, .k (.v (.int .i64 4))), (5, .k (.v (.int .i64 10)))], some 10, none, false⟩, ⟨.call 11 40 [.t 9, .t 10], some 11, none, true⟩, ⟨.mov 5 (.t 11), some 5, none, false⟩]
def r_spec_DrawConjoin_4 : List GI := [⟨.mov 12 (.t 5), some 12, none, false⟩, ⟨.bin 13 .gtr (.t 12) (.k (.v (.int .i64 0))), some 13, none, false⟩]
def r_spec_DrawConjoin_5 : List GI := [⟨.mov 16 (.t 4), some 16, none, false⟩, ⟨.mov 17 (.t 3), some 17, none, false⟩, ⟨.call 18 37 [.t 17, .k (.v (.int .i64 3))], some 18, none, true⟩, ⟨.bsl 19 5 (some 5) [.agg [.v (.int .i64 0), .v (.int .i64 0), .v (.bool false), .v (.int .i64 0), .nul]] [(0, .t 18)], some 19, none, false⟩, ⟨.app 20 2000020 (.t 16) (.t 19) 5 56, some 20, none, false⟩, ⟨.mov 4 (.t 20), some 4, none, false⟩]
def r_spec_DrawConjoin_6 : List GI := [⟨.mov 14 (.t 5), some 14, none, false⟩, ⟨.bin 15 .sub (.t 14) (.k (.v (.int .i64 1))), some 15, none, false⟩, ⟨.mov 5 (.t 15), some 5, none, false⟩]
def r_spec_DrawConjoin_7 : List GI := [⟨.mov 21 (.t 4), some 21, none, false⟩, ⟨.len 22 (.t 21), some 22, none, false⟩, ⟨.bin 23 .gtr (.t 22) (.k (.v (.int .i64 0))), some 23, none, false⟩, ⟨.mov 24 (.t 23), some 24, none, false⟩, ⟨.mov 25 (.t 3), some 25, some (24, true), false⟩, ⟨.call 26 27 [.t 25, .k (.v (.int .i64 12))], some 26, some (24, true), true⟩, ⟨.bin 27 .eql (.t 26) (.k (.v (.int .i64 0))), some 27, some (24, true), false⟩, ⟨.pick 28 (.t 24) (.t 27) (.k (.v (.bool false))), some 28, none, false⟩]
def r_spec_DrawConjoin_8 : List GI := [⟨.mov 29 (.t 4), some 29, none, false⟩, ⟨.mov 30 (.t 3), some 30, none, false⟩, ⟨.call 31 28 [.t 30, .k (.v (.int .i64 3))], some 31, none, true⟩, ⟨.iad 32 29 (.k (.v (.int .i64 0))) 5, some 32, none, false⟩, ⟨.sto 32 (.t 31) (some 5), none, none, false⟩]
def r_spec_DrawConjoin_9 : List GI := [⟨.mov 33 (.t 4), some 33, none, false⟩, ⟨.mov 2 (.t 33), some 2, none, false⟩]
def dc_spec_DrawConjoin : DC := .seq (.reg r_spec_DrawConjoin_0 none) (.seq (.reg r_spec_DrawConjoin_1 none) (.seq (.reg r_spec_DrawConjoin_2 none) (.seq (.seq (.reg r_spec_DrawConjoin_3 none) (.block 0 (.loop (.seq (.seq (.reg r_spec_DrawConjoin_4 none) (.cond (.t 13) .skip (.exit 0))) (.seq (.block 1 (.reg r_spec_DrawConjoin_5 none)) (.reg r_spec_DrawConjoin_6 none)))))) (.seq (.seq (.reg r_spec_DrawConjoin_7 none) (.cond (.t 28) (.reg r_spec_DrawConjoin_8 none) .skip)) (.seq (.reg r_spec_DrawConjoin_9 none) .ret)))))
theorem c_spec_DrawConjoin : cfun Try.prog [] 19 = some (34, dc_spec_DrawConjoin, [(Res.tmp 2)]) := by kernel_rfl
end
end Go.Proofs.Ytbojmjopkadnaaa
