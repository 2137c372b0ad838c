/-
  Functions of the program read as code on plain data. Closed facts of the program alone.
-/
import Derived.Test.YtnakdmodegfibaaRows
import Derived.Test.YtnakdmodegfibaaVLib
import Derived.KernelRfl
namespace Go.Proofs.Ytnakdmodegfibaa
open Go.RowKit
noncomputable section
def r_spec_someValues_0 : List GI := [⟨.mov 2 (.k .nul), some 2, none, false⟩]
def r_spec_someValues_1 : List GI := [⟨.mov 5 (.k .nul), some 5, none, false⟩, ⟨.mov 3 (.t 5), some 3, none, false⟩]
def r_spec_someValues_2 : List GI := [⟨.mov 6 (.t 0), some 6, none, false⟩, ⟨.call 7 32 [.t 6, .k (.v (.int .i64 7))], some 7, none, true⟩, ⟨.mov 4 (.t 7), some 4, none, false⟩]
def r_spec_someValues_3 : List GI := [⟨.mov 8 (.t 4), some 8, none, false⟩, ⟨.bin 9 .gtr (.t 8) (.k (.v (.int .i64 0))), some 9, none, false⟩]
def r_spec_someValues_4 : List GI := [⟨.mov 12 (.t 3), some 12, none, false⟩, ⟨.mov 13 (.t 0), some 13, none, false⟩, ⟨.call 14 48 [.t 13], some 14, none, true⟩, ⟨.bsl 15 2 (some 2) [.agg [.v (.bool false), .v (.int .i64 0)]] [(0, .t 14)], some 15, none, false⟩, ⟨.app 16 2000016 (.t 12) (.t 15) 2 16, some 16, none, false⟩, ⟨.mov 3 (.t 16), some 3, none, false⟩]
def r_spec_someValues_5 : List GI := [⟨.mov 10 (.t 4), some 10, none, false⟩, ⟨.bin 11 .sub (.t 10) (.k (.v (.int .i64 1))), some 11, none, false⟩, ⟨.mov 4 (.t 11), some 4, none, false⟩]
def r_spec_someValues_6 : List GI := [⟨.mov 17 (.t 3), some 17, none, false⟩, ⟨.len 18 (.t 17), some 18, none, false⟩, ⟨.bin 19 .gtr (.t 18) (.k (.v (.int .i64 0))), some 19, none, false⟩, ⟨.mov 20 (.t 19), some 20, none, false⟩, ⟨.mov 21 (.t 0), some 21, some (20, true), false⟩, ⟨.call 22 32 [.t 21, .k (.v (.int .i64 8))], some 22, some (20, true), true⟩, ⟨.bin 23 .eql (.t 22) (.k (.v (.int .i64 0))), some 23, some (20, true), false⟩, ⟨.pick 24 (.t 20) (.t 23) (.k (.v (.bool false))), some 24, none, false⟩]
def r_spec_someValues_7 : List GI := [⟨.mov 25 (.t 3), some 25, none, false⟩, ⟨.mov 26 (.t 0), some 26, none, false⟩, ⟨.call 27 61 [.t 26], some 27, none, true⟩, ⟨.iad 28 25 (.k (.v (.int .i64 0))) 2, some 28, none, false⟩, ⟨.sto 28 (.t 27) (some 2), none, none, false⟩]
def r_spec_someValues_8 : List GI := [⟨.mov 29 (.t 3), some 29, none, false⟩, ⟨.mov 2 (.t 29), some 2, none, false⟩]
def dc_spec_someValues : DC := .seq (.reg r_spec_someValues_0 none) (.seq (.reg r_spec_someValues_1 none) (.seq (.seq (.reg r_spec_someValues_2 none) (.block 0 (.loop (.seq (.seq (.reg r_spec_someValues_3 none) (.cond (.t 9) .skip (.exit 0))) (.seq (.block 1 (.reg r_spec_someValues_4 none)) (.reg r_spec_someValues_5 none)))))) (.seq (.seq (.reg r_spec_someValues_6 none) (.cond (.t 24) (.reg r_spec_someValues_7 none) .skip)) (.seq (.reg r_spec_someValues_8 none) .ret))))
theorem c_spec_someValues : cfun Try.prog [] 56 = some (30, dc_spec_someValues, [(Res.tmp 2)]) := by kernel_rfl
end
end Go.Proofs.Ytnakdmodegfibaa
