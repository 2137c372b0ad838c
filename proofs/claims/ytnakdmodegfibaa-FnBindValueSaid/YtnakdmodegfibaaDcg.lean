/-
  Functions of the program read as code on plain data. Closed facts of the program alone.
-/
import Derived.Test.YtnakdmodegfibaaRows
import Derived.Test.YtnakdmodegfibaaVLib
import Derived.KernelRfl
namespace Go.Proofs.Ytnakdmodegfibaa
open Go.RowKit
noncomputable section
def r_spec_Bind_0 : List GI := [⟨.box 3 2000003 (.t 0) (some 5), some 3, none, false⟩, ⟨.alloc 6 2000006 [.v (.int .i64 0), .v (.int .i64 0), .v (.bool false), .v (.int .i64 0), .nul], some 6, none, false⟩, ⟨.mov 7 (.k (.v (.bool false))), some 7, none, false⟩]
def r_spec_Bind_1 : List GI := [⟨.mov 8 (.k (.v (.int .i64 0))), some 8, none, false⟩]
def r_spec_Bind_2 : List GI := [⟨.mov 11 (.t 8), some 11, none, false⟩, ⟨.mov 12 (.t 2), some 12, none, false⟩, ⟨.len 13 (.t 12), some 13, none, false⟩, ⟨.bin 14 .lss (.t 11) (.t 13), some 14, none, false⟩]
def r_spec_Bind_3 : List GI := [⟨.mov 17 (.t 2), some 17, none, false⟩, ⟨.mov 18 (.t 8), some 18, none, false⟩, ⟨.iad 19 17 (.t 18) 2, some 19, none, false⟩, ⟨.lod 20 19 (some 2), some 20, none, false⟩, ⟨.call 21 57 [.t 20], some 21, none, true⟩, ⟨.un 22 UnOp.not (.t 21), some 22, none, false⟩]
def r_spec_Bind_4 : List GI := [⟨.build 23 [.v (.int .i64 0), .v (.int .i64 0), .v (.bool false), .v (.int .i64 0), .nul] [], some 23, none, false⟩, ⟨.sto 6 (.t 23) (some 5), none, none, false⟩, ⟨.mov 7 (.k (.v (.bool false))), some 7, none, false⟩]
def r_spec_Bind_5 : List GI := [⟨.mov 15 (.t 8), some 15, none, false⟩, ⟨.bin 16 .add (.t 15) (.k (.v (.int .i64 1))), some 16, none, false⟩, ⟨.mov 8 (.t 16), some 8, none, false⟩]
def r_spec_Bind_6 : List GI := [⟨.mov 24 (.t 1), some 24, none, false⟩, ⟨.bin 25 .lss (.t 24) (.k (.v (.int .i64 1))), some 25, none, false⟩, ⟨.mov 26 (.t 25), some 26, none, false⟩, ⟨.lod 27 3 (some 5), some 27, some (26, false), false⟩, ⟨.mov 28 (.t 1), some 28, some (26, false), false⟩, ⟨.mov 29 (.t 2), some 29, some (26, false), false⟩, ⟨.len 30 (.t 29), some 30, some (26, false), false⟩, ⟨.bin 31 .add (.t 28) (.t 30), some 31, some (26, false), false⟩, ⟨.call 32 38 [.t 27, .t 31], some 32, some (26, false), true⟩, ⟨.un 33 UnOp.not (.t 32), some 33, some (26, false), false⟩, ⟨.pick 34 (.t 26) (.k (.v (.bool true))) (.t 33), some 34, none, false⟩]
def r_spec_Bind_7 : List GI := [⟨.build 35 [.v (.int .i64 0), .v (.int .i64 0), .v (.bool false), .v (.int .i64 0), .nul] [], some 35, none, false⟩, ⟨.sto 6 (.t 35) (some 5), none, none, false⟩, ⟨.mov 7 (.k (.v (.bool false))), some 7, none, false⟩]
def r_spec_Bind_8 : List GI := [⟨.mov 36 (.t 1), some 36, none, false⟩, ⟨.call 37 58 [.k (.v (.int .i64 0)), .t 36], some 37, none, true⟩, ⟨.mov 9 (.t 37), some 9, none, false⟩]
def r_spec_Bind_9 : List GI := [⟨.mov 10 (.k (.v (.int .i64 0))), some 10, none, false⟩]
def r_spec_Bind_10 : List GI := [⟨.mov 38 (.t 10), some 38, none, false⟩, ⟨.mov 39 (.t 2), some 39, none, false⟩, ⟨.len 40 (.t 39), some 40, none, false⟩, ⟨.bin 41 .lss (.t 38) (.t 40), some 41, none, false⟩]
def r_spec_Bind_11 : List GI := [⟨.mov 44 (.t 9), some 44, none, false⟩, ⟨.mov 45 (.t 2), some 45, none, false⟩, ⟨.mov 46 (.t 10), some 46, none, false⟩, ⟨.iad 47 45 (.t 46) 2, some 47, none, false⟩, ⟨.lod 48 47 (some 2), some 48, none, false⟩, ⟨.call 49 47 [.t 48], some 49, none, true⟩, ⟨.bsl 50 5 (some 5) [.agg [.v (.int .i64 0), .v (.int .i64 0), .v (.bool false), .v (.int .i64 0), .nul]] [(0, .t 49)], some 50, none, false⟩, ⟨.app 51 2000051 (.t 44) (.t 50) 5 56, some 51, none, false⟩, ⟨.mov 9 (.t 51), some 9, none, false⟩]
def r_spec_Bind_12 : List GI := [⟨.mov 42 (.t 10), some 42, none, false⟩, ⟨.bin 43 .add (.t 42) (.k (.v (.int .i64 1))), some 43, none, false⟩, ⟨.mov 10 (.t 43), some 10, none, false⟩]
def r_spec_Bind_13 : List GI := [⟨.lod 52 3 (some 5), some 52, none, false⟩, ⟨.mov 53 (.t 9), some 53, none, false⟩, ⟨.call 54 59 [.t 52, .t 53], some 54, none, true⟩, ⟨.sto 6 (.t 54) (some 5), none, none, false⟩, ⟨.mov 7 (.k (.v (.bool true))), some 7, none, false⟩]
def dc_spec_Bind : DC := .seq (.reg r_spec_Bind_0 none) (.seq (.seq (.reg r_spec_Bind_1 none) (.block 0 (.loop (.seq (.seq (.reg r_spec_Bind_2 none) (.cond (.t 14) .skip (.exit 0))) (.seq (.block 1 (.seq (.reg r_spec_Bind_3 none) (.cond (.t 22) (.seq (.reg r_spec_Bind_4 none) .ret) .skip))) (.reg r_spec_Bind_5 none)))))) (.seq (.seq (.reg r_spec_Bind_6 none) (.cond (.t 34) (.seq (.reg r_spec_Bind_7 none) .ret) .skip)) (.seq (.reg r_spec_Bind_8 none) (.seq (.seq (.reg r_spec_Bind_9 none) (.block 2 (.loop (.seq (.seq (.reg r_spec_Bind_10 none) (.cond (.t 41) .skip (.exit 2))) (.seq (.block 3 (.reg r_spec_Bind_11 none)) (.reg r_spec_Bind_12 none)))))) (.seq (.reg r_spec_Bind_13 none) .ret)))))
theorem c_spec_Bind : cfun Try.prog [] 30 = some (55, dc_spec_Bind, [(Res.cell 6 (some 5)), (Res.tmp 7)]) := by kernel_rfl
end
end Go.Proofs.Ytnakdmodegfibaa
