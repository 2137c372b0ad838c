/-
  Functions of the program read as code on plain data. Closed facts of the program alone.
-/
import Derived.Test.YtkfmglbnicbooaaRows
import Derived.Test.YtkfmglbnicbooaaVLib
import Derived.KernelRfl
namespace Go.Proofs.Ytkfmglbnicbooaa
open Go.RowKit
noncomputable section
def r_spec_SortRows_0 : List GI := [⟨.box 2 2000002 (.t 0) (some 2), some 2, none, false⟩, ⟨.mov 4 (.k .nul), some 4, none, false⟩]
def r_spec_SortRows_1 : List GI := [⟨.lod 5 2 (some 2), some 5, none, false⟩, ⟨.call 6 35 [.t 5], some 6, none, true⟩, ⟨.un 7 UnOp.not (.t 6), some 7, none, false⟩, ⟨.mov 8 (.t 7), some 8, none, false⟩, ⟨.mov 9 (.t 1), some 9, some (8, false), false⟩, ⟨.fad 10 2 0, some 10, some (8, false), false⟩, ⟨.lod 11 10 none, some 11, some (8, false), false⟩, ⟨.call 12 25 [.t 9, .t 11], some 12, some (8, false), true⟩, ⟨.un 13 UnOp.not (.t 12), some 13, some (8, false), false⟩, ⟨.pick 14 (.t 8) (.k (.v (.bool true))) (.t 13), some 14, none, false⟩]
def r_spec_SortRows_2 : List GI := [⟨.mov 4 (.k .nul), some 4, none, false⟩]
def r_spec_SortRows_3 : List GI := [⟨.fad 15 2 1, some 15, none, false⟩, ⟨.lod 16 15 none, some 16, none, false⟩, ⟨.mov 17 (.t 1), some 17, none, false⟩, ⟨.call 18 36 [.t 16, .t 17], some 18, none, true⟩, ⟨.mov 4 (.t 18), some 4, none, false⟩]
def dc_spec_SortRows : DC := .seq (.reg r_spec_SortRows_0 none) (.seq (.seq (.reg r_spec_SortRows_1 none) (.cond (.t 14) (.seq (.reg r_spec_SortRows_2 none) .ret) .skip)) (.seq (.reg r_spec_SortRows_3 none) .ret))
theorem c_spec_SortRows : cfun Try.prog [] 18 = some (19, dc_spec_SortRows, [(Res.tmp 4)]) := by kernel_rfl
def r_spec_someKeys_0 : List GI := [⟨.mov 4 (.k .nul), some 4, none, false⟩]
def r_spec_someKeys_1 : List GI := [⟨.mov 7 (.k .nul), some 7, none, false⟩, ⟨.mov 5 (.t 7), some 5, none, false⟩]
def r_spec_someKeys_2 : List GI := [⟨.mov 6 (.k (.v (.int .i64 0))), some 6, none, false⟩]
def r_spec_someKeys_3 : List GI := [⟨.mov 8 (.t 6), some 8, none, false⟩, ⟨.mov 9 (.t 1), some 9, none, false⟩, ⟨.bin 10 .lss (.t 8) (.t 9), some 10, none, false⟩]
def r_spec_someKeys_4 : List GI := [⟨.mov 13 (.t 0), some 13, none, false⟩, ⟨.call 14 15 [.t 13, .k (.v (.int .i64 2))], some 14, none, true⟩, ⟨.bin 15 .eql (.t 14) (.k (.v (.int .i64 0))), some 15, none, false⟩]
def r_spec_someKeys_5 : List GI := [⟨.mov 16 (.t 5), some 16, none, false⟩, ⟨.mov 17 (.t 6), some 17, none, false⟩, ⟨.mov 18 (.t 0), some 18, none, false⟩, ⟨.mov 19 (.t 1), some 19, none, false⟩, ⟨.call 20 15 [.t 18, .t 19], some 20, none, true⟩, ⟨.bin 21 .add (.t 17) (.t 20), some 21, none, false⟩, ⟨.mov 22 (.t 1), some 22, none, false⟩, ⟨.bin 23 .rem (.t 21) (.t 22), some 23, none, false⟩, ⟨.mov 24 (.t 0), some 24, none, false⟩, ⟨.call 25 15 [.t 24, .k (.v (.int .i64 2))], some 25, none, true⟩, ⟨.bin 26 .eql (.t 25) (.k (.v (.int .i64 0))), some 26, none, false⟩, ⟨.build 27 [.v (.int .i64 0), .v (.bool false)] [(0, (none, .t 23)), (1, (none, .t 26))], some 27, none, false⟩, ⟨.bsl 28 2 (some 2) [.agg [.v (.int .i64 0), .v (.bool false)]] [(0, .t 27)], some 28, none, false⟩, ⟨.app 29 2000029 (.t 16) (.t 28) 2 16, some 29, none, false⟩, ⟨.mov 5 (.t 29), some 5, none, false⟩]
def r_spec_someKeys_6 : List GI := [⟨.mov 11 (.t 6), some 11, none, false⟩, ⟨.bin 12 .add (.t 11) (.k (.v (.int .i64 1))), some 12, none, false⟩, ⟨.mov 6 (.t 12), some 6, none, false⟩]
def r_spec_someKeys_7 : List GI := [⟨.mov 30 (.t 0), some 30, none, false⟩, ⟨.call 31 15 [.t 30, .k (.v (.int .i64 16))], some 31, none, true⟩, ⟨.bin 32 .eql (.t 31) (.k (.v (.int .i64 0))), some 32, none, false⟩]
def r_spec_someKeys_8 : List GI := [⟨.mov 33 (.t 5), some 33, none, false⟩, ⟨.mov 34 (.t 0), some 34, none, false⟩, ⟨.mov 35 (.t 1), some 35, none, false⟩, ⟨.bsl 36 1 none [.v (.int .i64 0), .v (.int .i64 0)] [(0, .k (.v (.int .i64 (-1)))), (1, .t 35)], some 36, none, false⟩, ⟨.call 37 34 [.t 34, .t 36], some 37, none, true⟩, ⟨.build 38 [.v (.int .i64 0), .v (.bool false)] [(0, (none, .t 37))], some 38, none, false⟩, ⟨.bsl 39 2 (some 2) [.agg [.v (.int .i64 0), .v (.bool false)]] [(0, .t 38)], some 39, none, false⟩, ⟨.app 40 2000040 (.t 33) (.t 39) 2 16, some 40, none, false⟩, ⟨.mov 5 (.t 40), some 5, none, false⟩]
def r_spec_someKeys_9 : List GI := [⟨.mov 41 (.t 5), some 41, none, false⟩, ⟨.mov 4 (.t 41), some 4, none, false⟩]
def dc_spec_someKeys : DC := .seq (.reg r_spec_someKeys_0 none) (.seq (.reg r_spec_someKeys_1 none) (.seq (.seq (.reg r_spec_someKeys_2 none) (.block 0 (.loop (.seq (.seq (.reg r_spec_someKeys_3 none) (.cond (.t 10) .skip (.exit 0))) (.seq (.block 1 (.seq (.reg r_spec_someKeys_4 none) (.cond (.t 15) (.reg r_spec_someKeys_5 (some [0, 0, 0, 0, 12, 30, 0, 126, 0, 284, 796, 2046, 4094, 8191, 16383])) .skip))) (.reg r_spec_someKeys_6 none)))))) (.seq (.seq (.reg r_spec_someKeys_7 none) (.cond (.t 32) (.reg r_spec_someKeys_8 none) .skip)) (.seq (.reg r_spec_someKeys_9 none) .ret))))
theorem c_spec_someKeys : cfun Try.prog [] 17 = some (42, dc_spec_someKeys, [(Res.tmp 4)]) := by kernel_rfl
end
end Go.Proofs.Ytkfmglbnicbooaa
