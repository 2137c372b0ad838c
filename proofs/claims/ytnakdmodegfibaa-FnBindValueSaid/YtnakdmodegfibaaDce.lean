/-
  Functions of the program read as code on plain data. Closed facts of the program alone.
-/
import Derived.Test.YtnakdmodegfibaaRows
import Derived.Test.YtnakdmodegfibaaVLib
import Derived.KernelRfl
namespace Go.Proofs.Ytnakdmodegfibaa
open Go.RowKit
noncomputable section
def r_spec_substitute_0 : List GI := [⟨.box 2 2000002 (.t 0) (some 5), some 2, none, false⟩, ⟨.alloc 4 2000004 [.v (.int .i64 0), .v (.int .i64 0), .v (.bool false), .v (.int .i64 0), .nul], some 4, none, false⟩]
def r_spec_substitute_1 : List GI := [⟨.fad 7 2 0, some 7, none, false⟩, ⟨.lod 8 7 none, some 8, none, false⟩, ⟨.bin 9 .eql (.t 8) (.k (.v (.int .i64 1))), some 9, none, false⟩]
def r_spec_substitute_2 : List GI := [⟨.mov 10 (.t 1), some 10, none, false⟩, ⟨.fad 11 2 1, some 11, none, false⟩, ⟨.lod 12 11 none, some 12, none, false⟩, ⟨.iad 13 10 (.t 12) 5, some 13, none, false⟩, ⟨.lod 14 13 (some 5), some 14, none, false⟩, ⟨.call 15 75 [.t 14], some 15, none, true⟩, ⟨.sto 4 (.t 15) (some 5), none, none, false⟩]
def r_spec_substitute_3 : List GI := [⟨.fad 16 2 0, some 16, none, false⟩, ⟨.lod 17 16 none, some 17, none, false⟩, ⟨.fad 18 2 1, some 18, none, false⟩, ⟨.lod 19 18 none, some 19, none, false⟩, ⟨.fad 20 2 2, some 20, none, false⟩, ⟨.lod 21 20 (some 2), some 21, none, false⟩, ⟨.build 22 [.v (.int .i64 0), .v (.int .i64 0), .v (.bool false), .v (.int .i64 0), .nul] [(0, (none, .t 17)), (1, (none, .t 19)), (2, (some 2, .t 21))], some 22, none, false⟩, ⟨.alloc 5 2000005 [.v (.int .i64 0), .v (.int .i64 0), .v (.bool false), .v (.int .i64 0), .nul], some 5, none, false⟩, ⟨.sto 5 (.t 22) (some 5), none, none, false⟩]
def r_spec_substitute_4 : List GI := [⟨.mov 6 (.k (.v (.int .i64 0))), some 6, none, false⟩]
def r_spec_substitute_5 : List GI := [⟨.mov 23 (.t 6), some 23, none, false⟩, ⟨.fad 24 2 4, some 24, none, false⟩, ⟨.lod 25 24 none, some 25, none, false⟩, ⟨.len 26 (.t 25), some 26, none, false⟩, ⟨.bin 27 .lss (.t 23) (.t 26), some 27, none, false⟩]
def r_spec_substitute_6 : List GI := [⟨.fad 30 5 4, some 30, none, false⟩, ⟨.lod 31 30 none, some 31, none, false⟩, ⟨.fad 32 2 4, some 32, none, false⟩, ⟨.lod 33 32 none, some 33, none, false⟩, ⟨.mov 34 (.t 6), some 34, none, false⟩, ⟨.iad 35 33 (.t 34) 5, some 35, none, false⟩, ⟨.lod 36 35 (some 5), some 36, none, false⟩, ⟨.mov 37 (.t 1), some 37, none, false⟩, ⟨.call 38 59 [.t 36, .t 37], some 38, none, true⟩, ⟨.bsl 39 5 (some 5) [.agg [.v (.int .i64 0), .v (.int .i64 0), .v (.bool false), .v (.int .i64 0), .nul]] [(0, .t 38)], some 39, none, false⟩, ⟨.app 40 2000040 (.t 31) (.t 39) 5 56, some 40, none, false⟩, ⟨.fad 41 5 4, some 41, none, false⟩, ⟨.sto 41 (.t 40) none, none, none, false⟩]
def r_spec_substitute_7 : List GI := [⟨.mov 28 (.t 6), some 28, none, false⟩, ⟨.bin 29 .add (.t 28) (.k (.v (.int .i64 1))), some 29, none, false⟩, ⟨.mov 6 (.t 29), some 6, none, false⟩]
def r_spec_substitute_8 : List GI := [⟨.lod 42 5 (some 5), some 42, none, false⟩, ⟨.sto 4 (.t 42) (some 5), none, none, false⟩]
def dc_spec_substitute : DC := .seq (.reg r_spec_substitute_0 none) (.seq (.seq (.reg r_spec_substitute_1 none) (.cond (.t 9) (.seq (.reg r_spec_substitute_2 none) .ret) .skip)) (.seq (.reg r_spec_substitute_3 none) (.seq (.seq (.reg r_spec_substitute_4 none) (.block 0 (.loop (.seq (.seq (.reg r_spec_substitute_5 none) (.cond (.t 27) .skip (.exit 0))) (.seq (.block 1 (.reg r_spec_substitute_6 (some [0, 1, 0, 4, 0, 28, 60, 0, 252, 508, 1023, 2047, 4095]))) (.reg r_spec_substitute_7 none)))))) (.seq (.reg r_spec_substitute_8 none) .ret))))
theorem c_spec_substitute : cfun Try.prog [] 59 = some (43, dc_spec_substitute, [(Res.cell 4 (some 5))]) := by kernel_rfl
end
end Go.Proofs.Ytnakdmodegfibaa
