/-
  Functions of the program read as code on plain data. Closed facts of the program alone.
-/
import Derived.Test.YtkfmglbnicbooaaRows
import Derived.Test.YtkfmglbnicbooaaVLib
import Derived.KernelRfl
namespace Go.Proofs.Ytkfmglbnicbooaa
open Go.RowKit
noncomputable section
def r_spec_DrawIsSorted_0 : List GI := [⟨.mov 2 (.k .nul), some 2, none, false⟩, ⟨.mov 3 (.k .nul), some 3, none, false⟩]
def r_spec_DrawIsSorted_1 : List GI := [⟨.mov 9 (.t 0), some 9, none, false⟩, ⟨.call 10 14 [.t 9], some 10, none, true⟩, ⟨.mov 4 (.t 10), some 4, none, false⟩]
def r_spec_DrawIsSorted_2 : List GI := [⟨.mov 11 (.t 4), some 11, none, false⟩, ⟨.call 12 15 [.t 11, .k (.v (.int .i64 3))], some 12, none, true⟩, ⟨.bin 13 .add (.k (.v (.int .i64 1))) (.t 12), some 13, none, false⟩, ⟨.mov 5 (.t 13), some 5, none, false⟩]
def r_spec_DrawIsSorted_3 : List GI := [⟨.mov 14 (.t 4), some 14, none, false⟩, ⟨.mov 15 (.t 5), some 15, none, false⟩, ⟨.call 16 16 [.t 14, .t 15, .k (.v (.int .i64 6))], some 16, none, true⟩, ⟨.alloc 6 2000006 [.v (.int .i64 0), .nul], some 6, none, false⟩, ⟨.sto 6 (.t 16) (some 2), none, none, false⟩]
def r_spec_DrawIsSorted_4 : List GI := [⟨.mov 17 (.t 4), some 17, none, false⟩, ⟨.mov 18 (.t 5), some 18, none, false⟩, ⟨.call 19 17 [.t 17, .t 18], some 19, none, true⟩, ⟨.mov 7 (.t 19), some 7, none, false⟩]
def r_spec_DrawIsSorted_5 : List GI := [⟨.lod 20 6 (some 2), some 20, none, false⟩, ⟨.mov 21 (.t 7), some 21, none, false⟩, ⟨.call 22 18 [.t 20, .t 21], some 22, none, true⟩, ⟨.mov 8 (.t 22), some 8, none, false⟩]
def r_spec_DrawIsSorted_6 : List GI := [⟨.mov 23 (.t 4), some 23, none, false⟩, ⟨.call 24 15 [.t 23, .k (.v (.int .i64 2))], some 24, none, true⟩, ⟨.bin 25 .eql (.t 24) (.k (.v (.int .i64 0))), some 25, none, false⟩]
def r_spec_DrawIsSorted_7 : List GI := [⟨.mov 26 (.k .nul), some 26, none, false⟩, ⟨.fad 27 6 1, some 27, none, false⟩, ⟨.lod 28 27 none, some 28, none, false⟩, ⟨.app 29 2000029 (.t 26) (.t 28) 1 24, some 29, none, false⟩, ⟨.mov 8 (.t 29), some 8, none, false⟩]
def r_spec_DrawIsSorted_8 : List GI := [⟨.mov 30 (.t 8), some 30, none, false⟩, ⟨.len 31 (.t 30), some 31, none, false⟩, ⟨.bin 32 .gtr (.t 31) (.k (.v (.int .i64 0))), some 32, none, false⟩, ⟨.mov 33 (.t 32), some 33, none, false⟩, ⟨.mov 34 (.t 4), some 34, some (33, true), false⟩, ⟨.call 35 15 [.t 34, .k (.v (.int .i64 12))], some 35, some (33, true), true⟩, ⟨.bin 36 .eql (.t 35) (.k (.v (.int .i64 0))), some 36, some (33, true), false⟩, ⟨.pick 37 (.t 33) (.t 36) (.k (.v (.bool false))), some 37, none, false⟩]
def r_spec_DrawIsSorted_9 : List GI := [⟨.mov 38 (.t 8), some 38, none, false⟩, ⟨.mov 39 (.t 4), some 39, none, false⟩, ⟨.mov 40 (.t 5), some 40, none, false⟩, ⟨.call 41 19 [.t 39, .t 40], some 41, none, true⟩, ⟨.iad 42 38 (.k (.v (.int .i64 0))) 1, some 42, none, false⟩, ⟨.sto 42 (.t 41) none, none, none, false⟩]
def r_spec_DrawIsSorted_10 : List GI := [⟨.mov 43 (.t 8), some 43, none, false⟩, ⟨.mov 44 (.t 7), some 44, none, false⟩, ⟨.mov 2 (.t 43), some 2, none, false⟩, ⟨.mov 3 (.t 44), some 3, none, false⟩]
def dc_spec_DrawIsSorted : DC := .seq (.reg r_spec_DrawIsSorted_0 none) (.seq (.reg r_spec_DrawIsSorted_1 none) (.seq (.reg r_spec_DrawIsSorted_2 none) (.seq (.reg r_spec_DrawIsSorted_3 none) (.seq (.reg r_spec_DrawIsSorted_4 none) (.seq (.reg r_spec_DrawIsSorted_5 none) (.seq (.seq (.reg r_spec_DrawIsSorted_6 none) (.cond (.t 25) (.reg r_spec_DrawIsSorted_7 none) .skip)) (.seq (.seq (.reg r_spec_DrawIsSorted_8 none) (.cond (.t 37) (.reg r_spec_DrawIsSorted_9 none) .skip)) (.seq (.reg r_spec_DrawIsSorted_10 none) .ret))))))))
theorem c_spec_DrawIsSorted : cfun Try.prog [] 5 = some (45, dc_spec_DrawIsSorted, [(Res.tmp 2), (Res.tmp 3)]) := by kernel_rfl
end
end Go.Proofs.Ytkfmglbnicbooaa
