/-
  Functions of the program read as code on plain data. Closed facts of the program alone.
-/
import Derived.Test.YtjclkhmpkknadaaRows
import Derived.Test.YtjclkhmpkknadaaVLib
import Derived.KernelRfl
namespace Go.Proofs.Ytjclkhmpkknadaa
open Go.RowKit
noncomputable section
def r_impl_matchedRuns___loop_example_queryoptimizer_impl_Value__1_0 : List GI := [⟨.box 4 2000004 (.t 0) none, some 4, none, false⟩]
def r_impl_matchedRuns___loop_example_queryoptimizer_impl_Value__1_1 : List GI := [⟨.lod 7 1 none, some 7, none, false⟩, ⟨.lod 8 2 none, some 8, none, false⟩, ⟨.build 9 [.nul, .v .nilFunc] [(0, (none, .t 7)), (1, (none, .t 8))], some 9, none, false⟩, ⟨.alloc 5 2000005 [.nul, .v .nilFunc], some 5, none, false⟩, ⟨.sto 5 (.t 9) (some 2), none, none, false⟩]
def r_impl_matchedRuns___loop_example_queryoptimizer_impl_Value__1_2 : List GI := [⟨.lod 10 3 none, some 10, none, false⟩, ⟨.lod 11 2 none, some 11, none, false⟩, ⟨.call 12 63 [.t 10, .t 11], some 12, none, true⟩]
def r_impl_matchedRuns___loop_example_queryoptimizer_impl_Value__1_3 : List GI := [⟨.mov 6 (.t 13), some 6, none, false⟩]
def r_impl_matchedRuns___loop_example_queryoptimizer_impl_Value__1_4 : List GI := [⟨.lod 14 4 none, some 14, none, false⟩, ⟨.mov 15 (.t 6), some 15, none, false⟩, ⟨.mov 16 (.t 6), some 16, none, false⟩, ⟨.iad 17 16 (.k (.v (.int .i64 0))) 1, some 17, none, false⟩, ⟨.lod 18 17 none, some 18, none, false⟩, ⟨.call 19 42 [.t 5, .t 18], some 19, none, true⟩, ⟨.cal 20 (.t 14) [.t 15, .t 19], some 20, none, true⟩, ⟨.un 21 UnOp.not (.t 20), some 21, none, false⟩]
def dc_impl_matchedRuns___loop_example_queryoptimizer_impl_Value__1 : DC := .seq (.reg r_impl_matchedRuns___loop_example_queryoptimizer_impl_Value__1_0 none) (.seq (.reg r_impl_matchedRuns___loop_example_queryoptimizer_impl_Value__1_1 none) (.seq (.reg r_impl_matchedRuns___loop_example_queryoptimizer_impl_Value__1_2 none) (.block 0 (.rng (.t 12) [13] (.reg r_impl_matchedRuns___loop_example_queryoptimizer_impl_Value__1_3 none) (.block 1 (.seq (.reg r_impl_matchedRuns___loop_example_queryoptimizer_impl_Value__1_4 (some [0, 0, 0, 4, 12, 28, 63, 127])) (.cond (.t 21) .ret .skip)))))))
theorem c_impl_matchedRuns___loop_example_queryoptimizer_impl_Value__1 : cfun Try.prog [] 62 = some (22, dc_impl_matchedRuns___loop_example_queryoptimizer_impl_Value__1, []) := by kernel_rfl
def r_impl_runsOf___loop_example_queryoptimizer_impl_Value__0 : List GI := [⟨.box 2 2000002 (.t 0) none, some 2, none, false⟩, ⟨.box 3 2000003 (.t 1) none, some 3, none, false⟩, ⟨.mov 4 (.k (.v .nilFunc)), some 4, none, false⟩]
def r_impl_runsOf___loop_example_queryoptimizer_impl_Value__1 : List GI := [⟨.mkf 5 91 [.t 2, .t 3], some 5, none, false⟩, ⟨.mov 4 (.t 5), some 4, none, false⟩]
def dc_impl_runsOf___loop_example_queryoptimizer_impl_Value_ : DC := .seq (.reg r_impl_runsOf___loop_example_queryoptimizer_impl_Value__0 none) (.seq (.reg r_impl_runsOf___loop_example_queryoptimizer_impl_Value__1 none) .ret)
theorem c_impl_runsOf___loop_example_queryoptimizer_impl_Value_ : cfun Try.prog [] 63 = some (6, dc_impl_runsOf___loop_example_queryoptimizer_impl_Value_, [(Res.tmp 4)]) := by kernel_rfl
def r_impl_runsOf___loop_example_queryoptimizer_impl_Value__1_0 : List GI := [⟨.lod 5 1 none, some 5, none, false⟩, ⟨.lod 6 2 none, some 6, none, false⟩, ⟨.build 7 [.nul, .v .nilFunc] [(0, (none, .t 5)), (1, (none, .t 6))], some 7, none, false⟩, ⟨.alloc 4 2000004 [.nul, .v .nilFunc], some 4, none, false⟩, ⟨.sto 4 (.t 7) (some 2), none, none, false⟩]
def r_impl_runsOf___loop_example_queryoptimizer_impl_Value__1_1 : List GI := [⟨.fad 8 4 0, some 8, none, false⟩, ⟨.lod 9 8 none, some 9, none, false⟩, ⟨.len 10 (.t 9), some 10, none, false⟩, ⟨.bin 11 .gtr (.t 10) (.k (.v (.int .i64 0))), some 11, none, false⟩]
def r_impl_runsOf___loop_example_queryoptimizer_impl_Value__1_2 : List GI := [⟨.mov 12 (.t 0), some 12, none, false⟩, ⟨.fad 13 4 0, some 13, none, false⟩, ⟨.lod 14 13 none, some 14, none, false⟩, ⟨.iad 15 14 (.k (.v (.int .i64 0))) 1, some 15, none, false⟩, ⟨.lod 16 15 none, some 16, none, false⟩, ⟨.call 17 42 [.t 4, .t 16], some 17, none, true⟩, ⟨.cal 18 (.t 12) [.t 17], some 18, none, true⟩, ⟨.un 19 UnOp.not (.t 18), some 19, none, false⟩]
def dc_impl_runsOf___loop_example_queryoptimizer_impl_Value__1 : DC := .seq (.reg r_impl_runsOf___loop_example_queryoptimizer_impl_Value__1_0 none) (.block 0 (.loop (.seq (.seq (.reg r_impl_runsOf___loop_example_queryoptimizer_impl_Value__1_1 none) (.cond (.t 11) .skip (.exit 0))) (.block 1 (.seq (.reg r_impl_runsOf___loop_example_queryoptimizer_impl_Value__1_2 none) (.cond (.t 19) .ret .skip))))))
theorem c_impl_runsOf___loop_example_queryoptimizer_impl_Value__1 : cfun Try.prog [] 91 = some (20, dc_impl_runsOf___loop_example_queryoptimizer_impl_Value__1, []) := by kernel_rfl
end
end Go.Proofs.Ytjclkhmpkknadaa
