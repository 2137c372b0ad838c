/-
  Functions of the program read as code on plain data. Closed facts of the program alone.
-/
import Derived.Test.YtncecpieebepaaaRows
import Derived.Test.YtncecpieebepaaaVLib
import Derived.KernelRfl
namespace Go.Proofs.Ytncecpieebepaaa
open Go.RowKit
noncomputable section
def r_impl_SortRows_0 : List GI := [⟨.box 2 2000002 (.t 0) (some 2), some 2, none, false⟩, ⟨.mov 4 (.k .nul), some 4, none, false⟩]
def r_impl_SortRows_1 : List GI := [⟨.lod 5 2 (some 2), some 5, none, false⟩, ⟨.mov 6 (.t 1), some 6, none, false⟩, ⟨.call 7 17 [.t 5, .t 6, .k (.v (.int .i64 400))], some 7, none, true⟩, ⟨.mov 4 (.t 7), some 4, none, false⟩]
def dc_impl_SortRows : DC := .seq (.reg r_impl_SortRows_0 none) (.seq (.reg r_impl_SortRows_1 none) .ret)
theorem c_impl_SortRows : cfun Try.prog [] 7 = some (8, dc_impl_SortRows, [(Res.tmp 4)]) := by kernel_rfl
def r_spec_TopRows_0 : List GI := [⟨.box 3 2000003 (.t 0) (some 2), some 3, none, false⟩, ⟨.mov 6 (.k .nul), some 6, none, false⟩]
def r_spec_TopRows_1 : List GI := [⟨.lod 8 3 (some 2), some 8, none, false⟩, ⟨.call 9 24 [.t 8], some 9, none, true⟩, ⟨.un 10 UnOp.not (.t 9), some 10, none, false⟩, ⟨.mov 11 (.t 10), some 11, none, false⟩, ⟨.mov 12 (.t 1), some 12, some (11, false), false⟩, ⟨.fad 13 3 0, some 13, some (11, false), false⟩, ⟨.lod 14 13 none, some 14, some (11, false), false⟩, ⟨.call 15 25 [.t 12, .t 14], some 15, some (11, false), true⟩, ⟨.un 16 UnOp.not (.t 15), some 16, some (11, false), false⟩, ⟨.pick 17 (.t 11) (.k (.v (.bool true))) (.t 16), some 17, none, false⟩, ⟨.mov 18 (.t 17), some 18, none, false⟩, ⟨.mov 19 (.t 2), some 19, some (18, false), false⟩, ⟨.bin 20 .lss (.t 19) (.k (.v (.int .i64 0))), some 20, some (18, false), false⟩, ⟨.pick 21 (.t 18) (.k (.v (.bool true))) (.t 20), some 21, none, false⟩]
def r_spec_TopRows_2 : List GI := [⟨.mov 6 (.k .nul), some 6, none, false⟩]
def r_spec_TopRows_3 : List GI := [⟨.fad 22 3 1, some 22, none, false⟩, ⟨.lod 23 22 none, some 23, none, false⟩, ⟨.mov 24 (.t 1), some 24, none, false⟩, ⟨.call 25 26 [.t 23, .t 24], some 25, none, true⟩, ⟨.mov 7 (.t 25), some 7, none, false⟩]
def r_spec_TopRows_4 : List GI := [⟨.mov 26 (.t 7), some 26, none, false⟩, ⟨.mov 27 (.t 2), some 27, none, false⟩, ⟨.mov 28 (.t 7), some 28, none, false⟩, ⟨.len 29 (.t 28), some 29, none, false⟩, ⟨.mm 30 false (.t 27) (.t 29), some 30, none, false⟩, ⟨.slc 31 (.t 26) none (some (.t 30)) 1, some 31, none, false⟩, ⟨.mov 6 (.t 31), some 6, none, false⟩]
def dc_spec_TopRows : DC := .seq (.reg r_spec_TopRows_0 none) (.seq (.seq (.reg r_spec_TopRows_1 none) (.cond (.t 21) (.seq (.reg r_spec_TopRows_2 none) .ret) .skip)) (.seq (.reg r_spec_TopRows_3 none) (.seq (.reg r_spec_TopRows_4 none) .ret)))
theorem c_spec_TopRows : cfun Try.prog [] 18 = some (32, dc_spec_TopRows, [(Res.tmp 6)]) := by kernel_rfl
end
end Go.Proofs.Ytncecpieebepaaa
