/-
  Functions of the program read as code on plain data. Closed facts of the program alone.
-/
import Derived.Test.YtedmegmhjmabcaaRows
import Derived.Test.YtedmegmhjmabcaaVLib
import Derived.KernelRfl
namespace Go.Proofs.Ytedmegmhjmabcaa
open Go.RowKit
noncomputable section
def r_impl_cloneRowsO_0 : List GI := [⟨.mov 2 (.k .nul), some 2, none, false⟩]
def r_impl_cloneRowsO_1 : List GI := [⟨.mov 3 (.k .nul), some 3, none, false⟩]
def r_impl_cloneRowsO_2 : List GI := [⟨.mov 6 (.t 0), some 6, none, false⟩, ⟨.len 7 (.t 6), some 7, none, false⟩, ⟨.mov 8 (.k (.v (.int .i64 0))), some 8, none, false⟩]
def r_impl_cloneRowsO_3 : List GI := [⟨.bin 9 .lss (.t 8) (.t 7), some 9, none, false⟩]
def r_impl_cloneRowsO_4 : List GI := [⟨.iad 10 6 (.t 8) 1, some 10, none, false⟩, ⟨.lod 11 10 none, some 11, none, false⟩, ⟨.mov 5 (.t 11), some 5, none, false⟩]
def r_impl_cloneRowsO_5 : List GI := [⟨.mov 12 (.t 3), some 12, none, false⟩, ⟨.mov 13 (.t 5), some 13, none, false⟩, ⟨.call 14 105 [.t 13], some 14, none, true⟩, ⟨.bslx 15 2000015 1 none [.nul] [(0, .t 14)], some 15, none, false⟩, ⟨.app 16 2000016 (.t 12) (.t 15) 1 24, some 16, none, false⟩, ⟨.mov 3 (.t 16), some 3, none, false⟩]
def r_impl_cloneRowsO_6 : List GI := [⟨.bin 17 .add (.t 8) (.k (.v (.int .i64 1))), some 17, none, false⟩, ⟨.mov 8 (.t 17), some 8, none, false⟩]
def r_impl_cloneRowsO_7 : List GI := [⟨.mov 18 (.t 3), some 18, none, false⟩, ⟨.mov 2 (.t 18), some 2, none, false⟩]
def dc_impl_cloneRowsO : DC := .seq (.reg r_impl_cloneRowsO_0 none) (.seq (.reg r_impl_cloneRowsO_1 none) (.seq (.seq (.reg r_impl_cloneRowsO_2 none) (.block 0 (.loop (.seq (.reg r_impl_cloneRowsO_3 none) (.seq (.cond (.t 9) .skip (.exit 0)) (.seq (.block 1 (.seq (.reg r_impl_cloneRowsO_4 none) (.reg r_impl_cloneRowsO_5 none))) (.reg r_impl_cloneRowsO_6 none))))))) (.seq (.reg r_impl_cloneRowsO_7 none) .ret)))
theorem c_impl_cloneRowsO : cfun Try.prog [15] 67 = some (19, dc_impl_cloneRowsO, [(Res.tmp 2)]) := by kernel_rfl
end
end Go.Proofs.Ytedmegmhjmabcaa
