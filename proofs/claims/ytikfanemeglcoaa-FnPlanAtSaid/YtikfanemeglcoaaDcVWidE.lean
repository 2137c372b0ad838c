/-
  Functions of the program read as code on plain data. Closed facts of the program alone.
-/
import Derived.Test.YtikfanemeglcoaaRows
import Derived.Test.YtikfanemeglcoaaVLib
import Derived.KernelRfl
namespace Go.Proofs.Ytikfanemeglcoaa
open Go.RowKit
noncomputable section
def r_impl_PlanWidth_0 : List GI := [⟨.box 2 2000002 (.t 0) (some 5), some 2, none, false⟩, ⟨.mov 4 (.k (.v (.int .i64 0))), some 4, none, false⟩]
def r_impl_PlanWidth_1 : List GI := [⟨.mov 5 (.t 1), some 5, none, false⟩, ⟨.call 6 26 [.t 5], some 6, none, true⟩, ⟨.un 7 UnOp.not (.t 6), some 7, none, false⟩]
def r_impl_PlanWidth_2 : List GI := [⟨.mov 4 (.k (.v (.int .i64 0))), some 4, none, false⟩]
def r_impl_PlanWidth_3 : List GI := [⟨.lod 8 2 (some 5), some 8, none, false⟩, ⟨.mov 9 (.t 1), some 9, none, false⟩, ⟨.call 10 27 [.t 8, .t 9, .k (.v (.int .i64 8))], some 10, none, true⟩, ⟨.mov 4 (.t 10), some 4, none, false⟩]
def dc_impl_PlanWidth : DC := .seq (.reg r_impl_PlanWidth_0 none) (.seq (.seq (.reg r_impl_PlanWidth_1 none) (.cond (.t 7) (.seq (.reg r_impl_PlanWidth_2 none) .ret) .skip)) (.seq (.reg r_impl_PlanWidth_3 none) .ret))
theorem c_impl_PlanWidth : cfun Try.prog [] 12 = some (11, dc_impl_PlanWidth, [(Res.tmp 4)]) := by kernel_rfl
def r_spec_widthOf_0 : List GI := [⟨.box 2 2000002 (.t 0) (some 5), some 2, none, false⟩, ⟨.mov 4 (.k (.v (.int .i64 0))), some 4, none, false⟩]
def r_spec_widthOf_1 : List GI := [⟨.mov 5 (.t 1), some 5, none, false⟩, ⟨.call 6 42 [.t 5], some 6, none, true⟩, ⟨.un 7 UnOp.not (.t 6), some 7, none, false⟩]
def r_spec_widthOf_2 : List GI := [⟨.mov 4 (.k (.v (.int .i64 0))), some 4, none, false⟩]
def r_spec_widthOf_3 : List GI := [⟨.lod 8 2 (some 5), some 8, none, false⟩, ⟨.mov 9 (.t 1), some 9, none, false⟩, ⟨.call 10 43 [.t 8, .t 9, .k (.v (.int .i64 8))], some 10, none, true⟩, ⟨.mov 4 (.t 10), some 4, none, false⟩]
def dc_spec_widthOf : DC := .seq (.reg r_spec_widthOf_0 none) (.seq (.seq (.reg r_spec_widthOf_1 none) (.cond (.t 7) (.seq (.reg r_spec_widthOf_2 none) .ret) .skip)) (.seq (.reg r_spec_widthOf_3 none) .ret))
theorem c_spec_widthOf : cfun Try.prog [] 24 = some (11, dc_spec_widthOf, [(Res.tmp 4)]) := by kernel_rfl
end
end Go.Proofs.Ytikfanemeglcoaa
