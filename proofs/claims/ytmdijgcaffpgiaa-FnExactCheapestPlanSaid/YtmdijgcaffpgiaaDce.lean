/-
  Functions of the program read as code on plain data. Closed facts of the program alone.
-/
import Derived.Test.YtmdijgcaffpgiaaRows
import Derived.Test.YtmdijgcaffpgiaaVLib
import Derived.KernelRfl
namespace Go.Proofs.Ytmdijgcaffpgiaa
open Go.RowKit
noncomputable section
def r_impl_EstimateCost_0 : List GI := [⟨.box 2 2000002 (.t 0) (some 5), some 2, none, false⟩, ⟨.mov 4 (.k (.v (.int .i64 0))), some 4, none, false⟩]
def r_impl_EstimateCost_1 : List GI := [⟨.lod 5 2 (some 5), some 5, none, false⟩, ⟨.mov 6 (.t 1), some 6, none, false⟩, ⟨.call 7 54 [.t 6], some 7, none, true⟩, ⟨.call 8 12 [.t 5, .t 7], some 8, none, true⟩, ⟨.bin 9 .eql (.t 8) (.k (.v (.int .i64 0))), some 9, none, false⟩]
def r_impl_EstimateCost_2 : List GI := [⟨.mov 4 (.k (.v (.int .i64 (-1)))), some 4, none, false⟩]
def r_impl_EstimateCost_3 : List GI := [⟨.lod 10 2 (some 5), some 10, none, false⟩, ⟨.mov 11 (.t 1), some 11, none, false⟩, ⟨.call 12 56 [.t 11], some 12, none, true⟩, ⟨.call 13 55 [.t 10, .t 12], some 13, none, true⟩, ⟨.mov 4 (.t 13), some 4, none, false⟩]
def dc_impl_EstimateCost : DC := .seq (.reg r_impl_EstimateCost_0 none) (.seq (.seq (.reg r_impl_EstimateCost_1 (some [0, 0, 2, 7, 15])) (.cond (.t 9) (.seq (.reg r_impl_EstimateCost_2 none) .ret) .skip)) (.seq (.reg r_impl_EstimateCost_3 (some [0, 0, 2, 7, 15])) .ret))
theorem c_impl_EstimateCost : cfun Try.prog [] 28 = some (14, dc_impl_EstimateCost, [(Res.tmp 4)]) := by kernel_rfl
def r_impl_estimatedCost_0 : List GI := [⟨.mov 2 (.k (.v .nilFunc)), some 2, none, false⟩]
def r_impl_estimatedCost_1 : List GI := [⟨.mov 4 (.t 0), some 4, none, false⟩, ⟨.call 5 77 [.t 4], some 5, none, true⟩, ⟨.alloc 3 2000003 [.nul, .nul], some 3, none, false⟩, ⟨.sto 3 (.t 5) (some 2), none, none, false⟩]
def r_impl_estimatedCost_2 : List GI := [⟨.mkf 6 78 [.t 3], some 6, none, false⟩, ⟨.mov 2 (.t 6), some 2, none, false⟩]
def dc_impl_estimatedCost : DC := .seq (.reg r_impl_estimatedCost_0 none) (.seq (.reg r_impl_estimatedCost_1 none) (.seq (.reg r_impl_estimatedCost_2 none) .ret))
theorem c_impl_estimatedCost : cfun Try.prog [] 56 = some (7, dc_impl_estimatedCost, [(Res.tmp 2)]) := by kernel_rfl
def r_impl_totalCost_int__0 : List GI := [⟨.box 2 2000002 (.t 0) (some 5), some 2, none, false⟩, ⟨.box 3 2000003 (.t 1) none, some 3, none, false⟩, ⟨.mov 4 (.k (.v (.int .i64 0))), some 4, none, false⟩]
def r_impl_totalCost_int__1 : List GI := [⟨.alloc 5 2000005 [.v (.int .i64 0)], some 5, none, false⟩, ⟨.sto 5 (.k (.v (.int .i64 0))) none, none, none, false⟩]
def r_impl_totalCost_int__2 : List GI := [⟨.lod 6 2 (some 5), some 6, none, false⟩, ⟨.mkf 7 76 [.t 3, .t 5], some 7, none, false⟩, ⟨.call 8 75 [.t 6, .t 7], some 8, none, true⟩]
def r_impl_totalCost_int__3 : List GI := [⟨.lod 9 5 none, some 9, none, false⟩, ⟨.mov 4 (.t 9), some 4, none, false⟩]
def dc_impl_totalCost_int_ : DC := .seq (.reg r_impl_totalCost_int__0 none) (.seq (.reg r_impl_totalCost_int__1 none) (.seq (.reg r_impl_totalCost_int__2 none) (.seq (.reg r_impl_totalCost_int__3 none) .ret)))
theorem c_impl_totalCost_int_ : cfun Try.prog [] 55 = some (10, dc_impl_totalCost_int_, [(Res.tmp 4)]) := by kernel_rfl
def r_spec_EstimateCost_0 : List GI := [⟨.box 2 2000002 (.t 0) (some 5), some 2, none, false⟩, ⟨.mov 4 (.k (.v (.int .i64 0))), some 4, none, false⟩]
def r_spec_EstimateCost_1 : List GI := [⟨.lod 5 2 (some 5), some 5, none, false⟩, ⟨.mov 6 (.t 1), some 6, none, false⟩, ⟨.call 7 52 [.t 5, .t 6], some 7, none, true⟩, ⟨.un 8 UnOp.not (.t 7), some 8, none, false⟩]
def r_spec_EstimateCost_2 : List GI := [⟨.mov 4 (.k (.v (.int .i64 (-1)))), some 4, none, false⟩]
def r_spec_EstimateCost_3 : List GI := [⟨.lod 9 2 (some 5), some 9, none, false⟩, ⟨.mov 10 (.t 1), some 10, none, false⟩, ⟨.call 11 53 [.t 9, .t 10], some 11, none, true⟩, ⟨.mov 4 (.t 11), some 4, none, false⟩]
def dc_spec_EstimateCost : DC := .seq (.reg r_spec_EstimateCost_0 none) (.seq (.seq (.reg r_spec_EstimateCost_1 none) (.cond (.t 8) (.seq (.reg r_spec_EstimateCost_2 none) .ret) .skip)) (.seq (.reg r_spec_EstimateCost_3 none) .ret))
theorem c_spec_EstimateCost : cfun Try.prog [] 26 = some (12, dc_spec_EstimateCost, [(Res.tmp 4)]) := by kernel_rfl
def r_spec_estimateCost_0 : List GI := [⟨.box 2 2000002 (.t 0) (some 5), some 2, none, false⟩, ⟨.mov 4 (.k (.v (.int .i64 0))), some 4, none, false⟩]
def r_spec_estimateCost_1 : List GI := [⟨.lod 7 2 (some 5), some 7, none, false⟩, ⟨.mov 8 (.t 1), some 8, none, false⟩, ⟨.call 9 74 [.t 7, .t 8], some 9, none, true⟩, ⟨.mov 5 (.t 9), some 5, none, false⟩]
def r_spec_estimateCost_2 : List GI := [⟨.mov 6 (.k (.v (.int .i64 0))), some 6, none, false⟩]
def r_spec_estimateCost_3 : List GI := [⟨.mov 10 (.t 6), some 10, none, false⟩, ⟨.fad 11 2 4, some 11, none, false⟩, ⟨.lod 12 11 none, some 12, none, false⟩, ⟨.len 13 (.t 12), some 13, none, false⟩, ⟨.bin 14 .lss (.t 10) (.t 13), some 14, none, false⟩]
def r_spec_estimateCost_4 : List GI := [⟨.mov 17 (.t 5), some 17, none, false⟩, ⟨.fad 18 2 4, some 18, none, false⟩, ⟨.lod 19 18 none, some 19, none, false⟩, ⟨.mov 20 (.t 6), some 20, none, false⟩, ⟨.iad 21 19 (.t 20) 5, some 21, none, false⟩, ⟨.lod 22 21 (some 5), some 22, none, false⟩, ⟨.mov 23 (.t 1), some 23, none, false⟩, ⟨.call 24 53 [.t 22, .t 23], some 24, none, true⟩, ⟨.bin 25 .add (.t 17) (.t 24), some 25, none, false⟩, ⟨.mov 5 (.t 25), some 5, none, false⟩]
def r_spec_estimateCost_5 : List GI := [⟨.mov 15 (.t 6), some 15, none, false⟩, ⟨.bin 16 .add (.t 15) (.k (.v (.int .i64 1))), some 16, none, false⟩, ⟨.mov 6 (.t 16), some 6, none, false⟩]
def r_spec_estimateCost_6 : List GI := [⟨.mov 26 (.t 5), some 26, none, false⟩, ⟨.mov 4 (.t 26), some 4, none, false⟩]
def dc_spec_estimateCost : DC := .seq (.reg r_spec_estimateCost_0 none) (.seq (.reg r_spec_estimateCost_1 none) (.seq (.seq (.reg r_spec_estimateCost_2 none) (.block 0 (.loop (.seq (.seq (.reg r_spec_estimateCost_3 none) (.cond (.t 14) .skip (.exit 0))) (.seq (.block 1 (.reg r_spec_estimateCost_4 none)) (.reg r_spec_estimateCost_5 none)))))) (.seq (.reg r_spec_estimateCost_6 none) .ret)))
theorem c_spec_estimateCost : cfun Try.prog [] 53 = some (27, dc_spec_estimateCost, [(Res.tmp 4)]) := by kernel_rfl
end
end Go.Proofs.Ytmdijgcaffpgiaa
