/-
  Functions of the program read as code on plain data. Closed facts of the program alone.
-/
import Derived.KernelRfl
import Derived.Test.YtpfedjaedlfdfaaRows
import Derived.Test.YtpfedjaedlfdfaaJSVCall
namespace Go.Proofs.Ytpfedjaedlfdfaa
open Go.RowKit
noncomputable section
def r_spec_statsFor_0 : List GI := [gi 4 (.mov 4 (.k .nul))]
def r_spec_statsFor_1 : List GI := [gi 7 (.mov 7 (.k .nul)), gi 5 (.mov 5 (.t 7))]
def r_spec_statsFor_2 : List GI := [gi 6 (.mov 6 (.k (.v (.int .i64 0))))]
def r_spec_statsFor_3 : List GI := [gi 8 (.mov 8 (.t 6)), gi 9 (.mov 9 (.t 1)), gi 10 (.len 10 (.t 9)), gi 11 (.bin 11 .lss (.t 8) (.t 10))]
def r_spec_statsFor_4 : List GI := [gi 14 (.mov 14 (.t 5)), gi 15 (.mov 15 (.t 0)), gi 16 (.mov 16 (.t 1)), gi 17 (.mov 17 (.t 6)), gi 18 (.iad 18 16 (.t 17) 1), gi 19 (.lod 19 18 none), gi 20 (.mm 20 true (.t 19) (.k (.v (.int .i64 1)))), gi 21 (.mm 21 false (.t 20) (.k (.v (.int .i64 6)))), ⟨.call 22 66 [.t 15, .t 21, .k (.v (.int .i64 8))], some 22, none, true⟩, ⟨.call 23 65 [.t 22], some 23, none, true⟩, gi 24 (.bsl 24 3 (some 3) [.agg [.v (.int .i64 0), .nul, .nul]] [(0, .t 23)]), gi 25 (.app 25 2000025 (.t 14) (.t 24) 3 56), gi 5 (.mov 5 (.t 25))]
def r_spec_statsFor_5 : List GI := [gi 12 (.mov 12 (.t 6)), gi 13 (.bin 13 .add (.t 12) (.k (.v (.int .i64 1)))), gi 6 (.mov 6 (.t 13))]
def r_spec_statsFor_6 : List GI := [gi 26 (.mov 26 (.t 0)), ⟨.call 27 38 [.t 26, .k (.v (.int .i64 16))], some 27, none, true⟩, gi 28 (.bin 28 .eql (.t 27) (.k (.v (.int .i64 0))))]
def r_spec_statsFor_7 : List GI := [gi 29 (.mov 29 (.t 5)), gi 30 (.mov 30 (.t 0)), gi 31 (.mov 31 (.t 1)), gi 32 (.iad 32 31 (.k (.v (.int .i64 0))) 1), gi 33 (.lod 33 32 none), gi 34 (.mm 34 true (.t 33) (.k (.v (.int .i64 1)))), gi 35 (.mm 35 false (.t 34) (.k (.v (.int .i64 6)))), ⟨.call 36 67 [.t 30, .t 35], some 36, none, true⟩, gi 37 (.iad 37 29 (.k (.v (.int .i64 0))) 3), g0 (.sto 37 (.t 36) (some 3))]
def r_spec_statsFor_8 : List GI := [gi 38 (.mov 38 (.t 5)), gi 4 (.mov 4 (.t 38))]
def dc_spec_statsFor : DC := .seq (.reg r_spec_statsFor_0 none) (.seq (.reg r_spec_statsFor_1 none) (.seq (.seq (.reg r_spec_statsFor_2 none) (.block 0 (.loop (.seq (.seq (.reg r_spec_statsFor_3 none) (.cond (.t 11) .skip (.exit 0))) (.seq (.block 1 (.reg r_spec_statsFor_4 none)) (.reg r_spec_statsFor_5 none)))))) (.seq (.seq (.reg r_spec_statsFor_6 none) (.cond (.t 28) (.reg r_spec_statsFor_7 none) .skip)) (.seq (.reg r_spec_statsFor_8 none) .ret))))
theorem c_spec_statsFor : cfun Try.prog [] 41 = some (39, dc_spec_statsFor, [(Res.tmp 4)]) := by kernel_rfl
def r_impl_estimatedCost_1_0 : List GI := [gi 3 (.box 3 2000003 (.t 0) (some 5)), gi 5 (.mov 5 (.k (.v (.int .i64 0)))), gi 6 (.mov 6 (.k (.v (.int .i64 0))))]
def r_impl_estimatedCost_1_1 : List GI := [gi 8 (.lod 8 3 (some 5)), gi 9 (.mov 9 (.t 1)), gi 10 (.lod 10 2 (some 2)), gi 11 (.ifc 11 70 (.t 10)), ⟨.call 12 71 [.t 8, .t 9, .t 11], some 12, none, true⟩, gi 7 (.mov 7 (.t 12))]
def r_impl_estimatedCost_1_2 : List GI := [gi 13 (.mov 13 (.t 7)), gi 14 (.mov 14 (.t 7)), gi 5 (.mov 5 (.t 13)), gi 6 (.mov 6 (.t 14))]
def dc_impl_estimatedCost_1 : DC := .seq (.reg r_impl_estimatedCost_1_0 none) (.seq (.reg r_impl_estimatedCost_1_1 none) (.seq (.reg r_impl_estimatedCost_1_2 none) .ret))
theorem c_impl_estimatedCost_1 : cfun Try.prog [] 76 = some (15, dc_impl_estimatedCost_1, [(Res.tmp 5), (Res.tmp 6)]) := by kernel_rfl
def r_impl_totalCost_int__1_0 : List GI := [gi 4 (.box 4 2000004 (.t 0) (some 5)), gi 6 (.mov 6 (.k (.v (.int .i64 0))))]
def r_impl_totalCost_int__1_1 : List GI := [gi 10 (.lod 10 2 none), gi 11 (.lod 11 4 (some 5)), gi 12 (.mov 12 (.t 1)), ⟨.cal 13 (.t 10) [.t 11, .t 12], some 13, none, true⟩, gi 9 (.mov 9 (.t 13)), gi 14 (.ext 14 9 0), gi 15 (.ext 15 9 1), gi 7 (.mov 7 (.t 14)), gi 8 (.mov 8 (.t 15))]
def r_impl_totalCost_int__1_2 : List GI := [gi 16 (.lod 16 3 none), gi 17 (.mov 17 (.t 8)), gi 18 (.bin 18 .add (.t 16) (.t 17)), g0 (.sto 3 (.t 18) none)]
def r_impl_totalCost_int__1_3 : List GI := [gi 19 (.mov 19 (.t 7)), gi 6 (.mov 6 (.t 19))]
def dc_impl_totalCost_int__1 : DC := .seq (.reg r_impl_totalCost_int__1_0 none) (.seq (.reg r_impl_totalCost_int__1_1 none) (.seq (.reg r_impl_totalCost_int__1_2 none) (.seq (.reg r_impl_totalCost_int__1_3 none) .ret)))
theorem c_impl_totalCost_int__1 : cfun Try.prog [] 75 = some (20, dc_impl_totalCost_int__1, [(Res.tmp 6)]) := by kernel_rfl
def r_impl_EstimateCost_0 : List GI := [gi 2 (.box 2 2000002 (.t 0) (some 5)), gi 4 (.mov 4 (.k (.v (.int .i64 0))))]
def r_impl_EstimateCost_1 : List GI := [gi 5 (.lod 5 2 (some 5)), gi 6 (.mov 6 (.t 1)), ⟨.call 7 42 [.t 6], some 7, none, true⟩, ⟨.call 8 13 [.t 5, .t 7], some 8, none, true⟩, gi 9 (.bin 9 .eql (.t 8) (.k (.v (.int .i64 0))))]
def r_impl_EstimateCost_2 : List GI := [gi 4 (.mov 4 (.k (.v (.int .i64 (-1)))))]
def r_impl_EstimateCost_3 : List GI := [gi 10 (.lod 10 2 (some 5)), gi 11 (.mov 11 (.t 1)), ⟨.call 12 48 [.t 11], some 12, none, true⟩, ⟨.call 13 47 [.t 10, .t 12], some 13, none, true⟩, gi 4 (.mov 4 (.t 13))]
def dc_impl_EstimateCost : DC := .seq (.reg r_impl_EstimateCost_0 none) (.seq (.seq (.reg r_impl_EstimateCost_1 (some [0, 0, 2, 7, 15])) (.cond (.t 9) (.seq (.reg r_impl_EstimateCost_2 none) .ret) .skip)) (.seq (.reg r_impl_EstimateCost_3 (some [0, 0, 2, 7, 15])) .ret))
theorem c_impl_EstimateCost : cfun Try.prog [] 23 = some (14, dc_impl_EstimateCost, [(Res.tmp 4)]) := by kernel_rfl
def r_impl_estimatedCost_0 : List GI := [gi 2 (.mov 2 (.k (.v .nilFunc)))]
def r_impl_estimatedCost_1 : List GI := [gi 4 (.mov 4 (.t 0)), ⟨.call 5 44 [.t 4], some 5, none, true⟩, gi 3 (.alloc 3 2000003 [.nul, .nul]), g0 (.sto 3 (.t 5) (some 2))]
def r_impl_estimatedCost_2 : List GI := [gi 6 (.mkf 6 76 [.t 3]), gi 2 (.mov 2 (.t 6))]
def dc_impl_estimatedCost : DC := .seq (.reg r_impl_estimatedCost_0 none) (.seq (.reg r_impl_estimatedCost_1 none) (.seq (.reg r_impl_estimatedCost_2 none) .ret))
theorem c_impl_estimatedCost : cfun Try.prog [] 48 = some (7, dc_impl_estimatedCost, [(Res.tmp 2)]) := by kernel_rfl
def r_impl_totalCost_int__0 : List GI := [gi 2 (.box 2 2000002 (.t 0) (some 5)), gi 3 (.box 3 2000003 (.t 1) none), gi 4 (.mov 4 (.k (.v (.int .i64 0))))]
def r_impl_totalCost_int__1 : List GI := [gi 5 (.alloc 5 2000005 [.v (.int .i64 0)]), g0 (.sto 5 (.k (.v (.int .i64 0))) none)]
def r_impl_totalCost_int__2 : List GI := [gi 6 (.lod 6 2 (some 5)), gi 7 (.mkf 7 75 [.t 3, .t 5]), ⟨.call 8 69 [.t 6, .t 7], some 8, none, true⟩]
def r_impl_totalCost_int__3 : List GI := [gi 9 (.lod 9 5 none), gi 4 (.mov 4 (.t 9))]
def dc_impl_totalCost_int_ : DC := .seq (.reg r_impl_totalCost_int__0 none) (.seq (.reg r_impl_totalCost_int__1 none) (.seq (.reg r_impl_totalCost_int__2 none) (.seq (.reg r_impl_totalCost_int__3 none) .ret)))
theorem c_impl_totalCost_int_ : cfun Try.prog [] 47 = some (10, dc_impl_totalCost_int_, [(Res.tmp 4)]) := by kernel_rfl
def r_spec_EstimateCost_0 : List GI := [gi 2 (.box 2 2000002 (.t 0) (some 5)), gi 4 (.mov 4 (.k (.v (.int .i64 0))))]
def r_spec_EstimateCost_1 : List GI := [gi 5 (.lod 5 2 (some 5)), gi 6 (.mov 6 (.t 1)), ⟨.call 7 45 [.t 5, .t 6], some 7, none, true⟩, gi 8 (.un 8 UnOp.not (.t 7))]
def r_spec_EstimateCost_2 : List GI := [gi 4 (.mov 4 (.k (.v (.int .i64 (-1)))))]
def r_spec_EstimateCost_3 : List GI := [gi 9 (.lod 9 2 (some 5)), gi 10 (.mov 10 (.t 1)), ⟨.call 11 49 [.t 9, .t 10], some 11, none, true⟩, gi 4 (.mov 4 (.t 11))]
def dc_spec_EstimateCost : DC := .seq (.reg r_spec_EstimateCost_0 none) (.seq (.seq (.reg r_spec_EstimateCost_1 none) (.cond (.t 8) (.seq (.reg r_spec_EstimateCost_2 none) .ret) .skip)) (.seq (.reg r_spec_EstimateCost_3 none) .ret))
theorem c_spec_EstimateCost : cfun Try.prog [] 24 = some (12, dc_spec_EstimateCost, [(Res.tmp 4)]) := by kernel_rfl
def r_spec_estimateCost_0 : List GI := [gi 2 (.box 2 2000002 (.t 0) (some 5)), gi 4 (.mov 4 (.k (.v (.int .i64 0))))]
def r_spec_estimateCost_1 : List GI := [gi 7 (.lod 7 2 (some 5)), gi 8 (.mov 8 (.t 1)), ⟨.call 9 46 [.t 7, .t 8], some 9, none, true⟩, gi 5 (.mov 5 (.t 9))]
def r_spec_estimateCost_2 : List GI := [gi 6 (.mov 6 (.k (.v (.int .i64 0))))]
def r_spec_estimateCost_3 : List GI := [gi 10 (.mov 10 (.t 6)), gi 11 (.fad 11 2 4), gi 12 (.lod 12 11 none), gi 13 (.len 13 (.t 12)), gi 14 (.bin 14 .lss (.t 10) (.t 13))]
def r_spec_estimateCost_4 : List GI := [gi 17 (.mov 17 (.t 5)), gi 18 (.fad 18 2 4), gi 19 (.lod 19 18 none), gi 20 (.mov 20 (.t 6)), gi 21 (.iad 21 19 (.t 20) 5), gi 22 (.lod 22 21 (some 5)), gi 23 (.mov 23 (.t 1)), ⟨.call 24 49 [.t 22, .t 23], some 24, none, true⟩, gi 25 (.bin 25 .add (.t 17) (.t 24)), gi 5 (.mov 5 (.t 25))]
def r_spec_estimateCost_5 : List GI := [gi 15 (.mov 15 (.t 6)), gi 16 (.bin 16 .add (.t 15) (.k (.v (.int .i64 1)))), gi 6 (.mov 6 (.t 16))]
def r_spec_estimateCost_6 : List GI := [gi 26 (.mov 26 (.t 5)), gi 4 (.mov 4 (.t 26))]
def dc_spec_estimateCost : DC := .seq (.reg r_spec_estimateCost_0 none) (.seq (.reg r_spec_estimateCost_1 none) (.seq (.seq (.reg r_spec_estimateCost_2 none) (.block 0 (.loop (.seq (.seq (.reg r_spec_estimateCost_3 none) (.cond (.t 14) .skip (.exit 0))) (.seq (.block 1 (.reg r_spec_estimateCost_4 none)) (.reg r_spec_estimateCost_5 none)))))) (.seq (.reg r_spec_estimateCost_6 none) .ret)))
theorem c_spec_estimateCost : cfun Try.prog [] 49 = some (27, dc_spec_estimateCost, [(Res.tmp 4)]) := by kernel_rfl
end
end Go.Proofs.Ytpfedjaedlfdfaa
