/-
  Functions of the program read as code on plain data. Closed facts of the program alone.
-/
import Derived.KernelRfl
import Derived.Test.YtpfedjaedlfdfaaRows
import Derived.Test.YtpfedjaedlfdfaaJSVCall
namespace Go.Proofs.Ytpfedjaedlfdfaa
open Go.RowKit
noncomputable section
def r_impl_PlanWidth_0 : List GI := [gi 2 (.box 2 2000002 (.t 0) (some 5)), gi 4 (.mov 4 (.k (.v (.int .i64 0))))]
def r_impl_PlanWidth_1 : List GI := [gi 5 (.mov 5 (.t 1)), ⟨.call 6 35 [.t 5], some 6, none, true⟩, gi 7 (.un 7 UnOp.not (.t 6))]
def r_impl_PlanWidth_2 : List GI := [gi 4 (.mov 4 (.k (.v (.int .i64 0))))]
def r_impl_PlanWidth_3 : List GI := [gi 8 (.lod 8 2 (some 5)), gi 9 (.mov 9 (.t 1)), ⟨.call 10 36 [.t 8, .t 9, .k (.v (.int .i64 8))], some 10, none, true⟩, gi 4 (.mov 4 (.t 10))]
def dc_impl_PlanWidth : DC := .seq (.reg r_impl_PlanWidth_0 none) (.seq (.seq (.reg r_impl_PlanWidth_1 none) (.cond (.t 7) (.seq (.reg r_impl_PlanWidth_2 none) .ret) .skip)) (.seq (.reg r_impl_PlanWidth_3 none) .ret))
theorem c_impl_PlanWidth : cfun Try.prog [] 13 = some (11, dc_impl_PlanWidth, [(Res.tmp 4)]) := by kernel_rfl
def r_spec_widthOf_0 : List GI := [gi 2 (.box 2 2000002 (.t 0) (some 5)), gi 4 (.mov 4 (.k (.v (.int .i64 0))))]
def r_spec_widthOf_1 : List GI := [gi 5 (.mov 5 (.t 1)), ⟨.call 6 53 [.t 5], some 6, none, true⟩, gi 7 (.un 7 UnOp.not (.t 6))]
def r_spec_widthOf_2 : List GI := [gi 4 (.mov 4 (.k (.v (.int .i64 0))))]
def r_spec_widthOf_3 : List GI := [gi 8 (.lod 8 2 (some 5)), gi 9 (.mov 9 (.t 1)), ⟨.call 10 54 [.t 8, .t 9, .k (.v (.int .i64 8))], some 10, none, true⟩, gi 4 (.mov 4 (.t 10))]
def dc_spec_widthOf : DC := .seq (.reg r_spec_widthOf_0 none) (.seq (.seq (.reg r_spec_widthOf_1 none) (.cond (.t 7) (.seq (.reg r_spec_widthOf_2 none) .ret) .skip)) (.seq (.reg r_spec_widthOf_3 none) .ret))
theorem c_spec_widthOf : cfun Try.prog [] 33 = some (11, dc_spec_widthOf, [(Res.tmp 4)]) := by kernel_rfl
end
end Go.Proofs.Ytpfedjaedlfdfaa
namespace Go.Proofs.Ytpfedjaedlfdfaa
open Go.RowKit
noncomputable section
def r_impl_widthWithin_0 : List GI := [gi 3 (.box 3 2000003 (.t 0) (some 5)), gi 6 (.mov 6 (.k (.v (.int .i64 0))))]
def r_impl_widthWithin_1 : List GI := [gi 11 (.mov 11 (.t 2)), gi 12 (.bin 12 .lss (.t 11) (.k (.v (.int .i64 0)))), gi 13 (.mov 13 (.t 12)), ⟨.lod 14 3 (some 5), some 14, some (13, false), false⟩, ⟨.call 15 56 [.t 14], some 15, some (13, false), true⟩, ⟨.un 16 UnOp.not (.t 15), some 16, some (13, false), false⟩, gi 17 (.pick 17 (.t 13) (.k (.v (.bool true))) (.t 16))]
def r_impl_widthWithin_2 : List GI := [gi 6 (.mov 6 (.k (.v (.int .i64 0))))]
def r_impl_widthWithin_3 : List GI := [gi 18 (.fad 18 3 0), gi 19 (.lod 19 18 none), gi 20 (.bin 20 .eql (.t 19) (.k (.v (.int .i64 1))))]
def r_impl_widthWithin_4 : List GI := [gi 21 (.fad 21 3 1), gi 22 (.lod 22 21 none), gi 23 (.bin 23 .lss (.t 22) (.k (.v (.int .i64 0)))), gi 24 (.mov 24 (.t 23)), ⟨.fad 25 3 1, some 25, some (24, false), false⟩, ⟨.lod 26 25 none, some 26, some (24, false), false⟩, ⟨.mov 27 (.t 1), some 27, some (24, false), false⟩, ⟨.len 28 (.t 27), some 28, some (24, false), false⟩, ⟨.bin 29 .geq (.t 26) (.t 28), some 29, some (24, false), false⟩, gi 30 (.pick 30 (.t 24) (.k (.v (.bool true))) (.t 29))]
def r_impl_widthWithin_5 : List GI := [gi 6 (.mov 6 (.k (.v (.int .i64 0))))]
def r_impl_widthWithin_6 : List GI := [gi 31 (.mov 31 (.t 1)), gi 32 (.fad 32 3 1), gi 33 (.lod 33 32 none), gi 34 (.iad 34 31 (.t 33) 1), gi 35 (.lod 35 34 none), gi 6 (.mov 6 (.t 35))]
def r_impl_widthWithin_7 : List GI := [gi 7 (.mov 7 (.k .nul))]
def r_impl_widthWithin_8 : List GI := [gi 36 (.fad 36 3 4), gi 37 (.lod 37 36 none), gi 38 (.len 38 (.t 37)), gi 39 (.mov 39 (.k (.v (.int .i64 0))))]
def r_impl_widthWithin_9 : List GI := [gi 40 (.bin 40 .lss (.t 39) (.t 38))]
def r_impl_widthWithin_10 : List GI := [gi 41 (.iad 41 37 (.t 39) 5), gi 42 (.lod 42 41 (some 5)), gi 9 (.alloc 9 2000009 [.v (.int .i64 0), .v (.int .i64 0), .nul, .nul, .nul]), g0 (.sto 9 (.t 42) (some 5))]
def r_impl_widthWithin_11 : List GI := [gi 43 (.lod 43 9 (some 5)), gi 44 (.mov 44 (.t 1)), gi 45 (.mov 45 (.t 2)), gi 46 (.bin 46 .sub (.t 45) (.k (.v (.int .i64 1)))), ⟨.call 47 36 [.t 43, .t 44, .t 46], some 47, none, true⟩, gi 10 (.mov 10 (.t 47))]
def r_impl_widthWithin_12 : List GI := [gi 48 (.mov 48 (.t 10)), gi 49 (.bin 49 .eql (.t 48) (.k (.v (.int .i64 0))))]
def r_impl_widthWithin_13 : List GI := [gi 6 (.mov 6 (.k (.v (.int .i64 0))))]
def r_impl_widthWithin_14 : List GI := [gi 50 (.mov 50 (.t 7)), gi 51 (.mov 51 (.t 10)), gi 52 (.bsl 52 1 none [.v (.int .i64 0)] [(0, .t 51)]), gi 53 (.app 53 2000053 (.t 50) (.t 52) 1 8), gi 7 (.mov 7 (.t 53))]
def r_impl_widthWithin_15 : List GI := [gi 54 (.bin 54 .add (.t 39) (.k (.v (.int .i64 1)))), gi 39 (.mov 39 (.t 54))]
def r_impl_widthWithin_16 : List GI := [gi 55 (.lod 55 3 (some 5)), gi 56 (.mov 56 (.t 7)), ⟨.call 57 57 [.t 55, .t 56], some 57, none, true⟩, gi 58 (.un 58 UnOp.not (.t 57))]
def r_impl_widthWithin_17 : List GI := [gi 6 (.mov 6 (.k (.v (.int .i64 0))))]
def r_impl_widthWithin_18 : List GI := [gi 59 (.lod 59 3 (some 5)), gi 60 (.mov 60 (.t 7)), ⟨.call 61 58 [.t 59, .t 60], some 61, none, true⟩, gi 6 (.mov 6 (.t 61))]
def dc_impl_widthWithin : DC := .seq (.reg r_impl_widthWithin_0 none) (.seq (.seq (.reg r_impl_widthWithin_1 none) (.cond (.t 17) (.seq (.reg r_impl_widthWithin_2 none) .ret) .skip)) (.seq (.seq (.reg r_impl_widthWithin_3 none) (.cond (.t 20) (.seq (.seq (.reg r_impl_widthWithin_4 none) (.cond (.t 30) (.seq (.reg r_impl_widthWithin_5 none) .ret) .skip)) (.seq (.reg r_impl_widthWithin_6 none) .ret)) .skip)) (.seq (.reg r_impl_widthWithin_7 none) (.seq (.seq (.reg r_impl_widthWithin_8 none) (.block 0 (.loop (.seq (.reg r_impl_widthWithin_9 none) (.seq (.cond (.t 40) .skip (.exit 0)) (.seq (.block 1 (.seq (.reg r_impl_widthWithin_10 none) (.seq (.reg r_impl_widthWithin_11 none) (.seq (.seq (.reg r_impl_widthWithin_12 none) (.cond (.t 49) (.seq (.reg r_impl_widthWithin_13 none) .ret) .skip)) (.reg r_impl_widthWithin_14 none))))) (.reg r_impl_widthWithin_15 none))))))) (.seq (.seq (.reg r_impl_widthWithin_16 none) (.cond (.t 58) (.seq (.reg r_impl_widthWithin_17 none) .ret) .skip)) (.seq (.reg r_impl_widthWithin_18 none) .ret))))))
theorem c_impl_widthWithin : cfun Try.prog [] 36 = some (62, dc_impl_widthWithin, [(Res.tmp 6)]) := by kernel_rfl
end
end Go.Proofs.Ytpfedjaedlfdfaa
