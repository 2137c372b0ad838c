/-
  Functions of the program read as code on plain data. Closed facts of the program alone.
-/
import Derived.KernelRfl
import Derived.Test.YtpfedjaedlfdfaaRows
import Derived.Test.YtpfedjaedlfdfaaJSVCall
namespace Go.Proofs.Ytpfedjaedlfdfaa
open Go.RowKit
noncomputable section
theorem mixed : Try.prog.follows .mixedOrders = true := by kernel_rfl
def r_impl_Value_valid_0 : List GI := [gi 1 (.box 1 2000001 (.t 0) (some 2)), gi 2 (.mov 2 (.k (.v (.bool false))))]
def r_impl_Value_valid_1 : List GI := [gi 3 (.fad 3 1 0), gi 4 (.lod 4 3 none)]
def r_impl_Value_valid_2 : List GI := [gi 5 (.fad 5 1 1), gi 6 (.lod 6 5 none), gi 7 (.bin 7 .eql (.t 6) (.k (.v (.int .i64 0)))), gi 2 (.mov 2 (.t 7))]
def r_impl_Value_valid_3 : List GI := [gi 8 (.fad 8 1 1), gi 9 (.lod 9 8 none), gi 10 (.bin 10 .leq (.k (.v (.int .i64 (-9999)))) (.t 9)), gi 11 (.mov 11 (.t 10)), ⟨.fad 12 1 1, some 12, some (11, true), false⟩, ⟨.lod 13 12 none, some 13, some (11, true), false⟩, ⟨.bin 14 .leq (.t 13) (.k (.v (.int .i64 9999))), some 14, some (11, true), false⟩, gi 15 (.pick 15 (.t 11) (.t 14) (.k (.v (.bool false)))), gi 2 (.mov 2 (.t 15))]
def dc_impl_Value_valid : DC := .seq (.reg r_impl_Value_valid_0 none) (.seq (.seq (.reg r_impl_Value_valid_1 none) (.cond (.t 4) (.seq (.reg r_impl_Value_valid_2 none) .ret) .skip)) (.seq (.reg r_impl_Value_valid_3 none) .ret))
theorem c_impl_Value_valid : cfun Try.prog [] 113 = some (16, dc_impl_Value_valid, [(Res.tmp 2)]) := by kernel_rfl
def r_impl_isColumn_0 : List GI := [gi 4 (.mov 4 (.k (.v (.bool false))))]
def r_impl_isColumn_1 : List GI := [gi 5 (.mov 5 (.t 0)), gi 6 (.bin 6 .leq (.k (.v (.int .i64 0))) (.t 5)), gi 7 (.mov 7 (.t 6)), ⟨.mov 8 (.t 0), some 8, some (7, true), false⟩, ⟨.mov 9 (.t 1), some 9, some (7, true), false⟩, ⟨.bin 10 .lss (.t 8) (.t 9), some 10, some (7, true), false⟩, gi 11 (.pick 11 (.t 7) (.t 10) (.k (.v (.bool false)))), gi 4 (.mov 4 (.t 11))]
def dc_impl_isColumn : DC := .seq (.reg r_impl_isColumn_0 none) (.seq (.reg r_impl_isColumn_1 none) .ret)
theorem c_impl_isColumn : cfun Try.prog [] 112 = some (12, dc_impl_isColumn, [(Res.tmp 4)]) := by kernel_rfl
def r_impl_validWidth_0 : List GI := [gi 2 (.mov 2 (.k (.v (.bool false))))]
def r_impl_validWidth_1 : List GI := [gi 3 (.mov 3 (.t 0)), gi 4 (.bin 4 .leq (.k (.v (.int .i64 1))) (.t 3)), gi 5 (.mov 5 (.t 4)), ⟨.mov 6 (.t 0), some 6, some (5, true), false⟩, ⟨.bin 7 .leq (.t 6) (.k (.v (.int .i64 6))), some 7, some (5, true), false⟩, gi 8 (.pick 8 (.t 5) (.t 7) (.k (.v (.bool false)))), gi 2 (.mov 2 (.t 8))]
def dc_impl_validWidth : DC := .seq (.reg r_impl_validWidth_0 none) (.seq (.reg r_impl_validWidth_1 none) .ret)
theorem c_impl_validWidth : cfun Try.prog [] 55 = some (9, dc_impl_validWidth, [(Res.tmp 2)]) := by kernel_rfl
def r_spec_inRange_0 : List GI := [gi 6 (.mov 6 (.k (.v (.bool false))))]
def r_spec_inRange_1 : List GI := [gi 7 (.mov 7 (.t 0)), gi 8 (.mov 8 (.t 1)), gi 9 (.bin 9 .geq (.t 7) (.t 8)), gi 10 (.mov 10 (.t 9)), ⟨.mov 11 (.t 0), some 11, some (10, true), false⟩, ⟨.mov 12 (.t 2), some 12, some (10, true), false⟩, ⟨.bin 13 .leq (.t 11) (.t 12), some 13, some (10, true), false⟩, gi 14 (.pick 14 (.t 10) (.t 13) (.k (.v (.bool false)))), gi 6 (.mov 6 (.t 14))]
def dc_spec_inRange : DC := .seq (.reg r_spec_inRange_0 none) (.seq (.reg r_spec_inRange_1 none) .ret)
theorem c_spec_inRange : cfun Try.prog [] 79 = some (15, dc_spec_inRange, [(Res.tmp 6)]) := by kernel_rfl
def r_spec_validValue_0 : List GI := [gi 1 (.box 1 2000001 (.t 0) (some 2)), gi 2 (.mov 2 (.k (.v (.bool false))))]
def r_spec_validValue_1 : List GI := [gi 3 (.fad 3 1 1), gi 4 (.lod 4 3 none), ⟨.call 5 79 [.t 4, .k (.v (.int .i64 (-9999))), .k (.v (.int .i64 9999))], some 5, none, true⟩, gi 6 (.mov 6 (.t 5)), ⟨.fad 7 1 0, some 7, some (6, true), false⟩, ⟨.lod 8 7 none, some 8, some (6, true), false⟩, ⟨.un 9 UnOp.not (.t 8), some 9, some (6, true), false⟩, ⟨.mov 10 (.t 9), some 10, some (6, true), false⟩, ⟨.fad 11 1 1, some 11, some (10, false), false⟩, ⟨.lod 12 11 none, some 12, some (10, false), false⟩, ⟨.bin 13 .eql (.t 12) (.k (.v (.int .i64 0))), some 13, some (10, false), false⟩, ⟨.pick 14 (.t 10) (.k (.v (.bool true))) (.t 13), some 14, some (6, true), false⟩, gi 15 (.pick 15 (.t 6) (.t 14) (.k (.v (.bool false)))), gi 2 (.mov 2 (.t 15))]
def dc_spec_validValue : DC := .seq (.reg r_spec_validValue_0 none) (.seq (.reg r_spec_validValue_1 none) .ret)
theorem c_spec_validValue : cfun Try.prog [] 110 = some (16, dc_spec_validValue, [(Res.tmp 2)]) := by kernel_rfl
def r_impl_ValidExpr_0 : List GI := [gi 2 (.box 2 2000002 (.t 0) (some 5)), gi 4 (.mov 4 (.k (.v (.bool false))))]
def r_impl_ValidExpr_1 : List GI := [gi 5 (.mov 5 (.t 1)), ⟨.call 6 55 [.t 5], some 6, none, true⟩, gi 7 (.mov 7 (.t 6)), ⟨.lod 8 2 (some 5), some 8, some (7, true), false⟩, ⟨.mov 9 (.t 1), some 9, some (7, true), false⟩, ⟨.call 10 102 [.t 8, .t 9, .k (.v (.int .i64 8))], some 10, some (7, true), true⟩, gi 11 (.pick 11 (.t 7) (.t 10) (.k (.v (.bool false)))), gi 4 (.mov 4 (.t 11))]
def dc_impl_ValidExpr : DC := .seq (.reg r_impl_ValidExpr_0 none) (.seq (.reg r_impl_ValidExpr_1 none) .ret)
theorem c_impl_ValidExpr : cfun Try.prog [] 86 = some (12, dc_impl_ValidExpr, [(Res.tmp 4)]) := by kernel_rfl
def r_impl_kidCount_0 : List GI := [gi 2 (.mov 2 (.k (.v (.int .i64 0))))]
def r_impl_kidCount_1 : List GI := [gi 4 (.mov 4 (.t 0)), gi 5 (.bin 5 .eql (.t 4) (.k (.v (.int .i64 1)))), gi 6 (.mov 6 (.t 5)), ⟨.mov 7 (.t 0), some 7, some (6, false), false⟩, ⟨.bin 8 .eql (.t 7) (.k (.v (.int .i64 2))), some 8, some (6, false), false⟩, gi 9 (.pick 9 (.t 6) (.k (.v (.bool true))) (.t 8)), gi 3 (.mov 3 (.t 9))]
def r_impl_kidCount_2 : List GI := [gi 2 (.mov 2 (.k (.v (.int .i64 0))))]
def r_impl_kidCount_3 : List GI := [gi 11 (.mov 11 (.t 0)), gi 12 (.bin 12 .eql (.t 11) (.k (.v (.int .i64 10)))), gi 13 (.mov 13 (.t 12)), ⟨.mov 14 (.t 0), some 14, some (13, false), false⟩, ⟨.bin 15 .eql (.t 14) (.k (.v (.int .i64 11))), some 15, some (13, false), false⟩, gi 16 (.pick 16 (.t 13) (.k (.v (.bool true))) (.t 15)), gi 10 (.mov 10 (.t 16))]
def r_impl_kidCount_4 : List GI := [gi 2 (.mov 2 (.k (.v (.int .i64 1))))]
def r_impl_kidCount_5 : List GI := [gi 18 (.mov 18 (.t 0)), gi 19 (.bin 19 .leq (.k (.v (.int .i64 3))) (.t 18)), gi 20 (.mov 20 (.t 19)), ⟨.mov 21 (.t 0), some 21, some (20, true), false⟩, ⟨.bin 22 .leq (.t 21) (.k (.v (.int .i64 9))), some 22, some (20, true), false⟩, gi 23 (.pick 23 (.t 20) (.t 22) (.k (.v (.bool false)))), gi 17 (.mov 17 (.t 23))]
def r_impl_kidCount_6 : List GI := [gi 2 (.mov 2 (.k (.v (.int .i64 2))))]
def r_impl_kidCount_7 : List GI := [gi 2 (.mov 2 (.k (.v (.int .i64 (-1)))))]
def dc_impl_kidCount : DC := .seq (.reg r_impl_kidCount_0 none) (.seq (.block 0 (.seq (.reg r_impl_kidCount_1 none) (.cond (.t 3) (.seq (.reg r_impl_kidCount_2 none) .ret) (.seq (.reg r_impl_kidCount_3 none) (.cond (.t 10) (.seq (.reg r_impl_kidCount_4 none) .ret) (.seq (.reg r_impl_kidCount_5 none) (.cond (.t 17) (.seq (.reg r_impl_kidCount_6 none) .ret) .skip))))))) (.seq (.reg r_impl_kidCount_7 none) .ret))
theorem c_impl_kidCount : cfun Try.prog [] 111 = some (24, dc_impl_kidCount, [(Res.tmp 2)]) := by kernel_rfl
def r_impl_validWithin_0 : List GI := [gi 3 (.box 3 2000003 (.t 0) (some 5)), gi 6 (.mov 6 (.k (.v (.bool false))))]
def r_impl_validWithin_1 : List GI := [gi 9 (.mov 9 (.t 2)), gi 10 (.bin 10 .lss (.t 9) (.k (.v (.int .i64 0)))), gi 11 (.mov 11 (.t 10)), ⟨.fad 12 3 4, some 12, some (11, false), false⟩, ⟨.lod 13 12 none, some 13, some (11, false), false⟩, ⟨.len 14 (.t 13), some 14, some (11, false), false⟩, ⟨.fad 15 3 0, some 15, some (11, false), false⟩, ⟨.lod 16 15 none, some 16, some (11, false), false⟩, ⟨.call 17 111 [.t 16], some 17, some (11, false), true⟩, ⟨.bin 18 .neq (.t 14) (.t 17), some 18, some (11, false), false⟩, gi 19 (.pick 19 (.t 11) (.k (.v (.bool true))) (.t 18))]
def r_impl_validWithin_2 : List GI := [gi 6 (.mov 6 (.k (.v (.bool false))))]
def r_impl_validWithin_3 : List GI := [gi 20 (.fad 20 3 0), gi 21 (.lod 21 20 none)]
def r_impl_validWithin_4 : List GI := [gi 23 (.bin 23 .eql (.t 21) (.k (.v (.int .i64 1)))), gi 22 (.mov 22 (.t 23))]
def r_impl_validWithin_5 : List GI := [gi 24 (.fad 24 3 1), gi 25 (.lod 25 24 none), gi 26 (.mov 26 (.t 1)), ⟨.call 27 112 [.t 25, .t 26], some 27, none, true⟩, gi 28 (.mov 28 (.t 27)), ⟨.fad 29 3 2, some 29, some (28, true), false⟩, ⟨.lod 30 29 (some 2), some 30, some (28, true), false⟩, ⟨.build 31 [.v (.bool false), .v (.int .i64 0)] [], some 31, some (28, true), false⟩, ⟨.eqs 32 false [false, true] (.t 30) (.t 31), some 32, some (28, true), false⟩, gi 33 (.pick 33 (.t 28) (.t 32) (.k (.v (.bool false)))), gi 6 (.mov 6 (.t 33))]
def r_impl_validWithin_6 : List GI := [gi 35 (.bin 35 .eql (.t 21) (.k (.v (.int .i64 2)))), gi 34 (.mov 34 (.t 35))]
def r_impl_validWithin_7 : List GI := [gi 36 (.fad 36 3 1), gi 37 (.lod 37 36 none), gi 38 (.bin 38 .eql (.t 37) (.k (.v (.int .i64 0)))), gi 39 (.mov 39 (.t 38)), ⟨.fad 40 3 2, some 40, some (39, true), false⟩, ⟨.lod 41 40 (some 2), some 41, some (39, true), false⟩, ⟨.call 42 113 [.t 41], some 42, some (39, true), true⟩, gi 43 (.pick 43 (.t 39) (.t 42) (.k (.v (.bool false)))), gi 6 (.mov 6 (.t 43))]
def r_impl_validWithin_8 : List GI := [gi 44 (.fad 44 3 1), gi 45 (.lod 45 44 none), gi 46 (.bin 46 .neq (.t 45) (.k (.v (.int .i64 0)))), gi 47 (.mov 47 (.t 46)), ⟨.fad 48 3 2, some 48, some (47, false), false⟩, ⟨.lod 49 48 (some 2), some 49, some (47, false), false⟩, ⟨.build 50 [.v (.bool false), .v (.int .i64 0)] [], some 50, some (47, false), false⟩, ⟨.eqs 51 true [false, true] (.t 49) (.t 50), some 51, some (47, false), false⟩, gi 52 (.pick 52 (.t 47) (.k (.v (.bool true))) (.t 51))]
def r_impl_validWithin_9 : List GI := [gi 6 (.mov 6 (.k (.v (.bool false))))]
def r_impl_validWithin_10 : List GI := [gi 53 (.fad 53 3 4), gi 54 (.lod 54 53 none), gi 55 (.len 55 (.t 54)), gi 56 (.mov 56 (.k (.v (.int .i64 0))))]
def r_impl_validWithin_11 : List GI := [gi 57 (.bin 57 .lss (.t 56) (.t 55))]
def r_impl_validWithin_12 : List GI := [gi 58 (.iad 58 54 (.t 56) 5), gi 59 (.lod 59 58 (some 5)), gi 8 (.alloc 8 2000008 [.v (.int .i64 0), .v (.int .i64 0), .v (.bool false), .v (.int .i64 0), .nul]), g0 (.sto 8 (.t 59) (some 5))]
def r_impl_validWithin_13 : List GI := [gi 60 (.lod 60 8 (some 5)), gi 61 (.mov 61 (.t 1)), gi 62 (.mov 62 (.t 2)), gi 63 (.bin 63 .sub (.t 62) (.k (.v (.int .i64 1)))), ⟨.call 64 102 [.t 60, .t 61, .t 63], some 64, none, true⟩, gi 65 (.un 65 UnOp.not (.t 64))]
def r_impl_validWithin_14 : List GI := [gi 6 (.mov 6 (.k (.v (.bool false))))]
def r_impl_validWithin_15 : List GI := [gi 66 (.bin 66 .add (.t 56) (.k (.v (.int .i64 1)))), gi 56 (.mov 56 (.t 66))]
def r_impl_validWithin_16 : List GI := [gi 6 (.mov 6 (.k (.v (.bool true))))]
def dc_impl_validWithin : DC := .seq (.reg r_impl_validWithin_0 none) (.seq (.seq (.reg r_impl_validWithin_1 (some [0, 1, 3, 7, 15, 31, 7, 71, 199, 511, 1023])) (.cond (.t 19) (.seq (.reg r_impl_validWithin_2 none) .ret) .skip)) (.seq (.seq (.reg r_impl_validWithin_3 none) (.block 0 (.seq (.reg r_impl_validWithin_4 none) (.cond (.t 22) (.seq (.reg r_impl_validWithin_5 none) .ret) (.seq (.reg r_impl_validWithin_6 none) (.cond (.t 34) (.seq (.reg r_impl_validWithin_7 none) .ret) .skip)))))) (.seq (.seq (.reg r_impl_validWithin_8 none) (.cond (.t 52) (.seq (.reg r_impl_validWithin_9 none) .ret) .skip)) (.seq (.seq (.reg r_impl_validWithin_10 none) (.block 1 (.loop (.seq (.reg r_impl_validWithin_11 none) (.seq (.cond (.t 57) .skip (.exit 1)) (.seq (.block 2 (.seq (.reg r_impl_validWithin_12 none) (.seq (.reg r_impl_validWithin_13 none) (.cond (.t 65) (.seq (.reg r_impl_validWithin_14 none) .ret) .skip)))) (.reg r_impl_validWithin_15 none))))))) (.seq (.reg r_impl_validWithin_16 none) .ret)))))
theorem c_impl_validWithin : cfun Try.prog [] 102 = some (67, dc_impl_validWithin, [(Res.tmp 6)]) := by kernel_rfl
def r_spec_kidsOf_0 : List GI := [gi 2 (.mov 2 (.k (.v (.int .i64 0))))]
def r_spec_kidsOf_1 : List GI := [gi 3 (.mov 3 (.t 0))]
def r_spec_kidsOf_2 : List GI := [gi 5 (.bin 5 .eql (.t 3) (.k (.v (.int .i64 1)))), gi 4 (.mov 4 (.t 5))]
def r_spec_kidsOf_3 : List GI := [gi 6 (.bin 6 .eql (.t 3) (.k (.v (.int .i64 2)))), gi 4 (.mov 4 (.t 6))]
def r_spec_kidsOf_4 : List GI := [gi 2 (.mov 2 (.k (.v (.int .i64 0))))]
def r_spec_kidsOf_5 : List GI := [gi 8 (.bin 8 .eql (.t 3) (.k (.v (.int .i64 10)))), gi 7 (.mov 7 (.t 8))]
def r_spec_kidsOf_6 : List GI := [gi 9 (.bin 9 .eql (.t 3) (.k (.v (.int .i64 11)))), gi 7 (.mov 7 (.t 9))]
def r_spec_kidsOf_7 : List GI := [gi 2 (.mov 2 (.k (.v (.int .i64 1))))]
def r_spec_kidsOf_8 : List GI := [gi 11 (.bin 11 .eql (.t 3) (.k (.v (.int .i64 3)))), gi 10 (.mov 10 (.t 11))]
def r_spec_kidsOf_9 : List GI := [gi 12 (.bin 12 .eql (.t 3) (.k (.v (.int .i64 4)))), gi 10 (.mov 10 (.t 12))]
def r_spec_kidsOf_10 : List GI := [gi 13 (.bin 13 .eql (.t 3) (.k (.v (.int .i64 5)))), gi 10 (.mov 10 (.t 13))]
def r_spec_kidsOf_11 : List GI := [gi 14 (.bin 14 .eql (.t 3) (.k (.v (.int .i64 6)))), gi 10 (.mov 10 (.t 14))]
def r_spec_kidsOf_12 : List GI := [gi 15 (.bin 15 .eql (.t 3) (.k (.v (.int .i64 7)))), gi 10 (.mov 10 (.t 15))]
def r_spec_kidsOf_13 : List GI := [gi 16 (.bin 16 .eql (.t 3) (.k (.v (.int .i64 8)))), gi 10 (.mov 10 (.t 16))]
def r_spec_kidsOf_14 : List GI := [gi 17 (.bin 17 .eql (.t 3) (.k (.v (.int .i64 9)))), gi 10 (.mov 10 (.t 17))]
def r_spec_kidsOf_15 : List GI := [gi 2 (.mov 2 (.k (.v (.int .i64 2))))]
def r_spec_kidsOf_16 : List GI := [gi 2 (.mov 2 (.k (.v (.int .i64 (-1)))))]
def dc_spec_kidsOf : DC := .seq (.reg r_spec_kidsOf_0 none) (.seq (.seq (.reg r_spec_kidsOf_1 none) (.block 0 (.seq (.seq (.reg r_spec_kidsOf_2 none) (.cond (.t 4) .skip (.reg r_spec_kidsOf_3 none))) (.cond (.t 4) (.seq (.reg r_spec_kidsOf_4 none) .ret) (.seq (.seq (.reg r_spec_kidsOf_5 none) (.cond (.t 7) .skip (.reg r_spec_kidsOf_6 none))) (.cond (.t 7) (.seq (.reg r_spec_kidsOf_7 none) .ret) (.seq (.seq (.reg r_spec_kidsOf_8 none) (.cond (.t 10) .skip (.seq (.reg r_spec_kidsOf_9 none) (.cond (.t 10) .skip (.seq (.reg r_spec_kidsOf_10 none) (.cond (.t 10) .skip (.seq (.reg r_spec_kidsOf_11 none) (.cond (.t 10) .skip (.seq (.reg r_spec_kidsOf_12 none) (.cond (.t 10) .skip (.seq (.reg r_spec_kidsOf_13 none) (.cond (.t 10) .skip (.reg r_spec_kidsOf_14 none))))))))))))) (.cond (.t 10) (.seq (.reg r_spec_kidsOf_15 none) .ret) .skip)))))))) (.seq (.reg r_spec_kidsOf_16 none) .ret))
theorem c_spec_kidsOf : cfun Try.prog [] 109 = some (18, dc_spec_kidsOf, [(Res.tmp 2)]) := by kernel_rfl
def r_spec_toInt_0 : List GI := [gi 2 (.mov 2 (.k (.v (.int .i64 0))))]
def r_spec_toInt_1 : List GI := [gi 3 (.mov 3 (.t 0))]
def r_spec_toInt_2 : List GI := [gi 2 (.mov 2 (.k (.v (.int .i64 1))))]
def r_spec_toInt_3 : List GI := [gi 2 (.mov 2 (.k (.v (.int .i64 0))))]
def dc_spec_toInt : DC := .seq (.reg r_spec_toInt_0 none) (.seq (.seq (.reg r_spec_toInt_1 none) (.cond (.t 3) (.seq (.reg r_spec_toInt_2 none) .ret) .skip)) (.seq (.reg r_spec_toInt_3 none) .ret))
theorem c_spec_toInt : cfun Try.prog [] 93 = some (4, dc_spec_toInt, [(Res.tmp 2)]) := by kernel_rfl
def r_spec_ValidExpr_0 : List GI := [gi 2 (.box 2 2000002 (.t 0) (some 5)), gi 4 (.mov 4 (.k (.v (.bool false))))]
def r_spec_ValidExpr_1 : List GI := [gi 5 (.mov 5 (.t 1)), ⟨.call 6 79 [.t 5, .k (.v (.int .i64 1)), .k (.v (.int .i64 6))], some 6, none, true⟩, gi 7 (.mov 7 (.t 6)), ⟨.lod 8 2 (some 5), some 8, some (7, true), false⟩, ⟨.mov 9 (.t 1), some 9, some (7, true), false⟩, ⟨.call 10 101 [.t 8, .t 9, .k (.v (.int .i64 8))], some 10, some (7, true), true⟩, gi 11 (.pick 11 (.t 7) (.t 10) (.k (.v (.bool false)))), gi 4 (.mov 4 (.t 11))]
def dc_spec_ValidExpr : DC := .seq (.reg r_spec_ValidExpr_0 none) (.seq (.reg r_spec_ValidExpr_1 none) .ret)
theorem c_spec_ValidExpr : cfun Try.prog [] 81 = some (12, dc_spec_ValidExpr, [(Res.tmp 4)]) := by kernel_rfl
def r_spec_validExpr_0 : List GI := [gi 3 (.box 3 2000003 (.t 0) (some 5)), gi 6 (.mov 6 (.k (.v (.bool false))))]
def r_spec_validExpr_1 : List GI := [gi 8 (.fad 8 3 4), gi 9 (.lod 9 8 none), gi 10 (.len 10 (.t 9)), gi 11 (.fad 11 3 0), gi 12 (.lod 12 11 none), ⟨.call 13 109 [.t 12], some 13, none, true⟩, gi 14 (.bin 14 .neq (.t 10) (.t 13)), gi 15 (.mov 15 (.t 14)), ⟨.fad 16 3 4, some 16, some (15, false), false⟩, ⟨.lod 17 16 none, some 17, some (15, false), false⟩, ⟨.len 18 (.t 17), some 18, some (15, false), false⟩, ⟨.bin 19 .gtr (.t 18) (.k (.v (.int .i64 0))), some 19, some (15, false), false⟩, ⟨.mov 20 (.t 19), some 20, some (15, false), false⟩, ⟨.mov 21 (.t 2), some 21, some (20, true), false⟩, ⟨.bin 22 .eql (.t 21) (.k (.v (.int .i64 0))), some 22, some (20, true), false⟩, ⟨.pick 23 (.t 20) (.t 22) (.k (.v (.bool false))), some 23, some (15, false), false⟩, gi 24 (.pick 24 (.t 15) (.k (.v (.bool true))) (.t 23))]
def r_spec_validExpr_2 : List GI := [gi 6 (.mov 6 (.k (.v (.bool false))))]
def r_spec_validExpr_3 : List GI := [gi 7 (.mov 7 (.k (.v (.int .i64 0))))]
def r_spec_validExpr_4 : List GI := [gi 25 (.mov 25 (.t 7)), gi 26 (.fad 26 3 4), gi 27 (.lod 27 26 none), gi 28 (.len 28 (.t 27)), gi 29 (.bin 29 .lss (.t 25) (.t 28))]
def r_spec_validExpr_5 : List GI := [gi 32 (.fad 32 3 4), gi 33 (.lod 33 32 none), gi 34 (.mov 34 (.t 7)), gi 35 (.iad 35 33 (.t 34) 5), gi 36 (.lod 36 35 (some 5)), gi 37 (.mov 37 (.t 1)), gi 38 (.mov 38 (.t 2)), gi 39 (.bin 39 .sub (.t 38) (.k (.v (.int .i64 1)))), ⟨.call 40 101 [.t 36, .t 37, .t 39], some 40, none, true⟩, gi 41 (.un 41 UnOp.not (.t 40))]
def r_spec_validExpr_6 : List GI := [gi 6 (.mov 6 (.k (.v (.bool false))))]
def r_spec_validExpr_7 : List GI := [gi 30 (.mov 30 (.t 7)), gi 31 (.bin 31 .add (.t 30) (.k (.v (.int .i64 1)))), gi 7 (.mov 7 (.t 31))]
def r_spec_validExpr_8 : List GI := [gi 42 (.fad 42 3 0), gi 43 (.lod 43 42 none)]
def r_spec_validExpr_9 : List GI := [gi 45 (.bin 45 .eql (.t 43) (.k (.v (.int .i64 1)))), gi 44 (.mov 44 (.t 45))]
def r_spec_validExpr_10 : List GI := [gi 46 (.fad 46 3 1), gi 47 (.lod 47 46 none), gi 48 (.mov 48 (.t 1)), gi 49 (.bin 49 .sub (.t 48) (.k (.v (.int .i64 1)))), ⟨.call 50 79 [.t 47, .k (.v (.int .i64 0)), .t 49], some 50, none, true⟩, gi 51 (.mov 51 (.t 50)), ⟨.fad 52 3 2, some 52, some (51, true), false⟩, ⟨.lod 53 52 (some 2), some 53, some (51, true), false⟩, ⟨.build 54 [.v (.bool false), .v (.int .i64 0)] [], some 54, some (51, true), false⟩, ⟨.eqs 55 false [false, true] (.t 53) (.t 54), some 55, some (51, true), false⟩, gi 56 (.pick 56 (.t 51) (.t 55) (.k (.v (.bool false)))), gi 6 (.mov 6 (.t 56))]
def r_spec_validExpr_11 : List GI := [gi 58 (.bin 58 .eql (.t 43) (.k (.v (.int .i64 2)))), gi 57 (.mov 57 (.t 58))]
def r_spec_validExpr_12 : List GI := [gi 59 (.fad 59 3 1), gi 60 (.lod 60 59 none), gi 61 (.bin 61 .eql (.t 60) (.k (.v (.int .i64 0)))), gi 62 (.mov 62 (.t 61)), ⟨.fad 63 3 2, some 63, some (62, true), false⟩, ⟨.lod 64 63 (some 2), some 64, some (62, true), false⟩, ⟨.call 65 110 [.t 64], some 65, some (62, true), true⟩, gi 66 (.pick 66 (.t 62) (.t 65) (.k (.v (.bool false)))), gi 6 (.mov 6 (.t 66))]
def r_spec_validExpr_13 : List GI := [gi 67 (.fad 67 3 1), gi 68 (.lod 68 67 none), gi 69 (.bin 69 .eql (.t 68) (.k (.v (.int .i64 0)))), gi 70 (.mov 70 (.t 69)), ⟨.fad 71 3 2, some 71, some (70, true), false⟩, ⟨.lod 72 71 (some 2), some 72, some (70, true), false⟩, ⟨.build 73 [.v (.bool false), .v (.int .i64 0)] [], some 73, some (70, true), false⟩, ⟨.eqs 74 false [false, true] (.t 72) (.t 73), some 74, some (70, true), false⟩, gi 75 (.pick 75 (.t 70) (.t 74) (.k (.v (.bool false)))), gi 6 (.mov 6 (.t 75))]
def dc_spec_validExpr : DC := .seq (.reg r_spec_validExpr_0 none) (.seq (.seq (.reg r_spec_validExpr_1 (some [0, 1, 3, 0, 8, 24, 63, 127, 255, 511, 1023, 2047, 4095, 8191, 16383, 32767, 65535])) (.cond (.t 24) (.seq (.reg r_spec_validExpr_2 none) .ret) .skip)) (.seq (.seq (.reg r_spec_validExpr_3 none) (.block 0 (.loop (.seq (.seq (.reg r_spec_validExpr_4 none) (.cond (.t 29) .skip (.exit 0))) (.seq (.block 1 (.seq (.reg r_spec_validExpr_5 none) (.cond (.t 41) (.seq (.reg r_spec_validExpr_6 none) .ret) .skip))) (.reg r_spec_validExpr_7 none)))))) (.seq (.seq (.reg r_spec_validExpr_8 none) (.block 2 (.seq (.reg r_spec_validExpr_9 none) (.cond (.t 44) (.seq (.reg r_spec_validExpr_10 none) .ret) (.seq (.reg r_spec_validExpr_11 none) (.cond (.t 57) (.seq (.reg r_spec_validExpr_12 none) .ret) .skip)))))) (.seq (.reg r_spec_validExpr_13 none) .ret))))
theorem c_spec_validExpr : cfun Try.prog [] 101 = some (76, dc_spec_validExpr, [(Res.tmp 6)]) := by kernel_rfl
def r_spec_truth_0 : List GI := [gi 1 (.box 1 2000001 (.t 0) (some 2)), gi 2 (.mov 2 (.k (.v (.int .i64 0))))]
def r_spec_truth_1 : List GI := [gi 4 (.fad 4 1 0), gi 5 (.lod 5 4 none), gi 3 (.mov 3 (.t 5))]
def r_spec_truth_2 : List GI := [gi 2 (.mov 2 (.k (.v (.int .i64 2))))]
def r_spec_truth_3 : List GI := [gi 7 (.fad 7 1 1), gi 8 (.lod 8 7 none), gi 9 (.bin 9 .eql (.t 8) (.k (.v (.int .i64 0)))), gi 6 (.mov 6 (.t 9))]
def r_spec_truth_4 : List GI := [gi 2 (.mov 2 (.k (.v (.int .i64 0))))]
def r_spec_truth_5 : List GI := [gi 2 (.mov 2 (.k (.v (.int .i64 1))))]
def dc_spec_truth : DC := .seq (.reg r_spec_truth_0 none) (.seq (.block 0 (.seq (.reg r_spec_truth_1 none) (.cond (.t 3) (.seq (.reg r_spec_truth_2 none) .ret) (.seq (.reg r_spec_truth_3 none) (.cond (.t 6) (.seq (.reg r_spec_truth_4 none) .ret) .skip))))) (.seq (.reg r_spec_truth_5 none) .ret))
theorem c_spec_truth : cfun Try.prog [] 94 = some (10, dc_spec_truth, [(Res.tmp 2)]) := by kernel_rfl
def r_impl_rowBounds_distinct_0 : List GI := [gi 3 (.box 3 2000003 (.t 0) (some 1)), gi 4 (.box 4 2000004 (.t 1) (some 5)), gi 6 (.mov 6 (.k (.v (.int .i64 0))))]
def r_impl_rowBounds_distinct_1 : List GI := [gi 7 (.mov 7 (.t 2)), gi 6 (.mov 6 (.t 7))]
def dc_impl_rowBounds_distinct : DC := .seq (.reg r_impl_rowBounds_distinct_0 none) (.seq (.reg r_impl_rowBounds_distinct_1 none) .ret)
theorem c_impl_rowBounds_distinct : cfun Try.prog [] 145 = some (8, dc_impl_rowBounds_distinct, [(Res.tmp 6)]) := by kernel_rfl
def r_impl_rowBounds_group_0 : List GI := [gi 3 (.box 3 2000003 (.t 0) (some 1)), gi 4 (.box 4 2000004 (.t 1) (some 5)), gi 6 (.mov 6 (.k (.v (.int .i64 0))))]
def r_impl_rowBounds_group_1 : List GI := [gi 7 (.fad 7 4 3), gi 8 (.lod 8 7 none), gi 9 (.len 9 (.t 8)), gi 10 (.bin 10 .eql (.t 9) (.k (.v (.int .i64 0))))]
def r_impl_rowBounds_group_2 : List GI := [gi 11 (.mov 11 (.t 2)), gi 12 (.mm 12 false (.t 11) (.k (.v (.int .i64 1)))), gi 6 (.mov 6 (.t 12))]
def r_impl_rowBounds_group_3 : List GI := [gi 13 (.mov 13 (.t 2)), gi 6 (.mov 6 (.t 13))]
def dc_impl_rowBounds_group : DC := .seq (.reg r_impl_rowBounds_group_0 none) (.seq (.seq (.reg r_impl_rowBounds_group_1 none) (.cond (.t 10) (.seq (.reg r_impl_rowBounds_group_2 none) .ret) .skip)) (.seq (.reg r_impl_rowBounds_group_3 none) .ret))
theorem c_impl_rowBounds_group : cfun Try.prog [] 147 = some (14, dc_impl_rowBounds_group, [(Res.tmp 6)]) := by kernel_rfl
def r_impl_rowBounds_join_0 : List GI := [gi 4 (.box 4 2000004 (.t 0) (some 1)), gi 5 (.box 5 2000005 (.t 1) (some 5)), gi 8 (.mov 8 (.k (.v (.int .i64 0))))]
def r_impl_rowBounds_join_1 : List GI := [gi 9 (.mov 9 (.t 2)), gi 10 (.mov 10 (.t 3)), gi 11 (.bin 11 .mul (.t 9) (.t 10)), gi 12 (.mm 12 false (.t 11) (.k (.v (.int .i64 1000000000)))), gi 8 (.mov 8 (.t 12))]
def dc_impl_rowBounds_join : DC := .seq (.reg r_impl_rowBounds_join_0 none) (.seq (.reg r_impl_rowBounds_join_1 none) .ret)
theorem c_impl_rowBounds_join : cfun Try.prog [] 148 = some (13, dc_impl_rowBounds_join, [(Res.tmp 8)]) := by kernel_rfl
def r_impl_rowBounds_project_0 : List GI := [gi 3 (.box 3 2000003 (.t 0) (some 1)), gi 4 (.box 4 2000004 (.t 1) (some 5)), gi 6 (.mov 6 (.k (.v (.int .i64 0))))]
def r_impl_rowBounds_project_1 : List GI := [gi 7 (.mov 7 (.t 2)), gi 6 (.mov 6 (.t 7))]
def dc_impl_rowBounds_project : DC := .seq (.reg r_impl_rowBounds_project_0 none) (.seq (.reg r_impl_rowBounds_project_1 none) .ret)
theorem c_impl_rowBounds_project : cfun Try.prog [] 150 = some (8, dc_impl_rowBounds_project, [(Res.tmp 6)]) := by kernel_rfl
def r_impl_rowBounds_scan_0 : List GI := [gi 2 (.box 2 2000002 (.t 0) (some 1)), gi 3 (.box 3 2000003 (.t 1) (some 5)), gi 4 (.mov 4 (.k (.v (.int .i64 0))))]
def r_impl_rowBounds_scan_1 : List GI := [gi 5 (.fad 5 2 0), gi 6 (.lod 6 5 none), gi 7 (.fad 7 3 1), gi 8 (.lod 8 7 none), gi 9 (.iad 9 6 (.t 8) 1), gi 10 (.lod 10 9 none), gi 4 (.mov 4 (.t 10))]
def dc_impl_rowBounds_scan : DC := .seq (.reg r_impl_rowBounds_scan_0 none) (.seq (.reg r_impl_rowBounds_scan_1 none) .ret)
theorem c_impl_rowBounds_scan : cfun Try.prog [] 151 = some (11, dc_impl_rowBounds_scan, [(Res.tmp 4)]) := by kernel_rfl
def r_impl_rowBounds_union_0 : List GI := [gi 4 (.box 4 2000004 (.t 0) (some 1)), gi 5 (.box 5 2000005 (.t 1) (some 5)), gi 8 (.mov 8 (.k (.v (.int .i64 0))))]
def r_impl_rowBounds_union_1 : List GI := [gi 9 (.mov 9 (.t 2)), gi 10 (.mov 10 (.t 3)), gi 11 (.bin 11 .add (.t 9) (.t 10)), gi 12 (.mm 12 false (.t 11) (.k (.v (.int .i64 1000000000)))), gi 8 (.mov 8 (.t 12))]
def dc_impl_rowBounds_union : DC := .seq (.reg r_impl_rowBounds_union_0 none) (.seq (.reg r_impl_rowBounds_union_1 none) .ret)
theorem c_impl_rowBounds_union : cfun Try.prog [] 152 = some (13, dc_impl_rowBounds_union, [(Res.tmp 8)]) := by kernel_rfl
def r_impl_ValidStats_0 : List GI := [gi 2 (.box 2 2000002 (.t 0) (some 3)), gi 4 (.mov 4 (.k (.v (.bool false))))]
def r_impl_ValidStats_1 : List GI := [gi 7 (.mov 7 (.t 1)), ⟨.call 8 55 [.t 7], some 8, none, true⟩, gi 9 (.un 9 UnOp.not (.t 8)), gi 10 (.mov 10 (.t 9)), ⟨.fad 11 2 1, some 11, some (10, false), false⟩, ⟨.lod 12 11 none, some 12, some (10, false), false⟩, ⟨.len 13 (.t 12), some 13, some (10, false), false⟩, ⟨.mov 14 (.t 1), some 14, some (10, false), false⟩, ⟨.bin 15 .neq (.t 13) (.t 14), some 15, some (10, false), false⟩, gi 16 (.pick 16 (.t 10) (.k (.v (.bool true))) (.t 15)), gi 17 (.mov 17 (.t 16)), ⟨.fad 18 2 2, some 18, some (17, false), false⟩, ⟨.lod 19 18 none, some 19, some (17, false), false⟩, ⟨.len 20 (.t 19), some 20, some (17, false), false⟩, ⟨.mov 21 (.t 1), some 21, some (17, false), false⟩, ⟨.bin 22 .neq (.t 20) (.t 21), some 22, some (17, false), false⟩, gi 23 (.pick 23 (.t 17) (.k (.v (.bool true))) (.t 22))]
def r_impl_ValidStats_2 : List GI := [gi 4 (.mov 4 (.k (.v (.bool false))))]
def r_impl_ValidStats_3 : List GI := [gi 24 (.fad 24 2 0), gi 25 (.lod 25 24 none), gi 26 (.bin 26 .lss (.t 25) (.k (.v (.int .i64 0)))), gi 27 (.mov 27 (.t 26)), ⟨.fad 28 2 0, some 28, some (27, false), false⟩, ⟨.lod 29 28 none, some 29, some (27, false), false⟩, ⟨.bin 30 .gtr (.t 29) (.k (.v (.int .i64 400))), some 30, some (27, false), false⟩, gi 31 (.pick 31 (.t 27) (.k (.v (.bool true))) (.t 30))]
def r_impl_ValidStats_4 : List GI := [gi 4 (.mov 4 (.k (.v (.bool false))))]
def r_impl_ValidStats_5 : List GI := [gi 32 (.fad 32 2 2), gi 33 (.lod 33 32 none), gi 34 (.len 34 (.t 33)), gi 35 (.mov 35 (.k (.v (.int .i64 0))))]
def r_impl_ValidStats_6 : List GI := [gi 36 (.bin 36 .lss (.t 35) (.t 34))]
def r_impl_ValidStats_7 : List GI := [gi 37 (.mov 37 (.t 35)), gi 38 (.iad 38 33 (.t 35) 1), gi 39 (.lod 39 38 none), gi 5 (.mov 5 (.t 37)), gi 6 (.mov 6 (.t 39))]
def r_impl_ValidStats_8 : List GI := [gi 40 (.mov 40 (.t 6)), gi 41 (.bin 41 .lss (.t 40) (.k (.v (.int .i64 0)))), gi 42 (.mov 42 (.t 41)), ⟨.mov 43 (.t 6), some 43, some (42, false), false⟩, ⟨.fad 44 2 0, some 44, some (42, false), false⟩, ⟨.lod 45 44 none, some 45, some (42, false), false⟩, ⟨.bin 46 .gtr (.t 43) (.t 45), some 46, some (42, false), false⟩, gi 47 (.pick 47 (.t 42) (.k (.v (.bool true))) (.t 46)), gi 48 (.mov 48 (.t 47)), ⟨.fad 49 2 1, some 49, some (48, false), false⟩, ⟨.lod 50 49 none, some 50, some (48, false), false⟩, ⟨.mov 51 (.t 5), some 51, some (48, false), false⟩, ⟨.iad 52 50 (.t 51) 1, some 52, some (48, false), false⟩, ⟨.lod 53 52 none, some 53, some (48, false), false⟩, ⟨.bin 54 .lss (.t 53) (.k (.v (.int .i64 0))), some 54, some (48, false), false⟩, gi 55 (.pick 55 (.t 48) (.k (.v (.bool true))) (.t 54)), gi 56 (.mov 56 (.t 55)), ⟨.fad 57 2 1, some 57, some (56, false), false⟩, ⟨.lod 58 57 none, some 58, some (56, false), false⟩, ⟨.mov 59 (.t 5), some 59, some (56, false), false⟩, ⟨.iad 60 58 (.t 59) 1, some 60, some (56, false), false⟩, ⟨.lod 61 60 none, some 61, some (56, false), false⟩, ⟨.fad 62 2 0, some 62, some (56, false), false⟩, ⟨.lod 63 62 none, some 63, some (56, false), false⟩, ⟨.mov 64 (.t 6), some 64, some (56, false), false⟩, ⟨.bin 65 .sub (.t 63) (.t 64), some 65, some (56, false), false⟩, ⟨.bin 66 .gtr (.t 61) (.t 65), some 66, some (56, false), false⟩, gi 67 (.pick 67 (.t 56) (.k (.v (.bool true))) (.t 66))]
def r_impl_ValidStats_9 : List GI := [gi 4 (.mov 4 (.k (.v (.bool false))))]
def r_impl_ValidStats_10 : List GI := [gi 68 (.bin 68 .add (.t 35) (.k (.v (.int .i64 1)))), gi 35 (.mov 35 (.t 68))]
def r_impl_ValidStats_11 : List GI := [gi 4 (.mov 4 (.k (.v (.bool true))))]
def dc_impl_ValidStats : DC := .seq (.reg r_impl_ValidStats_0 none) (.seq (.seq (.reg r_impl_ValidStats_1 none) (.cond (.t 23) (.seq (.reg r_impl_ValidStats_2 none) .ret) .skip)) (.seq (.seq (.reg r_impl_ValidStats_3 none) (.cond (.t 31) (.seq (.reg r_impl_ValidStats_4 none) .ret) .skip)) (.seq (.seq (.reg r_impl_ValidStats_5 none) (.block 0 (.loop (.seq (.reg r_impl_ValidStats_6 none) (.seq (.cond (.t 36) .skip (.exit 0)) (.seq (.block 1 (.seq (.reg r_impl_ValidStats_7 none) (.seq (.reg r_impl_ValidStats_8 (some [0, 1, 3, 7, 7, 23, 63, 127, 255, 511, 1023, 511, 4095, 8191, 16383, 32767, 65535, 131071, 262143, 131071, 1048575, 2097151, 131071, 4325375, 131071, 29491199, 67108863, 134217727])) (.cond (.t 67) (.seq (.reg r_impl_ValidStats_9 none) .ret) .skip)))) (.reg r_impl_ValidStats_10 none))))))) (.seq (.reg r_impl_ValidStats_11 none) .ret))))
theorem c_impl_ValidStats : cfun Try.prog [] 68 = some (69, dc_impl_ValidStats, [(Res.tmp 4)]) := by kernel_rfl
def r_spec_ValidStats_0 : List GI := [gi 2 (.box 2 2000002 (.t 0) (some 3)), gi 4 (.mov 4 (.k (.v (.bool false))))]
def r_spec_ValidStats_1 : List GI := [gi 5 (.mov 5 (.t 1)), ⟨.call 6 79 [.t 5, .k (.v (.int .i64 1)), .k (.v (.int .i64 6))], some 6, none, true⟩, gi 7 (.mov 7 (.t 6)), ⟨.lod 8 2 (some 3), some 8, some (7, true), false⟩, ⟨.mov 9 (.t 1), some 9, some (7, true), false⟩, ⟨.call 10 92 [.t 8, .t 9], some 10, some (7, true), true⟩, gi 11 (.pick 11 (.t 7) (.t 10) (.k (.v (.bool false)))), gi 4 (.mov 4 (.t 11))]
def dc_spec_ValidStats : DC := .seq (.reg r_spec_ValidStats_0 none) (.seq (.reg r_spec_ValidStats_1 none) .ret)
theorem c_spec_ValidStats : cfun Try.prog [] 72 = some (12, dc_spec_ValidStats, [(Res.tmp 4)]) := by kernel_rfl
def r_spec_validStats_0 : List GI := [gi 2 (.box 2 2000002 (.t 0) (some 3)), gi 4 (.mov 4 (.k (.v (.bool false))))]
def r_spec_validStats_1 : List GI := [gi 6 (.fad 6 2 0), gi 7 (.lod 7 6 none), ⟨.call 8 79 [.t 7, .k (.v (.int .i64 0)), .k (.v (.int .i64 400))], some 8, none, true⟩, gi 9 (.un 9 UnOp.not (.t 8)), gi 10 (.mov 10 (.t 9)), ⟨.fad 11 2 1, some 11, some (10, false), false⟩, ⟨.lod 12 11 none, some 12, some (10, false), false⟩, ⟨.len 13 (.t 12), some 13, some (10, false), false⟩, ⟨.mov 14 (.t 1), some 14, some (10, false), false⟩, ⟨.bin 15 .neq (.t 13) (.t 14), some 15, some (10, false), false⟩, gi 16 (.pick 16 (.t 10) (.k (.v (.bool true))) (.t 15)), gi 17 (.mov 17 (.t 16)), ⟨.fad 18 2 2, some 18, some (17, false), false⟩, ⟨.lod 19 18 none, some 19, some (17, false), false⟩, ⟨.len 20 (.t 19), some 20, some (17, false), false⟩, ⟨.mov 21 (.t 1), some 21, some (17, false), false⟩, ⟨.bin 22 .neq (.t 20) (.t 21), some 22, some (17, false), false⟩, gi 23 (.pick 23 (.t 17) (.k (.v (.bool true))) (.t 22))]
def r_spec_validStats_2 : List GI := [gi 4 (.mov 4 (.k (.v (.bool false))))]
def r_spec_validStats_3 : List GI := [gi 5 (.mov 5 (.k (.v (.int .i64 0))))]
def r_spec_validStats_4 : List GI := [gi 24 (.mov 24 (.t 5)), gi 25 (.mov 25 (.t 1)), gi 26 (.bin 26 .lss (.t 24) (.t 25))]
def r_spec_validStats_5 : List GI := [gi 29 (.fad 29 2 2), gi 30 (.lod 30 29 none), gi 31 (.mov 31 (.t 5)), gi 32 (.iad 32 30 (.t 31) 1), gi 33 (.lod 33 32 none), gi 34 (.fad 34 2 0), gi 35 (.lod 35 34 none), ⟨.call 36 79 [.t 33, .k (.v (.int .i64 0)), .t 35], some 36, none, true⟩, gi 37 (.un 37 UnOp.not (.t 36)), gi 38 (.mov 38 (.t 37)), ⟨.fad 39 2 1, some 39, some (38, false), false⟩, ⟨.lod 40 39 none, some 40, some (38, false), false⟩, ⟨.mov 41 (.t 5), some 41, some (38, false), false⟩, ⟨.iad 42 40 (.t 41) 1, some 42, some (38, false), false⟩, ⟨.lod 43 42 none, some 43, some (38, false), false⟩, ⟨.fad 44 2 0, some 44, some (38, false), false⟩, ⟨.lod 45 44 none, some 45, some (38, false), false⟩, ⟨.fad 46 2 2, some 46, some (38, false), false⟩, ⟨.lod 47 46 none, some 47, some (38, false), false⟩, ⟨.mov 48 (.t 5), some 48, some (38, false), false⟩, ⟨.iad 49 47 (.t 48) 1, some 49, some (38, false), false⟩, ⟨.lod 50 49 none, some 50, some (38, false), false⟩, ⟨.bin 51 .sub (.t 45) (.t 50), some 51, some (38, false), false⟩, ⟨.call 52 79 [.t 43, .k (.v (.int .i64 0)), .t 51], some 52, some (38, false), true⟩, ⟨.un 53 UnOp.not (.t 52), some 53, some (38, false), false⟩, gi 54 (.pick 54 (.t 38) (.k (.v (.bool true))) (.t 53))]
def r_spec_validStats_6 : List GI := [gi 4 (.mov 4 (.k (.v (.bool false))))]
def r_spec_validStats_7 : List GI := [gi 27 (.mov 27 (.t 5)), gi 28 (.bin 28 .add (.t 27) (.k (.v (.int .i64 1)))), gi 5 (.mov 5 (.t 28))]
def r_spec_validStats_8 : List GI := [gi 4 (.mov 4 (.k (.v (.bool true))))]
def dc_spec_validStats : DC := .seq (.reg r_spec_validStats_0 none) (.seq (.seq (.reg r_spec_validStats_1 none) (.cond (.t 23) (.seq (.reg r_spec_validStats_2 none) .ret) .skip)) (.seq (.seq (.reg r_spec_validStats_3 none) (.block 0 (.loop (.seq (.seq (.reg r_spec_validStats_4 none) (.cond (.t 26) .skip (.exit 0))) (.seq (.block 1 (.seq (.reg r_spec_validStats_5 (some [0, 1, 0, 7, 15, 0, 32, 127, 255, 511, 1023, 2047, 1023, 8191, 16383, 1023, 33791, 1023, 132095, 1023, 918527, 1967103, 4162559, 8388607, 16777215, 33554431])) (.cond (.t 54) (.seq (.reg r_spec_validStats_6 none) .ret) .skip))) (.reg r_spec_validStats_7 none)))))) (.seq (.reg r_spec_validStats_8 none) .ret)))
theorem c_spec_validStats : cfun Try.prog [] 92 = some (55, dc_spec_validStats, [(Res.tmp 4)]) := by kernel_rfl
def r_impl_Value_truth_0 : List GI := [gi 1 (.box 1 2000001 (.t 0) (some 2)), gi 2 (.mov 2 (.k (.v (.int .i64 0))))]
def r_impl_Value_truth_1 : List GI := [gi 4 (.fad 4 1 0), gi 5 (.lod 5 4 none), gi 3 (.mov 3 (.t 5))]
def r_impl_Value_truth_2 : List GI := [gi 2 (.mov 2 (.k (.v (.int .i64 1))))]
def r_impl_Value_truth_3 : List GI := [gi 7 (.fad 7 1 1), gi 8 (.lod 8 7 none), gi 9 (.bin 9 .eql (.t 8) (.k (.v (.int .i64 0)))), gi 6 (.mov 6 (.t 9))]
def r_impl_Value_truth_4 : List GI := [gi 2 (.mov 2 (.k (.v (.int .i64 0))))]
def r_impl_Value_truth_5 : List GI := [gi 2 (.mov 2 (.k (.v (.int .i64 2))))]
def dc_impl_Value_truth : DC := .seq (.reg r_impl_Value_truth_0 none) (.seq (.block 0 (.seq (.reg r_impl_Value_truth_1 none) (.cond (.t 3) (.seq (.reg r_impl_Value_truth_2 none) .ret) (.seq (.reg r_impl_Value_truth_3 none) (.cond (.t 6) (.seq (.reg r_impl_Value_truth_4 none) .ret) .skip))))) (.seq (.reg r_impl_Value_truth_5 none) .ret))
theorem c_impl_Value_truth : cfun Try.prog [] 161 = some (10, dc_impl_Value_truth, [(Res.tmp 2)]) := by kernel_rfl
end
end Go.Proofs.Ytpfedjaedlfdfaa
