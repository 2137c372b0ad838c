/-
  Functions of the program read as code on plain data. Closed facts of the program alone.
-/
import Derived.Test.YtbojmjopkadnaaaRows
import Derived.Test.YtbojmjopkadnaaaVLib
import Derived.KernelRfl
namespace Go.Proofs.Ytbojmjopkadnaaa
open Go.RowKit
noncomputable section
theorem mixed : Try.prog.follows .mixedOrders = true := by kernel_rfl
def name_impl_value : String := match Try.prog.info? 95 with
  | some i => ((i.methods.toList[0]?).map (fun m => m.name)).getD default
  | none => default
def r_spec_kidsOf_0 : List GI := [⟨.mov 2 (.k (.v (.int .i64 0))), some 2, none, false⟩]
def r_spec_kidsOf_1 : List GI := [⟨.mov 3 (.t 0), some 3, none, false⟩]
def r_spec_kidsOf_2 : List GI := [⟨.bin 5 .eql (.t 3) (.k (.v (.int .i64 1))), some 5, none, false⟩, ⟨.mov 4 (.t 5), some 4, none, false⟩]
def r_spec_kidsOf_3 : List GI := [⟨.bin 6 .eql (.t 3) (.k (.v (.int .i64 2))), some 6, none, false⟩, ⟨.mov 4 (.t 6), some 4, none, false⟩]
def r_spec_kidsOf_4 : List GI := [⟨.mov 2 (.k (.v (.int .i64 0))), some 2, none, false⟩]
def r_spec_kidsOf_5 : List GI := [⟨.bin 8 .eql (.t 3) (.k (.v (.int .i64 10))), some 8, none, false⟩, ⟨.mov 7 (.t 8), some 7, none, false⟩]
def r_spec_kidsOf_6 : List GI := [⟨.bin 9 .eql (.t 3) (.k (.v (.int .i64 11))), some 9, none, false⟩, ⟨.mov 7 (.t 9), some 7, none, false⟩]
def r_spec_kidsOf_7 : List GI := [⟨.mov 2 (.k (.v (.int .i64 1))), some 2, none, false⟩]
def r_spec_kidsOf_8 : List GI := [⟨.bin 11 .eql (.t 3) (.k (.v (.int .i64 3))), some 11, none, false⟩, ⟨.mov 10 (.t 11), some 10, none, false⟩]
def r_spec_kidsOf_9 : List GI := [⟨.bin 12 .eql (.t 3) (.k (.v (.int .i64 4))), some 12, none, false⟩, ⟨.mov 10 (.t 12), some 10, none, false⟩]
def r_spec_kidsOf_10 : List GI := [⟨.bin 13 .eql (.t 3) (.k (.v (.int .i64 5))), some 13, none, false⟩, ⟨.mov 10 (.t 13), some 10, none, false⟩]
def r_spec_kidsOf_11 : List GI := [⟨.bin 14 .eql (.t 3) (.k (.v (.int .i64 6))), some 14, none, false⟩, ⟨.mov 10 (.t 14), some 10, none, false⟩]
def r_spec_kidsOf_12 : List GI := [⟨.bin 15 .eql (.t 3) (.k (.v (.int .i64 7))), some 15, none, false⟩, ⟨.mov 10 (.t 15), some 10, none, false⟩]
def r_spec_kidsOf_13 : List GI := [⟨.bin 16 .eql (.t 3) (.k (.v (.int .i64 8))), some 16, none, false⟩, ⟨.mov 10 (.t 16), some 10, none, false⟩]
def r_spec_kidsOf_14 : List GI := [⟨.bin 17 .eql (.t 3) (.k (.v (.int .i64 9))), some 17, none, false⟩, ⟨.mov 10 (.t 17), some 10, none, false⟩]
def r_spec_kidsOf_15 : List GI := [⟨.mov 2 (.k (.v (.int .i64 2))), some 2, none, false⟩]
def r_spec_kidsOf_16 : List GI := [⟨.mov 2 (.k (.v (.int .i64 (-1)))), some 2, none, false⟩]
def dc_spec_kidsOf : DC := .seq (.reg r_spec_kidsOf_0 none) (.seq (.seq (.reg r_spec_kidsOf_1 none) (.block 0 (.seq (.seq (.reg r_spec_kidsOf_2 none) (.cond (.t 4) .skip (.reg r_spec_kidsOf_3 none))) (.cond (.t 4) (.seq (.reg r_spec_kidsOf_4 none) .ret) (.seq (.seq (.reg r_spec_kidsOf_5 none) (.cond (.t 7) .skip (.reg r_spec_kidsOf_6 none))) (.cond (.t 7) (.seq (.reg r_spec_kidsOf_7 none) .ret) (.seq (.seq (.reg r_spec_kidsOf_8 none) (.cond (.t 10) .skip (.seq (.reg r_spec_kidsOf_9 none) (.cond (.t 10) .skip (.seq (.reg r_spec_kidsOf_10 none) (.cond (.t 10) .skip (.seq (.reg r_spec_kidsOf_11 none) (.cond (.t 10) .skip (.seq (.reg r_spec_kidsOf_12 none) (.cond (.t 10) .skip (.seq (.reg r_spec_kidsOf_13 none) (.cond (.t 10) .skip (.reg r_spec_kidsOf_14 none))))))))))))) (.cond (.t 10) (.seq (.reg r_spec_kidsOf_15 none) .ret) .skip)))))))) (.seq (.reg r_spec_kidsOf_16 none) .ret))
theorem c_spec_kidsOf : cfun Try.prog [] 58 = some (18, dc_spec_kidsOf, [(Res.tmp 2)]) := by kernel_rfl
def r_cmp_Compare_int__0 : List GI := [⟨.mov 4 (.k (.v (.int .i64 0))), some 4, none, false⟩]
def r_cmp_Compare_int__1 : List GI := [⟨.mov 7 (.t 0), some 7, none, false⟩, ⟨.call 8 80 [.t 7], some 8, none, true⟩, ⟨.mov 5 (.t 8), some 5, none, false⟩]
def r_cmp_Compare_int__2 : List GI := [⟨.mov 9 (.t 1), some 9, none, false⟩, ⟨.call 10 80 [.t 9], some 10, none, true⟩, ⟨.mov 6 (.t 10), some 6, none, false⟩]
def r_cmp_Compare_int__3 : List GI := [⟨.mov 11 (.t 5), some 11, none, false⟩]
def r_cmp_Compare_int__4 : List GI := [⟨.mov 12 (.t 6), some 12, none, false⟩]
def r_cmp_Compare_int__5 : List GI := [⟨.mov 4 (.k (.v (.int .i64 0))), some 4, none, false⟩]
def r_cmp_Compare_int__6 : List GI := [⟨.mov 4 (.k (.v (.int .i64 (-1)))), some 4, none, false⟩]
def r_cmp_Compare_int__7 : List GI := [⟨.mov 13 (.t 6), some 13, none, false⟩]
def r_cmp_Compare_int__8 : List GI := [⟨.mov 4 (.k (.v (.int .i64 1))), some 4, none, false⟩]
def r_cmp_Compare_int__9 : List GI := [⟨.mov 14 (.t 0), some 14, none, false⟩, ⟨.mov 15 (.t 1), some 15, none, false⟩, ⟨.bin 16 .lss (.t 14) (.t 15), some 16, none, false⟩]
def r_cmp_Compare_int__10 : List GI := [⟨.mov 4 (.k (.v (.int .i64 (-1)))), some 4, none, false⟩]
def r_cmp_Compare_int__11 : List GI := [⟨.mov 17 (.t 0), some 17, none, false⟩, ⟨.mov 18 (.t 1), some 18, none, false⟩, ⟨.bin 19 .gtr (.t 17) (.t 18), some 19, none, false⟩]
def r_cmp_Compare_int__12 : List GI := [⟨.mov 4 (.k (.v (.int .i64 1))), some 4, none, false⟩]
def r_cmp_Compare_int__13 : List GI := [⟨.mov 4 (.k (.v (.int .i64 0))), some 4, none, false⟩]
def dc_cmp_Compare_int_ : DC := .seq (.reg r_cmp_Compare_int__0 none) (.seq (.reg r_cmp_Compare_int__1 none) (.seq (.reg r_cmp_Compare_int__2 none) (.seq (.seq (.reg r_cmp_Compare_int__3 none) (.cond (.t 11) (.seq (.seq (.reg r_cmp_Compare_int__4 none) (.cond (.t 12) (.seq (.reg r_cmp_Compare_int__5 none) .ret) .skip)) (.seq (.reg r_cmp_Compare_int__6 none) .ret)) .skip)) (.seq (.seq (.reg r_cmp_Compare_int__7 none) (.cond (.t 13) (.seq (.reg r_cmp_Compare_int__8 none) .ret) .skip)) (.seq (.seq (.reg r_cmp_Compare_int__9 none) (.cond (.t 16) (.seq (.reg r_cmp_Compare_int__10 none) .ret) .skip)) (.seq (.seq (.reg r_cmp_Compare_int__11 none) (.cond (.t 19) (.seq (.reg r_cmp_Compare_int__12 none) .ret) .skip)) (.seq (.reg r_cmp_Compare_int__13 none) .ret)))))))
theorem c_cmp_Compare_int_ : cfun Try.prog [] 78 = some (20, dc_cmp_Compare_int_, [(Res.tmp 4)]) := by kernel_rfl
def r_cmp_isNaN_int__0 : List GI := [⟨.mov 2 (.k (.v (.bool false))), some 2, none, false⟩]
def r_cmp_isNaN_int__1 : List GI := [⟨.mov 3 (.t 0), some 3, none, false⟩, ⟨.mov 4 (.t 0), some 4, none, false⟩, ⟨.bin 5 .neq (.t 3) (.t 4), some 5, none, false⟩, ⟨.mov 2 (.t 5), some 2, none, false⟩]
def dc_cmp_isNaN_int_ : DC := .seq (.reg r_cmp_isNaN_int__0 none) (.seq (.reg r_cmp_isNaN_int__1 none) .ret)
theorem c_cmp_isNaN_int_ : cfun Try.prog [] 80 = some (6, dc_cmp_isNaN_int_, [(Res.tmp 2)]) := by kernel_rfl
def r_impl_Value_valid_0 : List GI := [⟨.box 1 2000001 (.t 0) (some 2), some 1, none, false⟩, ⟨.mov 2 (.k (.v (.bool false))), some 2, none, false⟩]
def r_impl_Value_valid_1 : List GI := [⟨.fad 3 1 0, some 3, none, false⟩, ⟨.lod 4 3 none, some 4, none, false⟩]
def r_impl_Value_valid_2 : List GI := [⟨.fad 5 1 1, some 5, none, false⟩, ⟨.lod 6 5 none, some 6, none, false⟩, ⟨.bin 7 .eql (.t 6) (.k (.v (.int .i64 0))), some 7, none, false⟩, ⟨.mov 2 (.t 7), some 2, none, false⟩]
def r_impl_Value_valid_3 : List GI := [⟨.fad 8 1 1, some 8, none, false⟩, ⟨.lod 9 8 none, some 9, none, false⟩, ⟨.bin 10 .leq (.k (.v (.int .i64 (-9999)))) (.t 9), some 10, none, false⟩, ⟨.mov 11 (.t 10), some 11, none, false⟩, ⟨.fad 12 1 1, some 12, some (11, true), false⟩, ⟨.lod 13 12 none, some 13, some (11, true), false⟩, ⟨.bin 14 .leq (.t 13) (.k (.v (.int .i64 9999))), some 14, some (11, true), false⟩, ⟨.pick 15 (.t 11) (.t 14) (.k (.v (.bool false))), some 15, none, false⟩, ⟨.mov 2 (.t 15), some 2, none, false⟩]
def dc_impl_Value_valid : DC := .seq (.reg r_impl_Value_valid_0 none) (.seq (.seq (.reg r_impl_Value_valid_1 none) (.cond (.t 4) (.seq (.reg r_impl_Value_valid_2 none) .ret) .skip)) (.seq (.reg r_impl_Value_valid_3 none) .ret))
theorem c_impl_Value_valid : cfun Try.prog [] 64 = some (16, dc_impl_Value_valid, [(Res.tmp 2)]) := by kernel_rfl
def r_impl_isColumn_0 : List GI := [⟨.mov 4 (.k (.v (.bool false))), some 4, none, false⟩]
def r_impl_isColumn_1 : List GI := [⟨.mov 5 (.t 0), some 5, none, false⟩, ⟨.bin 6 .leq (.k (.v (.int .i64 0))) (.t 5), some 6, none, false⟩, ⟨.mov 7 (.t 6), some 7, none, false⟩, ⟨.mov 8 (.t 0), some 8, some (7, true), false⟩, ⟨.mov 9 (.t 1), some 9, some (7, true), false⟩, ⟨.bin 10 .lss (.t 8) (.t 9), some 10, some (7, true), false⟩, ⟨.pick 11 (.t 7) (.t 10) (.k (.v (.bool false))), some 11, none, false⟩, ⟨.mov 4 (.t 11), some 4, none, false⟩]
def dc_impl_isColumn : DC := .seq (.reg r_impl_isColumn_0 none) (.seq (.reg r_impl_isColumn_1 none) .ret)
theorem c_impl_isColumn : cfun Try.prog [] 45 = some (12, dc_impl_isColumn, [(Res.tmp 4)]) := by kernel_rfl
def r_impl_numberOrNull_0 : List GI := [⟨.alloc 2 2000002 [.v (.bool false), .v (.int .i64 0)], some 2, none, false⟩]
def r_impl_numberOrNull_1 : List GI := [⟨.mov 4 (.t 0), some 4, none, false⟩, ⟨.build 5 [.v (.bool false), .v (.int .i64 0)] [(1, (none, .t 4))], some 5, none, false⟩, ⟨.alloc 3 2000003 [.v (.bool false), .v (.int .i64 0)], some 3, none, false⟩, ⟨.sto 3 (.t 5) (some 2), none, none, false⟩]
def r_impl_numberOrNull_2 : List GI := [⟨.lod 6 3 (some 2), some 6, none, false⟩, ⟨.call 7 64 [.t 6], some 7, none, true⟩]
def r_impl_numberOrNull_3 : List GI := [⟨.lod 8 3 (some 2), some 8, none, false⟩, ⟨.sto 2 (.t 8) (some 2), none, none, false⟩]
def r_impl_numberOrNull_4 : List GI := [⟨.build 9 [.v (.bool false), .v (.int .i64 0)] [(0, (none, .k (.v (.bool true))))], some 9, none, false⟩, ⟨.sto 2 (.t 9) (some 2), none, none, false⟩]
def dc_impl_numberOrNull : DC := .seq (.reg r_impl_numberOrNull_0 none) (.seq (.seq (.reg r_impl_numberOrNull_1 none) (.seq (.reg r_impl_numberOrNull_2 none) (.cond (.t 7) (.seq (.reg r_impl_numberOrNull_3 none) .ret) .skip))) (.seq (.reg r_impl_numberOrNull_4 none) .ret))
theorem c_impl_numberOrNull : cfun Try.prog [] 112 = some (10, dc_impl_numberOrNull, [(Res.cell 2 (some 2))]) := by kernel_rfl
def r_impl_validRow_0 : List GI := [⟨.mov 2 (.k (.v (.bool false))), some 2, none, false⟩]
def r_impl_validRow_1 : List GI := [⟨.mov 3 (.t 0), some 3, none, false⟩, ⟨.len 4 (.t 3), some 4, none, false⟩, ⟨.call 5 35 [.t 4], some 5, none, true⟩, ⟨.mov 6 (.t 5), some 6, none, false⟩, ⟨.mov 7 (.t 0), some 7, some (6, true), false⟩, ⟨.call 8 61 [.t 7], some 8, some (6, true), true⟩, ⟨.pick 9 (.t 6) (.t 8) (.k (.v (.bool false))), some 9, none, false⟩, ⟨.mov 2 (.t 9), some 2, none, false⟩]
def dc_impl_validRow : DC := .seq (.reg r_impl_validRow_0 none) (.seq (.reg r_impl_validRow_1 none) .ret)
theorem c_impl_validRow : cfun Try.prog [] 33 = some (10, dc_impl_validRow, [(Res.tmp 2)]) := by kernel_rfl
def r_impl_validValues_0 : List GI := [⟨.mov 2 (.k (.v (.bool false))), some 2, none, false⟩]
def r_impl_validValues_1 : List GI := [⟨.mov 5 (.t 0), some 5, none, false⟩, ⟨.len 6 (.t 5), some 6, none, false⟩, ⟨.mov 7 (.k (.v (.int .i64 0))), some 7, none, false⟩]
def r_impl_validValues_2 : List GI := [⟨.bin 8 .lss (.t 7) (.t 6), some 8, none, false⟩]
def r_impl_validValues_3 : List GI := [⟨.iad 9 5 (.t 7) 2, some 9, none, false⟩, ⟨.lod 10 9 (some 2), some 10, none, false⟩, ⟨.alloc 4 2000004 [.v (.bool false), .v (.int .i64 0)], some 4, none, false⟩, ⟨.sto 4 (.t 10) (some 2), none, none, false⟩]
def r_impl_validValues_4 : List GI := [⟨.lod 11 4 (some 2), some 11, none, false⟩, ⟨.call 12 64 [.t 11], some 12, none, true⟩, ⟨.un 13 UnOp.not (.t 12), some 13, none, false⟩]
def r_impl_validValues_5 : List GI := [⟨.mov 2 (.k (.v (.bool false))), some 2, none, false⟩]
def r_impl_validValues_6 : List GI := [⟨.bin 14 .add (.t 7) (.k (.v (.int .i64 1))), some 14, none, false⟩, ⟨.mov 7 (.t 14), some 7, none, false⟩]
def r_impl_validValues_7 : List GI := [⟨.mov 2 (.k (.v (.bool true))), some 2, none, false⟩]
def dc_impl_validValues : DC := .seq (.reg r_impl_validValues_0 none) (.seq (.seq (.reg r_impl_validValues_1 none) (.block 0 (.loop (.seq (.reg r_impl_validValues_2 none) (.seq (.cond (.t 8) .skip (.exit 0)) (.seq (.block 1 (.seq (.reg r_impl_validValues_3 none) (.seq (.reg r_impl_validValues_4 none) (.cond (.t 13) (.seq (.reg r_impl_validValues_5 none) .ret) .skip)))) (.reg r_impl_validValues_6 none))))))) (.seq (.reg r_impl_validValues_7 none) .ret))
theorem c_impl_validValues : cfun Try.prog [] 61 = some (15, dc_impl_validValues, [(Res.tmp 2)]) := by kernel_rfl
def r_impl_validWidth_0 : List GI := [⟨.mov 2 (.k (.v (.bool false))), some 2, none, false⟩]
def r_impl_validWidth_1 : List GI := [⟨.mov 3 (.t 0), some 3, none, false⟩, ⟨.bin 4 .leq (.k (.v (.int .i64 1))) (.t 3), some 4, none, false⟩, ⟨.mov 5 (.t 4), some 5, none, false⟩, ⟨.mov 6 (.t 0), some 6, some (5, true), false⟩, ⟨.bin 7 .leq (.t 6) (.k (.v (.int .i64 6))), some 7, some (5, true), false⟩, ⟨.pick 8 (.t 5) (.t 7) (.k (.v (.bool false))), some 8, none, false⟩, ⟨.mov 2 (.t 8), some 2, none, false⟩]
def dc_impl_validWidth : DC := .seq (.reg r_impl_validWidth_0 none) (.seq (.reg r_impl_validWidth_1 none) .ret)
theorem c_impl_validWidth : cfun Try.prog [] 35 = some (9, dc_impl_validWidth, [(Res.tmp 2)]) := by kernel_rfl
def r_spec_inRange_0 : List GI := [⟨.mov 6 (.k (.v (.bool false))), some 6, none, false⟩]
def r_spec_inRange_1 : List GI := [⟨.mov 7 (.t 0), some 7, none, false⟩, ⟨.mov 8 (.t 1), some 8, none, false⟩, ⟨.bin 9 .geq (.t 7) (.t 8), some 9, none, false⟩, ⟨.mov 10 (.t 9), some 10, none, false⟩, ⟨.mov 11 (.t 0), some 11, some (10, true), false⟩, ⟨.mov 12 (.t 2), some 12, some (10, true), false⟩, ⟨.bin 13 .leq (.t 11) (.t 12), some 13, some (10, true), false⟩, ⟨.pick 14 (.t 10) (.t 13) (.k (.v (.bool false))), some 14, none, false⟩, ⟨.mov 6 (.t 14), some 6, none, false⟩]
def dc_spec_inRange : DC := .seq (.reg r_spec_inRange_0 none) (.seq (.reg r_spec_inRange_1 none) .ret)
theorem c_spec_inRange : cfun Try.prog [] 48 = some (15, dc_spec_inRange, [(Res.tmp 6)]) := by kernel_rfl
def r_spec_validValue_0 : List GI := [⟨.box 1 2000001 (.t 0) (some 2), some 1, none, false⟩, ⟨.mov 2 (.k (.v (.bool false))), some 2, none, false⟩]
def r_spec_validValue_1 : List GI := [⟨.fad 3 1 1, some 3, none, false⟩, ⟨.lod 4 3 none, some 4, none, false⟩, ⟨.call 5 48 [.t 4, .k (.v (.int .i64 (-9999))), .k (.v (.int .i64 9999))], some 5, none, true⟩, ⟨.mov 6 (.t 5), some 6, none, false⟩, ⟨.fad 7 1 0, some 7, some (6, true), false⟩, ⟨.lod 8 7 none, some 8, some (6, true), false⟩, ⟨.un 9 UnOp.not (.t 8), some 9, some (6, true), false⟩, ⟨.mov 10 (.t 9), some 10, some (6, true), false⟩, ⟨.fad 11 1 1, some 11, some (10, false), false⟩, ⟨.lod 12 11 none, some 12, some (10, false), false⟩, ⟨.bin 13 .eql (.t 12) (.k (.v (.int .i64 0))), some 13, some (10, false), false⟩, ⟨.pick 14 (.t 10) (.k (.v (.bool true))) (.t 13), some 14, some (6, true), false⟩, ⟨.pick 15 (.t 6) (.t 14) (.k (.v (.bool false))), some 15, none, false⟩, ⟨.mov 2 (.t 15), some 2, none, false⟩]
def dc_spec_validValue : DC := .seq (.reg r_spec_validValue_0 none) (.seq (.reg r_spec_validValue_1 none) .ret)
theorem c_spec_validValue : cfun Try.prog [] 75 = some (16, dc_spec_validValue, [(Res.tmp 2)]) := by kernel_rfl
def r_spec_ValidExpr_0 : List GI := [⟨.box 2 2000002 (.t 0) (some 5), some 2, none, false⟩, ⟨.mov 4 (.k (.v (.bool false))), some 4, none, false⟩]
def r_spec_ValidExpr_1 : List GI := [⟨.mov 5 (.t 1), some 5, none, false⟩, ⟨.call 6 48 [.t 5, .k (.v (.int .i64 1)), .k (.v (.int .i64 6))], some 6, none, true⟩, ⟨.mov 7 (.t 6), some 7, none, false⟩, ⟨.lod 8 2 (some 5), some 8, some (7, true), false⟩, ⟨.mov 9 (.t 1), some 9, some (7, true), false⟩, ⟨.call 10 59 [.t 8, .t 9, .k (.v (.int .i64 8))], some 10, some (7, true), true⟩, ⟨.pick 11 (.t 7) (.t 10) (.k (.v (.bool false))), some 11, none, false⟩, ⟨.mov 4 (.t 11), some 4, none, false⟩]
def dc_spec_ValidExpr : DC := .seq (.reg r_spec_ValidExpr_0 none) (.seq (.reg r_spec_ValidExpr_1 none) .ret)
theorem c_spec_ValidExpr : cfun Try.prog [] 31 = some (12, dc_spec_ValidExpr, [(Res.tmp 4)]) := by kernel_rfl
def r_spec_validExpr_0 : List GI := [⟨.box 3 2000003 (.t 0) (some 5), some 3, none, false⟩, ⟨.mov 6 (.k (.v (.bool false))), some 6, none, false⟩]
def r_spec_validExpr_1 : List GI := [⟨.fad 8 3 4, some 8, none, false⟩, ⟨.lod 9 8 none, some 9, none, false⟩, ⟨.len 10 (.t 9), some 10, none, false⟩, ⟨.fad 11 3 0, some 11, none, false⟩, ⟨.lod 12 11 none, some 12, none, false⟩, ⟨.call 13 58 [.t 12], some 13, none, true⟩, ⟨.bin 14 .neq (.t 10) (.t 13), some 14, none, false⟩, ⟨.mov 15 (.t 14), some 15, none, false⟩, ⟨.fad 16 3 4, some 16, some (15, false), false⟩, ⟨.lod 17 16 none, some 17, some (15, false), false⟩, ⟨.len 18 (.t 17), some 18, some (15, false), false⟩, ⟨.bin 19 .gtr (.t 18) (.k (.v (.int .i64 0))), some 19, some (15, false), false⟩, ⟨.mov 20 (.t 19), some 20, some (15, false), false⟩, ⟨.mov 21 (.t 2), some 21, some (20, true), false⟩, ⟨.bin 22 .eql (.t 21) (.k (.v (.int .i64 0))), some 22, some (20, true), false⟩, ⟨.pick 23 (.t 20) (.t 22) (.k (.v (.bool false))), some 23, some (15, false), false⟩, ⟨.pick 24 (.t 15) (.k (.v (.bool true))) (.t 23), some 24, none, false⟩]
def r_spec_validExpr_2 : List GI := [⟨.mov 6 (.k (.v (.bool false))), some 6, none, false⟩]
def r_spec_validExpr_3 : List GI := [⟨.mov 7 (.k (.v (.int .i64 0))), some 7, none, false⟩]
def r_spec_validExpr_4 : List GI := [⟨.mov 25 (.t 7), some 25, none, false⟩, ⟨.fad 26 3 4, some 26, none, false⟩, ⟨.lod 27 26 none, some 27, none, false⟩, ⟨.len 28 (.t 27), some 28, none, false⟩, ⟨.bin 29 .lss (.t 25) (.t 28), some 29, none, false⟩]
def r_spec_validExpr_5 : List GI := [⟨.fad 32 3 4, some 32, none, false⟩, ⟨.lod 33 32 none, some 33, none, false⟩, ⟨.mov 34 (.t 7), some 34, none, false⟩, ⟨.iad 35 33 (.t 34) 5, some 35, none, false⟩, ⟨.lod 36 35 (some 5), some 36, none, false⟩, ⟨.mov 37 (.t 1), some 37, none, false⟩, ⟨.mov 38 (.t 2), some 38, none, false⟩, ⟨.bin 39 .sub (.t 38) (.k (.v (.int .i64 1))), some 39, none, false⟩, ⟨.call 40 59 [.t 36, .t 37, .t 39], some 40, none, true⟩, ⟨.un 41 UnOp.not (.t 40), some 41, none, false⟩]
def r_spec_validExpr_6 : List GI := [⟨.mov 6 (.k (.v (.bool false))), some 6, none, false⟩]
def r_spec_validExpr_7 : List GI := [⟨.mov 30 (.t 7), some 30, none, false⟩, ⟨.bin 31 .add (.t 30) (.k (.v (.int .i64 1))), some 31, none, false⟩, ⟨.mov 7 (.t 31), some 7, none, false⟩]
def r_spec_validExpr_8 : List GI := [⟨.fad 42 3 0, some 42, none, false⟩, ⟨.lod 43 42 none, some 43, none, false⟩]
def r_spec_validExpr_9 : List GI := [⟨.bin 45 .eql (.t 43) (.k (.v (.int .i64 1))), some 45, none, false⟩, ⟨.mov 44 (.t 45), some 44, none, false⟩]
def r_spec_validExpr_10 : List GI := [⟨.fad 46 3 1, some 46, none, false⟩, ⟨.lod 47 46 none, some 47, none, false⟩, ⟨.mov 48 (.t 1), some 48, none, false⟩, ⟨.bin 49 .sub (.t 48) (.k (.v (.int .i64 1))), some 49, none, false⟩, ⟨.call 50 48 [.t 47, .k (.v (.int .i64 0)), .t 49], some 50, none, true⟩, ⟨.mov 51 (.t 50), some 51, none, false⟩, ⟨.fad 52 3 2, some 52, some (51, true), false⟩, ⟨.lod 53 52 (some 2), some 53, some (51, true), false⟩, ⟨.build 54 [.v (.bool false), .v (.int .i64 0)] [], some 54, some (51, true), false⟩, ⟨.eqs 55 false [false, true] (.t 53) (.t 54), some 55, some (51, true), false⟩, ⟨.pick 56 (.t 51) (.t 55) (.k (.v (.bool false))), some 56, none, false⟩, ⟨.mov 6 (.t 56), some 6, none, false⟩]
def r_spec_validExpr_11 : List GI := [⟨.bin 58 .eql (.t 43) (.k (.v (.int .i64 2))), some 58, none, false⟩, ⟨.mov 57 (.t 58), some 57, none, false⟩]
def r_spec_validExpr_12 : List GI := [⟨.fad 59 3 1, some 59, none, false⟩, ⟨.lod 60 59 none, some 60, none, false⟩, ⟨.bin 61 .eql (.t 60) (.k (.v (.int .i64 0))), some 61, none, false⟩, ⟨.mov 62 (.t 61), some 62, none, false⟩, ⟨.fad 63 3 2, some 63, some (62, true), false⟩, ⟨.lod 64 63 (some 2), some 64, some (62, true), false⟩, ⟨.call 65 75 [.t 64], some 65, some (62, true), true⟩, ⟨.pick 66 (.t 62) (.t 65) (.k (.v (.bool false))), some 66, none, false⟩, ⟨.mov 6 (.t 66), some 6, none, false⟩]
def r_spec_validExpr_13 : List GI := [⟨.fad 67 3 1, some 67, none, false⟩, ⟨.lod 68 67 none, some 68, none, false⟩, ⟨.bin 69 .eql (.t 68) (.k (.v (.int .i64 0))), some 69, none, false⟩, ⟨.mov 70 (.t 69), some 70, none, false⟩, ⟨.fad 71 3 2, some 71, some (70, true), false⟩, ⟨.lod 72 71 (some 2), some 72, some (70, true), false⟩, ⟨.build 73 [.v (.bool false), .v (.int .i64 0)] [], some 73, some (70, true), false⟩, ⟨.eqs 74 false [false, true] (.t 72) (.t 73), some 74, some (70, true), false⟩, ⟨.pick 75 (.t 70) (.t 74) (.k (.v (.bool false))), some 75, none, false⟩, ⟨.mov 6 (.t 75), some 6, none, false⟩]
def dc_spec_validExpr : DC := .seq (.reg r_spec_validExpr_0 none) (.seq (.seq (.reg r_spec_validExpr_1 (some [0, 1, 3, 0, 8, 24, 63, 127, 255, 511, 1023, 2047, 4095, 8191, 16383, 32767, 65535])) (.cond (.t 24) (.seq (.reg r_spec_validExpr_2 none) .ret) .skip)) (.seq (.seq (.reg r_spec_validExpr_3 none) (.block 0 (.loop (.seq (.seq (.reg r_spec_validExpr_4 none) (.cond (.t 29) .skip (.exit 0))) (.seq (.block 1 (.seq (.reg r_spec_validExpr_5 none) (.cond (.t 41) (.seq (.reg r_spec_validExpr_6 none) .ret) .skip))) (.reg r_spec_validExpr_7 none)))))) (.seq (.seq (.reg r_spec_validExpr_8 none) (.block 2 (.seq (.reg r_spec_validExpr_9 none) (.cond (.t 44) (.seq (.reg r_spec_validExpr_10 none) .ret) (.seq (.reg r_spec_validExpr_11 none) (.cond (.t 57) (.seq (.reg r_spec_validExpr_12 none) .ret) .skip)))))) (.seq (.reg r_spec_validExpr_13 none) .ret))))
theorem c_spec_validExpr : cfun Try.prog [] 59 = some (76, dc_spec_validExpr, [(Res.tmp 6)]) := by kernel_rfl
def r_impl_ValidExpr_0 : List GI := [⟨.box 2 2000002 (.t 0) (some 5), some 2, none, false⟩, ⟨.mov 4 (.k (.v (.bool false))), some 4, none, false⟩]
def r_impl_ValidExpr_1 : List GI := [⟨.mov 5 (.t 1), some 5, none, false⟩, ⟨.call 6 35 [.t 5], some 6, none, true⟩, ⟨.mov 7 (.t 6), some 7, none, false⟩, ⟨.lod 8 2 (some 5), some 8, some (7, true), false⟩, ⟨.mov 9 (.t 1), some 9, some (7, true), false⟩, ⟨.call 10 36 [.t 8, .t 9, .k (.v (.int .i64 8))], some 10, some (7, true), true⟩, ⟨.pick 11 (.t 7) (.t 10) (.k (.v (.bool false))), some 11, none, false⟩, ⟨.mov 4 (.t 11), some 4, none, false⟩]
def dc_impl_ValidExpr : DC := .seq (.reg r_impl_ValidExpr_0 none) (.seq (.reg r_impl_ValidExpr_1 none) .ret)
theorem c_impl_ValidExpr : cfun Try.prog [] 13 = some (12, dc_impl_ValidExpr, [(Res.tmp 4)]) := by kernel_rfl
def r_impl_kidCount_0 : List GI := [⟨.mov 2 (.k (.v (.int .i64 0))), some 2, none, false⟩]
def r_impl_kidCount_1 : List GI := [⟨.mov 4 (.t 0), some 4, none, false⟩, ⟨.bin 5 .eql (.t 4) (.k (.v (.int .i64 1))), some 5, none, false⟩, ⟨.mov 6 (.t 5), some 6, none, false⟩, ⟨.mov 7 (.t 0), some 7, some (6, false), false⟩, ⟨.bin 8 .eql (.t 7) (.k (.v (.int .i64 2))), some 8, some (6, false), false⟩, ⟨.pick 9 (.t 6) (.k (.v (.bool true))) (.t 8), some 9, none, false⟩, ⟨.mov 3 (.t 9), some 3, none, false⟩]
def r_impl_kidCount_2 : List GI := [⟨.mov 2 (.k (.v (.int .i64 0))), some 2, none, false⟩]
def r_impl_kidCount_3 : List GI := [⟨.mov 11 (.t 0), some 11, none, false⟩, ⟨.bin 12 .eql (.t 11) (.k (.v (.int .i64 10))), some 12, none, false⟩, ⟨.mov 13 (.t 12), some 13, none, false⟩, ⟨.mov 14 (.t 0), some 14, some (13, false), false⟩, ⟨.bin 15 .eql (.t 14) (.k (.v (.int .i64 11))), some 15, some (13, false), false⟩, ⟨.pick 16 (.t 13) (.k (.v (.bool true))) (.t 15), some 16, none, false⟩, ⟨.mov 10 (.t 16), some 10, none, false⟩]
def r_impl_kidCount_4 : List GI := [⟨.mov 2 (.k (.v (.int .i64 1))), some 2, none, false⟩]
def r_impl_kidCount_5 : List GI := [⟨.mov 18 (.t 0), some 18, none, false⟩, ⟨.bin 19 .leq (.k (.v (.int .i64 3))) (.t 18), some 19, none, false⟩, ⟨.mov 20 (.t 19), some 20, none, false⟩, ⟨.mov 21 (.t 0), some 21, some (20, true), false⟩, ⟨.bin 22 .leq (.t 21) (.k (.v (.int .i64 9))), some 22, some (20, true), false⟩, ⟨.pick 23 (.t 20) (.t 22) (.k (.v (.bool false))), some 23, none, false⟩, ⟨.mov 17 (.t 23), some 17, none, false⟩]
def r_impl_kidCount_6 : List GI := [⟨.mov 2 (.k (.v (.int .i64 2))), some 2, none, false⟩]
def r_impl_kidCount_7 : List GI := [⟨.mov 2 (.k (.v (.int .i64 (-1)))), some 2, none, false⟩]
def dc_impl_kidCount : DC := .seq (.reg r_impl_kidCount_0 none) (.seq (.block 0 (.seq (.reg r_impl_kidCount_1 none) (.cond (.t 3) (.seq (.reg r_impl_kidCount_2 none) .ret) (.seq (.reg r_impl_kidCount_3 none) (.cond (.t 10) (.seq (.reg r_impl_kidCount_4 none) .ret) (.seq (.reg r_impl_kidCount_5 none) (.cond (.t 17) (.seq (.reg r_impl_kidCount_6 none) .ret) .skip))))))) (.seq (.reg r_impl_kidCount_7 none) .ret))
theorem c_impl_kidCount : cfun Try.prog [] 63 = some (24, dc_impl_kidCount, [(Res.tmp 2)]) := by kernel_rfl
def r_impl_validWithin_0 : List GI := [⟨.box 3 2000003 (.t 0) (some 5), some 3, none, false⟩, ⟨.mov 6 (.k (.v (.bool false))), some 6, none, false⟩]
def r_impl_validWithin_1 : List GI := [⟨.mov 9 (.t 2), some 9, none, false⟩, ⟨.bin 10 .lss (.t 9) (.k (.v (.int .i64 0))), some 10, none, false⟩, ⟨.mov 11 (.t 10), some 11, none, false⟩, ⟨.fad 12 3 4, some 12, some (11, false), false⟩, ⟨.lod 13 12 none, some 13, some (11, false), false⟩, ⟨.len 14 (.t 13), some 14, some (11, false), false⟩, ⟨.fad 15 3 0, some 15, some (11, false), false⟩, ⟨.lod 16 15 none, some 16, some (11, false), false⟩, ⟨.call 17 63 [.t 16], some 17, some (11, false), true⟩, ⟨.bin 18 .neq (.t 14) (.t 17), some 18, some (11, false), false⟩, ⟨.pick 19 (.t 11) (.k (.v (.bool true))) (.t 18), some 19, none, false⟩]
def r_impl_validWithin_2 : List GI := [⟨.mov 6 (.k (.v (.bool false))), some 6, none, false⟩]
def r_impl_validWithin_3 : List GI := [⟨.fad 20 3 0, some 20, none, false⟩, ⟨.lod 21 20 none, some 21, none, false⟩]
def r_impl_validWithin_4 : List GI := [⟨.bin 23 .eql (.t 21) (.k (.v (.int .i64 1))), some 23, none, false⟩, ⟨.mov 22 (.t 23), some 22, none, false⟩]
def r_impl_validWithin_5 : List GI := [⟨.fad 24 3 1, some 24, none, false⟩, ⟨.lod 25 24 none, some 25, none, false⟩, ⟨.mov 26 (.t 1), some 26, none, false⟩, ⟨.call 27 45 [.t 25, .t 26], some 27, none, true⟩, ⟨.mov 28 (.t 27), some 28, none, false⟩, ⟨.fad 29 3 2, some 29, some (28, true), false⟩, ⟨.lod 30 29 (some 2), some 30, some (28, true), false⟩, ⟨.build 31 [.v (.bool false), .v (.int .i64 0)] [], some 31, some (28, true), false⟩, ⟨.eqs 32 false [false, true] (.t 30) (.t 31), some 32, some (28, true), false⟩, ⟨.pick 33 (.t 28) (.t 32) (.k (.v (.bool false))), some 33, none, false⟩, ⟨.mov 6 (.t 33), some 6, none, false⟩]
def r_impl_validWithin_6 : List GI := [⟨.bin 35 .eql (.t 21) (.k (.v (.int .i64 2))), some 35, none, false⟩, ⟨.mov 34 (.t 35), some 34, none, false⟩]
def r_impl_validWithin_7 : List GI := [⟨.fad 36 3 1, some 36, none, false⟩, ⟨.lod 37 36 none, some 37, none, false⟩, ⟨.bin 38 .eql (.t 37) (.k (.v (.int .i64 0))), some 38, none, false⟩, ⟨.mov 39 (.t 38), some 39, none, false⟩, ⟨.fad 40 3 2, some 40, some (39, true), false⟩, ⟨.lod 41 40 (some 2), some 41, some (39, true), false⟩, ⟨.call 42 64 [.t 41], some 42, some (39, true), true⟩, ⟨.pick 43 (.t 39) (.t 42) (.k (.v (.bool false))), some 43, none, false⟩, ⟨.mov 6 (.t 43), some 6, none, false⟩]
def r_impl_validWithin_8 : List GI := [⟨.fad 44 3 1, some 44, none, false⟩, ⟨.lod 45 44 none, some 45, none, false⟩, ⟨.bin 46 .neq (.t 45) (.k (.v (.int .i64 0))), some 46, none, false⟩, ⟨.mov 47 (.t 46), some 47, none, false⟩, ⟨.fad 48 3 2, some 48, some (47, false), false⟩, ⟨.lod 49 48 (some 2), some 49, some (47, false), false⟩, ⟨.build 50 [.v (.bool false), .v (.int .i64 0)] [], some 50, some (47, false), false⟩, ⟨.eqs 51 true [false, true] (.t 49) (.t 50), some 51, some (47, false), false⟩, ⟨.pick 52 (.t 47) (.k (.v (.bool true))) (.t 51), some 52, none, false⟩]
def r_impl_validWithin_9 : List GI := [⟨.mov 6 (.k (.v (.bool false))), some 6, none, false⟩]
def r_impl_validWithin_10 : List GI := [⟨.fad 53 3 4, some 53, none, false⟩, ⟨.lod 54 53 none, some 54, none, false⟩, ⟨.len 55 (.t 54), some 55, none, false⟩, ⟨.mov 56 (.k (.v (.int .i64 0))), some 56, none, false⟩]
def r_impl_validWithin_11 : List GI := [⟨.bin 57 .lss (.t 56) (.t 55), some 57, none, false⟩]
def r_impl_validWithin_12 : List GI := [⟨.iad 58 54 (.t 56) 5, some 58, none, false⟩, ⟨.lod 59 58 (some 5), some 59, none, false⟩, ⟨.alloc 8 2000008 [.v (.int .i64 0), .v (.int .i64 0), .v (.bool false), .v (.int .i64 0), .nul], some 8, none, false⟩, ⟨.sto 8 (.t 59) (some 5), none, none, false⟩]
def r_impl_validWithin_13 : List GI := [⟨.lod 60 8 (some 5), some 60, none, false⟩, ⟨.mov 61 (.t 1), some 61, none, false⟩, ⟨.mov 62 (.t 2), some 62, none, false⟩, ⟨.bin 63 .sub (.t 62) (.k (.v (.int .i64 1))), some 63, none, false⟩, ⟨.call 64 36 [.t 60, .t 61, .t 63], some 64, none, true⟩, ⟨.un 65 UnOp.not (.t 64), some 65, none, false⟩]
def r_impl_validWithin_14 : List GI := [⟨.mov 6 (.k (.v (.bool false))), some 6, none, false⟩]
def r_impl_validWithin_15 : List GI := [⟨.bin 66 .add (.t 56) (.k (.v (.int .i64 1))), some 66, none, false⟩, ⟨.mov 56 (.t 66), some 56, none, false⟩]
def r_impl_validWithin_16 : List GI := [⟨.mov 6 (.k (.v (.bool true))), some 6, none, false⟩]
def dc_impl_validWithin : DC := .seq (.reg r_impl_validWithin_0 none) (.seq (.seq (.reg r_impl_validWithin_1 (some [0, 1, 3, 7, 15, 31, 7, 71, 199, 511, 1023])) (.cond (.t 19) (.seq (.reg r_impl_validWithin_2 none) .ret) .skip)) (.seq (.seq (.reg r_impl_validWithin_3 none) (.block 0 (.seq (.reg r_impl_validWithin_4 none) (.cond (.t 22) (.seq (.reg r_impl_validWithin_5 none) .ret) (.seq (.reg r_impl_validWithin_6 none) (.cond (.t 34) (.seq (.reg r_impl_validWithin_7 none) .ret) .skip)))))) (.seq (.seq (.reg r_impl_validWithin_8 none) (.cond (.t 52) (.seq (.reg r_impl_validWithin_9 none) .ret) .skip)) (.seq (.seq (.reg r_impl_validWithin_10 none) (.block 1 (.loop (.seq (.reg r_impl_validWithin_11 none) (.seq (.cond (.t 57) .skip (.exit 1)) (.seq (.block 2 (.seq (.reg r_impl_validWithin_12 none) (.seq (.reg r_impl_validWithin_13 none) (.cond (.t 65) (.seq (.reg r_impl_validWithin_14 none) .ret) .skip)))) (.reg r_impl_validWithin_15 none))))))) (.seq (.reg r_impl_validWithin_16 none) .ret)))))
theorem c_impl_validWithin : cfun Try.prog [] 36 = some (67, dc_impl_validWithin, [(Res.tmp 6)]) := by kernel_rfl
def r_impl_Value_truth_0 : List GI := [⟨.box 1 2000001 (.t 0) (some 2), some 1, none, false⟩, ⟨.mov 2 (.k (.v (.int .i64 0))), some 2, none, false⟩]
def r_impl_Value_truth_1 : List GI := [⟨.fad 4 1 0, some 4, none, false⟩, ⟨.lod 5 4 none, some 5, none, false⟩, ⟨.mov 3 (.t 5), some 3, none, false⟩]
def r_impl_Value_truth_2 : List GI := [⟨.mov 2 (.k (.v (.int .i64 1))), some 2, none, false⟩]
def r_impl_Value_truth_3 : List GI := [⟨.fad 7 1 1, some 7, none, false⟩, ⟨.lod 8 7 none, some 8, none, false⟩, ⟨.bin 9 .eql (.t 8) (.k (.v (.int .i64 0))), some 9, none, false⟩, ⟨.mov 6 (.t 9), some 6, none, false⟩]
def r_impl_Value_truth_4 : List GI := [⟨.mov 2 (.k (.v (.int .i64 0))), some 2, none, false⟩]
def r_impl_Value_truth_5 : List GI := [⟨.mov 2 (.k (.v (.int .i64 2))), some 2, none, false⟩]
def dc_impl_Value_truth : DC := .seq (.reg r_impl_Value_truth_0 none) (.seq (.block 0 (.seq (.reg r_impl_Value_truth_1 none) (.cond (.t 3) (.seq (.reg r_impl_Value_truth_2 none) .ret) (.seq (.reg r_impl_Value_truth_3 none) (.cond (.t 6) (.seq (.reg r_impl_Value_truth_4 none) .ret) .skip))))) (.seq (.reg r_impl_Value_truth_5 none) .ret))
theorem c_impl_Value_truth : cfun Try.prog [] 103 = some (10, dc_impl_Value_truth, [(Res.tmp 2)]) := by kernel_rfl
def r_impl_EvalExpr_0 : List GI := [⟨.box 2 2000002 (.t 0) (some 5), some 2, none, false⟩, ⟨.alloc 4 2000004 [.v (.bool false), .v (.int .i64 0)], some 4, none, false⟩, ⟨.mov 5 (.k (.v (.bool false))), some 5, none, false⟩]
def r_impl_EvalExpr_1 : List GI := [⟨.mov 6 (.t 1), some 6, none, false⟩, ⟨.call 7 33 [.t 6], some 7, none, true⟩, ⟨.un 8 UnOp.not (.t 7), some 8, none, false⟩, ⟨.mov 9 (.t 8), some 9, none, false⟩, ⟨.lod 10 2 (some 5), some 10, some (9, false), false⟩, ⟨.mov 11 (.t 1), some 11, some (9, false), false⟩, ⟨.len 12 (.t 11), some 12, some (9, false), false⟩, ⟨.call 13 13 [.t 10, .t 12], some 13, some (9, false), true⟩, ⟨.un 14 UnOp.not (.t 13), some 14, some (9, false), false⟩, ⟨.pick 15 (.t 9) (.k (.v (.bool true))) (.t 14), some 15, none, false⟩]
def r_impl_EvalExpr_2 : List GI := [⟨.build 16 [.v (.bool false), .v (.int .i64 0)] [], some 16, none, false⟩, ⟨.sto 4 (.t 16) (some 2), none, none, false⟩, ⟨.mov 5 (.k (.v (.bool false))), some 5, none, false⟩]
def r_impl_EvalExpr_3 : List GI := [⟨.lod 17 2 (some 5), some 17, none, false⟩, ⟨.call 18 34 [.t 17], some 18, none, true⟩, ⟨.mov 19 (.t 1), some 19, none, false⟩, ⟨.inv 20 (.t 18) name_impl_value [.t 19], some 20, none, true⟩, ⟨.sto 4 (.t 20) (some 2), none, none, false⟩, ⟨.mov 5 (.k (.v (.bool true))), some 5, none, false⟩]
def dc_impl_EvalExpr : DC := .seq (.reg r_impl_EvalExpr_0 none) (.seq (.seq (.reg r_impl_EvalExpr_1 none) (.cond (.t 15) (.seq (.reg r_impl_EvalExpr_2 none) .ret) .skip)) (.seq (.reg r_impl_EvalExpr_3 none) .ret))
theorem c_impl_EvalExpr : cfun Try.prog [] 12 = some (21, dc_impl_EvalExpr, [(Res.cell 4 (some 2)), (Res.tmp 5)]) := by kernel_rfl
def r_impl_andTerm_value_0 : List GI := [⟨.box 2 2000002 (.t 0) (some 2), some 2, none, false⟩, ⟨.alloc 4 2000004 [.v (.bool false), .v (.int .i64 0)], some 4, none, false⟩]
def r_impl_andTerm_value_1 : List GI := [⟨.fad 8 2 0, some 8, none, false⟩, ⟨.lod 9 8 (some 2), some 9, none, false⟩, ⟨.mov 10 (.t 1), some 10, none, false⟩, ⟨.call 11 123 [.t 9, .t 10], some 11, none, true⟩, ⟨.mov 7 (.t 11), some 7, none, false⟩, ⟨.ext 12 7 0, some 12, none, false⟩, ⟨.ext 13 7 1, some 13, none, false⟩, ⟨.mov 5 (.t 12), some 5, none, false⟩, ⟨.mov 6 (.t 13), some 6, none, false⟩]
def r_impl_andTerm_value_2 : List GI := [⟨.mov 14 (.t 5), some 14, none, false⟩, ⟨.mov 15 (.t 6), some 15, none, false⟩, ⟨.mm 16 false (.t 14) (.t 15), some 16, none, false⟩, ⟨.call 17 105 [.t 16], some 17, none, true⟩, ⟨.sto 4 (.t 17) (some 2), none, none, false⟩]
def dc_impl_andTerm_value : DC := .seq (.reg r_impl_andTerm_value_0 none) (.seq (.reg r_impl_andTerm_value_1 none) (.seq (.reg r_impl_andTerm_value_2 none) .ret))
theorem c_impl_andTerm_value : cfun Try.prog [] 122 = some (18, dc_impl_andTerm_value, [(Res.cell 4 (some 2))]) := by kernel_rfl
def r_impl_columnTerm_value_0 : List GI := [⟨.box 2 2000002 (.t 0) (some 1), some 2, none, false⟩, ⟨.alloc 4 2000004 [.v (.bool false), .v (.int .i64 0)], some 4, none, false⟩]
def r_impl_columnTerm_value_1 : List GI := [⟨.mov 5 (.t 1), some 5, none, false⟩, ⟨.fad 6 2 0, some 6, none, false⟩, ⟨.lod 7 6 none, some 7, none, false⟩, ⟨.iad 8 5 (.t 7) 2, some 8, none, false⟩, ⟨.lod 9 8 (some 2), some 9, none, false⟩, ⟨.sto 4 (.t 9) (some 2), none, none, false⟩]
def dc_impl_columnTerm_value : DC := .seq (.reg r_impl_columnTerm_value_0 none) (.seq (.reg r_impl_columnTerm_value_1 none) .ret)
theorem c_impl_columnTerm_value : cfun Try.prog [] 100 = some (10, dc_impl_columnTerm_value, [(Res.cell 4 (some 2))]) := by kernel_rfl
def r_impl_constantTerm_value_0 : List GI := [⟨.box 2 2000002 (.t 0) (some 2), some 2, none, false⟩, ⟨.alloc 4 2000004 [.v (.bool false), .v (.int .i64 0)], some 4, none, false⟩]
def r_impl_constantTerm_value_1 : List GI := [⟨.fad 5 2 0, some 5, none, false⟩, ⟨.lod 6 5 (some 2), some 6, none, false⟩, ⟨.sto 4 (.t 6) (some 2), none, none, false⟩]
def dc_impl_constantTerm_value : DC := .seq (.reg r_impl_constantTerm_value_0 none) (.seq (.reg r_impl_constantTerm_value_1 none) .ret)
theorem c_impl_constantTerm_value : cfun Try.prog [] 101 = some (7, dc_impl_constantTerm_value, [(Res.cell 4 (some 2))]) := by kernel_rfl
def r_impl_differenceTerm_value_0 : List GI := [⟨.box 2 2000002 (.t 0) (some 2), some 2, none, false⟩, ⟨.alloc 4 2000004 [.v (.bool false), .v (.int .i64 0)], some 4, none, false⟩]
def r_impl_differenceTerm_value_1 : List GI := [⟨.fad 5 2 0, some 5, none, false⟩, ⟨.lod 6 5 (some 2), some 6, none, false⟩, ⟨.mov 7 (.t 1), some 7, none, false⟩, ⟨.call 8 110 [.t 6, .t 7, .k (.fn 114 [])], some 8, none, true⟩, ⟨.sto 4 (.t 8) (some 2), none, none, false⟩]
def dc_impl_differenceTerm_value : DC := .seq (.reg r_impl_differenceTerm_value_0 none) (.seq (.reg r_impl_differenceTerm_value_1 none) .ret)
theorem c_impl_differenceTerm_value : cfun Try.prog [] 113 = some (9, dc_impl_differenceTerm_value, [(Res.cell 4 (some 2))]) := by kernel_rfl
def r_impl_differenceTerm_value_1_0 : List GI := [⟨.mov 4 (.k (.v (.int .i64 0))), some 4, none, false⟩]
def r_impl_differenceTerm_value_1_1 : List GI := [⟨.mov 5 (.t 0), some 5, none, false⟩, ⟨.mov 6 (.t 1), some 6, none, false⟩, ⟨.bin 7 .sub (.t 5) (.t 6), some 7, none, false⟩, ⟨.mov 4 (.t 7), some 4, none, false⟩]
def dc_impl_differenceTerm_value_1 : DC := .seq (.reg r_impl_differenceTerm_value_1_0 none) (.seq (.reg r_impl_differenceTerm_value_1_1 none) .ret)
theorem c_impl_differenceTerm_value_1 : cfun Try.prog [] 114 = some (8, dc_impl_differenceTerm_value_1, [(Res.tmp 4)]) := by kernel_rfl
def r_impl_equalTerm_value_0 : List GI := [⟨.box 2 2000002 (.t 0) (some 2), some 2, none, false⟩, ⟨.alloc 4 2000004 [.v (.bool false), .v (.int .i64 0)], some 4, none, false⟩]
def r_impl_equalTerm_value_1 : List GI := [⟨.fad 5 2 0, some 5, none, false⟩, ⟨.lod 6 5 (some 2), some 6, none, false⟩, ⟨.mov 7 (.t 1), some 7, none, false⟩, ⟨.call 8 118 [.t 6, .t 7, .k (.fn 119 [])], some 8, none, true⟩, ⟨.sto 4 (.t 8) (some 2), none, none, false⟩]
def dc_impl_equalTerm_value : DC := .seq (.reg r_impl_equalTerm_value_0 none) (.seq (.reg r_impl_equalTerm_value_1 none) .ret)
theorem c_impl_equalTerm_value : cfun Try.prog [] 117 = some (9, dc_impl_equalTerm_value, [(Res.cell 4 (some 2))]) := by kernel_rfl
def r_impl_equalTerm_value_1_0 : List GI := [⟨.mov 4 (.k (.v (.bool false))), some 4, none, false⟩]
def r_impl_equalTerm_value_1_1 : List GI := [⟨.mov 5 (.t 0), some 5, none, false⟩, ⟨.mov 6 (.t 1), some 6, none, false⟩, ⟨.bin 7 .eql (.t 5) (.t 6), some 7, none, false⟩, ⟨.mov 4 (.t 7), some 4, none, false⟩]
def dc_impl_equalTerm_value_1 : DC := .seq (.reg r_impl_equalTerm_value_1_0 none) (.seq (.reg r_impl_equalTerm_value_1_1 none) .ret)
theorem c_impl_equalTerm_value_1 : cfun Try.prog [] 119 = some (8, dc_impl_equalTerm_value_1, [(Res.tmp 4)]) := by kernel_rfl
def r_impl_lessTerm_value_0 : List GI := [⟨.box 2 2000002 (.t 0) (some 2), some 2, none, false⟩, ⟨.alloc 4 2000004 [.v (.bool false), .v (.int .i64 0)], some 4, none, false⟩]
def r_impl_lessTerm_value_1 : List GI := [⟨.fad 5 2 0, some 5, none, false⟩, ⟨.lod 6 5 (some 2), some 6, none, false⟩, ⟨.mov 7 (.t 1), some 7, none, false⟩, ⟨.call 8 118 [.t 6, .t 7, .k (.fn 121 [])], some 8, none, true⟩, ⟨.sto 4 (.t 8) (some 2), none, none, false⟩]
def dc_impl_lessTerm_value : DC := .seq (.reg r_impl_lessTerm_value_0 none) (.seq (.reg r_impl_lessTerm_value_1 none) .ret)
theorem c_impl_lessTerm_value : cfun Try.prog [] 120 = some (9, dc_impl_lessTerm_value, [(Res.cell 4 (some 2))]) := by kernel_rfl
def r_impl_lessTerm_value_1_0 : List GI := [⟨.mov 4 (.k (.v (.bool false))), some 4, none, false⟩]
def r_impl_lessTerm_value_1_1 : List GI := [⟨.mov 5 (.t 0), some 5, none, false⟩, ⟨.mov 6 (.t 1), some 6, none, false⟩, ⟨.bin 7 .lss (.t 5) (.t 6), some 7, none, false⟩, ⟨.mov 4 (.t 7), some 4, none, false⟩]
def dc_impl_lessTerm_value_1 : DC := .seq (.reg r_impl_lessTerm_value_1_0 none) (.seq (.reg r_impl_lessTerm_value_1_1 none) .ret)
theorem c_impl_lessTerm_value_1 : cfun Try.prog [] 121 = some (8, dc_impl_lessTerm_value_1, [(Res.tmp 4)]) := by kernel_rfl
def r_impl_notTerm_value_0 : List GI := [⟨.box 2 2000002 (.t 0) (some 1), some 2, none, false⟩, ⟨.alloc 4 2000004 [.v (.bool false), .v (.int .i64 0)], some 4, none, false⟩]
def r_impl_notTerm_value_1 : List GI := [⟨.fad 5 2 0, some 5, none, false⟩, ⟨.lod 6 5 none, some 6, none, false⟩, ⟨.mov 7 (.t 1), some 7, none, false⟩, ⟨.inv 8 (.t 6) name_impl_value [.t 7], some 8, none, true⟩, ⟨.call 9 103 [.t 8], some 9, none, true⟩, ⟨.call 10 104 [.t 9], some 10, none, true⟩, ⟨.call 11 105 [.t 10], some 11, none, true⟩, ⟨.sto 4 (.t 11) (some 2), none, none, false⟩]
def dc_impl_notTerm_value : DC := .seq (.reg r_impl_notTerm_value_0 none) (.seq (.reg r_impl_notTerm_value_1 none) .ret)
theorem c_impl_notTerm_value : cfun Try.prog [] 102 = some (12, dc_impl_notTerm_value, [(Res.cell 4 (some 2))]) := by kernel_rfl
def r_impl_nullTerm_value_0 : List GI := [⟨.box 2 2000002 (.t 0) (some 1), some 2, none, false⟩, ⟨.alloc 4 2000004 [.v (.bool false), .v (.int .i64 0)], some 4, none, false⟩]
def r_impl_nullTerm_value_1 : List GI := [⟨.fad 5 2 0, some 5, none, false⟩, ⟨.lod 6 5 none, some 6, none, false⟩, ⟨.mov 7 (.t 1), some 7, none, false⟩, ⟨.inv 8 (.t 6) name_impl_value [.t 7], some 8, none, true⟩, ⟨.fld 9 (.t 8) 0 none, some 9, none, false⟩, ⟨.call 10 107 [.t 9], some 10, none, true⟩, ⟨.call 11 105 [.t 10], some 11, none, true⟩, ⟨.sto 4 (.t 11) (some 2), none, none, false⟩]
def dc_impl_nullTerm_value : DC := .seq (.reg r_impl_nullTerm_value_0 none) (.seq (.reg r_impl_nullTerm_value_1 none) .ret)
theorem c_impl_nullTerm_value : cfun Try.prog [] 106 = some (12, dc_impl_nullTerm_value, [(Res.cell 4 (some 2))]) := by kernel_rfl
def r_impl_orTerm_value_0 : List GI := [⟨.box 2 2000002 (.t 0) (some 2), some 2, none, false⟩, ⟨.alloc 4 2000004 [.v (.bool false), .v (.int .i64 0)], some 4, none, false⟩]
def r_impl_orTerm_value_1 : List GI := [⟨.fad 8 2 0, some 8, none, false⟩, ⟨.lod 9 8 (some 2), some 9, none, false⟩, ⟨.mov 10 (.t 1), some 10, none, false⟩, ⟨.call 11 123 [.t 9, .t 10], some 11, none, true⟩, ⟨.mov 7 (.t 11), some 7, none, false⟩, ⟨.ext 12 7 0, some 12, none, false⟩, ⟨.ext 13 7 1, some 13, none, false⟩, ⟨.mov 5 (.t 12), some 5, none, false⟩, ⟨.mov 6 (.t 13), some 6, none, false⟩]
def r_impl_orTerm_value_2 : List GI := [⟨.mov 14 (.t 5), some 14, none, false⟩, ⟨.mov 15 (.t 6), some 15, none, false⟩, ⟨.mm 16 true (.t 14) (.t 15), some 16, none, false⟩, ⟨.call 17 105 [.t 16], some 17, none, true⟩, ⟨.sto 4 (.t 17) (some 2), none, none, false⟩]
def dc_impl_orTerm_value : DC := .seq (.reg r_impl_orTerm_value_0 none) (.seq (.reg r_impl_orTerm_value_1 none) (.seq (.reg r_impl_orTerm_value_2 none) .ret))
theorem c_impl_orTerm_value : cfun Try.prog [] 124 = some (18, dc_impl_orTerm_value, [(Res.cell 4 (some 2))]) := by kernel_rfl
end
end Go.Proofs.Ytbojmjopkadnaaa
