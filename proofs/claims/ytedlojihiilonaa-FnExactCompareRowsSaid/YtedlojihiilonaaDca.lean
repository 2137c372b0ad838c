/-
  Functions of the program read as code on plain data. Closed facts of the program alone.
-/
import Derived.Test.YtedlojihiilonaaRows
import Derived.Test.YtedlojihiilonaaVLib
import Derived.KernelRfl
namespace Go.Proofs.Ytedlojihiilonaa
open Go.RowKit
noncomputable section
theorem mixed : Try.prog.follows .mixedOrders = true := by kernel_rfl
def r_cmp_Compare_int__0 : List GI := [⟨.mov 4 (.k (.v (.int .i64 0))), some 4, none, false⟩]
def r_cmp_Compare_int__1 : List GI := [⟨.mov 7 (.t 0), some 7, none, false⟩, ⟨.call 8 64 [.t 7], some 8, none, true⟩, ⟨.mov 5 (.t 8), some 5, none, false⟩]
def r_cmp_Compare_int__2 : List GI := [⟨.mov 9 (.t 1), some 9, none, false⟩, ⟨.call 10 64 [.t 9], some 10, none, true⟩, ⟨.mov 6 (.t 10), some 6, none, false⟩]
def r_cmp_Compare_int__3 : List GI := [⟨.mov 11 (.t 5), some 11, none, false⟩]
def r_cmp_Compare_int__4 : List GI := [⟨.mov 12 (.t 6), some 12, none, false⟩]
def r_cmp_Compare_int__5 : List GI := [⟨.mov 4 (.k (.v (.int .i64 0))), some 4, none, false⟩]
def r_cmp_Compare_int__6 : List GI := [⟨.mov 4 (.k (.v (.int .i64 (-1)))), some 4, none, false⟩]
def r_cmp_Compare_int__7 : List GI := [⟨.mov 13 (.t 6), some 13, none, false⟩]
def r_cmp_Compare_int__8 : List GI := [⟨.mov 4 (.k (.v (.int .i64 1))), some 4, none, false⟩]
def r_cmp_Compare_int__9 : List GI := [⟨.mov 14 (.t 0), some 14, none, false⟩, ⟨.mov 15 (.t 1), some 15, none, false⟩, ⟨.bin 16 .lss (.t 14) (.t 15), some 16, none, false⟩]
def r_cmp_Compare_int__10 : List GI := [⟨.mov 4 (.k (.v (.int .i64 (-1)))), some 4, none, false⟩]
def r_cmp_Compare_int__11 : List GI := [⟨.mov 17 (.t 0), some 17, none, false⟩, ⟨.mov 18 (.t 1), some 18, none, false⟩, ⟨.bin 19 .gtr (.t 17) (.t 18), some 19, none, false⟩]
def r_cmp_Compare_int__12 : List GI := [⟨.mov 4 (.k (.v (.int .i64 1))), some 4, none, false⟩]
def r_cmp_Compare_int__13 : List GI := [⟨.mov 4 (.k (.v (.int .i64 0))), some 4, none, false⟩]
def dc_cmp_Compare_int_ : DC := .seq (.reg r_cmp_Compare_int__0 none) (.seq (.reg r_cmp_Compare_int__1 none) (.seq (.reg r_cmp_Compare_int__2 none) (.seq (.seq (.reg r_cmp_Compare_int__3 none) (.cond (.t 11) (.seq (.seq (.reg r_cmp_Compare_int__4 none) (.cond (.t 12) (.seq (.reg r_cmp_Compare_int__5 none) .ret) .skip)) (.seq (.reg r_cmp_Compare_int__6 none) .ret)) .skip)) (.seq (.seq (.reg r_cmp_Compare_int__7 none) (.cond (.t 13) (.seq (.reg r_cmp_Compare_int__8 none) .ret) .skip)) (.seq (.seq (.reg r_cmp_Compare_int__9 none) (.cond (.t 16) (.seq (.reg r_cmp_Compare_int__10 none) .ret) .skip)) (.seq (.seq (.reg r_cmp_Compare_int__11 none) (.cond (.t 19) (.seq (.reg r_cmp_Compare_int__12 none) .ret) .skip)) (.seq (.reg r_cmp_Compare_int__13 none) .ret)))))))
theorem c_cmp_Compare_int_ : cfun Try.prog [] 56 = some (20, dc_cmp_Compare_int_, [(Res.tmp 4)]) := by kernel_rfl
def r_cmp_isNaN_int__0 : List GI := [⟨.mov 2 (.k (.v (.bool false))), some 2, none, false⟩]
def r_cmp_isNaN_int__1 : List GI := [⟨.mov 3 (.t 0), some 3, none, false⟩, ⟨.mov 4 (.t 0), some 4, none, false⟩, ⟨.bin 5 .neq (.t 3) (.t 4), some 5, none, false⟩, ⟨.mov 2 (.t 5), some 2, none, false⟩]
def dc_cmp_isNaN_int_ : DC := .seq (.reg r_cmp_isNaN_int__0 none) (.seq (.reg r_cmp_isNaN_int__1 none) .ret)
theorem c_cmp_isNaN_int_ : cfun Try.prog [] 64 = some (6, dc_cmp_isNaN_int_, [(Res.tmp 2)]) := by kernel_rfl
def r_impl_Value_valid_0 : List GI := [⟨.box 1 2000001 (.t 0) (some 2), some 1, none, false⟩, ⟨.mov 2 (.k (.v (.bool false))), some 2, none, false⟩]
def r_impl_Value_valid_1 : List GI := [⟨.fad 3 1 0, some 3, none, false⟩, ⟨.lod 4 3 none, some 4, none, false⟩]
def r_impl_Value_valid_2 : List GI := [⟨.fad 5 1 1, some 5, none, false⟩, ⟨.lod 6 5 none, some 6, none, false⟩, ⟨.bin 7 .eql (.t 6) (.k (.v (.int .i64 0))), some 7, none, false⟩, ⟨.mov 2 (.t 7), some 2, none, false⟩]
def r_impl_Value_valid_3 : List GI := [⟨.fad 8 1 1, some 8, none, false⟩, ⟨.lod 9 8 none, some 9, none, false⟩, ⟨.bin 10 .leq (.k (.v (.int .i64 (-9999)))) (.t 9), some 10, none, false⟩, ⟨.mov 11 (.t 10), some 11, none, false⟩, ⟨.fad 12 1 1, some 12, some (11, true), false⟩, ⟨.lod 13 12 none, some 13, some (11, true), false⟩, ⟨.bin 14 .leq (.t 13) (.k (.v (.int .i64 9999))), some 14, some (11, true), false⟩, ⟨.pick 15 (.t 11) (.t 14) (.k (.v (.bool false))), some 15, none, false⟩, ⟨.mov 2 (.t 15), some 2, none, false⟩]
def dc_impl_Value_valid : DC := .seq (.reg r_impl_Value_valid_0 none) (.seq (.seq (.reg r_impl_Value_valid_1 none) (.cond (.t 4) (.seq (.reg r_impl_Value_valid_2 none) .ret) .skip)) (.seq (.reg r_impl_Value_valid_3 none) .ret))
theorem c_impl_Value_valid : cfun Try.prog [] 33 = some (16, dc_impl_Value_valid, [(Res.tmp 2)]) := by kernel_rfl
def r_impl_validRow_0 : List GI := [⟨.mov 2 (.k (.v (.bool false))), some 2, none, false⟩]
def r_impl_validRow_1 : List GI := [⟨.mov 3 (.t 0), some 3, none, false⟩, ⟨.len 4 (.t 3), some 4, none, false⟩, ⟨.call 5 51 [.t 4], some 5, none, true⟩, ⟨.mov 6 (.t 5), some 6, none, false⟩, ⟨.mov 7 (.t 0), some 7, some (6, true), false⟩, ⟨.call 8 52 [.t 7], some 8, some (6, true), true⟩, ⟨.pick 9 (.t 6) (.t 8) (.k (.v (.bool false))), some 9, none, false⟩, ⟨.mov 2 (.t 9), some 2, none, false⟩]
def dc_impl_validRow : DC := .seq (.reg r_impl_validRow_0 none) (.seq (.reg r_impl_validRow_1 none) .ret)
theorem c_impl_validRow : cfun Try.prog [] 29 = some (10, dc_impl_validRow, [(Res.tmp 2)]) := by kernel_rfl
def r_impl_validValues_0 : List GI := [⟨.mov 2 (.k (.v (.bool false))), some 2, none, false⟩]
def r_impl_validValues_1 : List GI := [⟨.mov 5 (.t 0), some 5, none, false⟩, ⟨.len 6 (.t 5), some 6, none, false⟩, ⟨.mov 7 (.k (.v (.int .i64 0))), some 7, none, false⟩]
def r_impl_validValues_2 : List GI := [⟨.bin 8 .lss (.t 7) (.t 6), some 8, none, false⟩]
def r_impl_validValues_3 : List GI := [⟨.iad 9 5 (.t 7) 2, some 9, none, false⟩, ⟨.lod 10 9 (some 2), some 10, none, false⟩, ⟨.alloc 4 2000004 [.v (.bool false), .v (.int .i64 0)], some 4, none, false⟩, ⟨.sto 4 (.t 10) (some 2), none, none, false⟩]
def r_impl_validValues_4 : List GI := [⟨.lod 11 4 (some 2), some 11, none, false⟩, ⟨.call 12 33 [.t 11], some 12, none, true⟩, ⟨.un 13 UnOp.not (.t 12), some 13, none, false⟩]
def r_impl_validValues_5 : List GI := [⟨.mov 2 (.k (.v (.bool false))), some 2, none, false⟩]
def r_impl_validValues_6 : List GI := [⟨.bin 14 .add (.t 7) (.k (.v (.int .i64 1))), some 14, none, false⟩, ⟨.mov 7 (.t 14), some 7, none, false⟩]
def r_impl_validValues_7 : List GI := [⟨.mov 2 (.k (.v (.bool true))), some 2, none, false⟩]
def dc_impl_validValues : DC := .seq (.reg r_impl_validValues_0 none) (.seq (.seq (.reg r_impl_validValues_1 none) (.block 0 (.loop (.seq (.reg r_impl_validValues_2 none) (.seq (.cond (.t 8) .skip (.exit 0)) (.seq (.block 1 (.seq (.reg r_impl_validValues_3 none) (.seq (.reg r_impl_validValues_4 none) (.cond (.t 13) (.seq (.reg r_impl_validValues_5 none) .ret) .skip)))) (.reg r_impl_validValues_6 none))))))) (.seq (.reg r_impl_validValues_7 none) .ret))
theorem c_impl_validValues : cfun Try.prog [] 52 = some (15, dc_impl_validValues, [(Res.tmp 2)]) := by kernel_rfl
def r_impl_validWidth_0 : List GI := [⟨.mov 2 (.k (.v (.bool false))), some 2, none, false⟩]
def r_impl_validWidth_1 : List GI := [⟨.mov 3 (.t 0), some 3, none, false⟩, ⟨.bin 4 .leq (.k (.v (.int .i64 1))) (.t 3), some 4, none, false⟩, ⟨.mov 5 (.t 4), some 5, none, false⟩, ⟨.mov 6 (.t 0), some 6, some (5, true), false⟩, ⟨.bin 7 .leq (.t 6) (.k (.v (.int .i64 6))), some 7, some (5, true), false⟩, ⟨.pick 8 (.t 5) (.t 7) (.k (.v (.bool false))), some 8, none, false⟩, ⟨.mov 2 (.t 8), some 2, none, false⟩]
def dc_impl_validWidth : DC := .seq (.reg r_impl_validWidth_0 none) (.seq (.reg r_impl_validWidth_1 none) .ret)
theorem c_impl_validWidth : cfun Try.prog [] 51 = some (9, dc_impl_validWidth, [(Res.tmp 2)]) := by kernel_rfl
def r_spec_inRange_0 : List GI := [⟨.mov 6 (.k (.v (.bool false))), some 6, none, false⟩]
def r_spec_inRange_1 : List GI := [⟨.mov 7 (.t 0), some 7, none, false⟩, ⟨.mov 8 (.t 1), some 8, none, false⟩, ⟨.bin 9 .geq (.t 7) (.t 8), some 9, none, false⟩, ⟨.mov 10 (.t 9), some 10, none, false⟩, ⟨.mov 11 (.t 0), some 11, some (10, true), false⟩, ⟨.mov 12 (.t 2), some 12, some (10, true), false⟩, ⟨.bin 13 .leq (.t 11) (.t 12), some 13, some (10, true), false⟩, ⟨.pick 14 (.t 10) (.t 13) (.k (.v (.bool false))), some 14, none, false⟩, ⟨.mov 6 (.t 14), some 6, none, false⟩]
def dc_spec_inRange : DC := .seq (.reg r_spec_inRange_0 none) (.seq (.reg r_spec_inRange_1 none) .ret)
theorem c_spec_inRange : cfun Try.prog [] 54 = some (15, dc_spec_inRange, [(Res.tmp 6)]) := by kernel_rfl
def r_spec_validRow_0 : List GI := [⟨.mov 2 (.k (.v (.bool false))), some 2, none, false⟩]
def r_spec_validRow_1 : List GI := [⟨.mov 3 (.k (.v (.int .i64 0))), some 3, none, false⟩]
def r_spec_validRow_2 : List GI := [⟨.mov 4 (.t 3), some 4, none, false⟩, ⟨.mov 5 (.t 0), some 5, none, false⟩, ⟨.len 6 (.t 5), some 6, none, false⟩, ⟨.bin 7 .lss (.t 4) (.t 6), some 7, none, false⟩]
def r_spec_validRow_3 : List GI := [⟨.mov 10 (.t 0), some 10, none, false⟩, ⟨.mov 11 (.t 3), some 11, none, false⟩, ⟨.iad 12 10 (.t 11) 2, some 12, none, false⟩, ⟨.lod 13 12 (some 2), some 13, none, false⟩, ⟨.call 14 53 [.t 13], some 14, none, true⟩, ⟨.un 15 UnOp.not (.t 14), some 15, none, false⟩]
def r_spec_validRow_4 : List GI := [⟨.mov 2 (.k (.v (.bool false))), some 2, none, false⟩]
def r_spec_validRow_5 : List GI := [⟨.mov 8 (.t 3), some 8, none, false⟩, ⟨.bin 9 .add (.t 8) (.k (.v (.int .i64 1))), some 9, none, false⟩, ⟨.mov 3 (.t 9), some 3, none, false⟩]
def r_spec_validRow_6 : List GI := [⟨.mov 16 (.t 0), some 16, none, false⟩, ⟨.len 17 (.t 16), some 17, none, false⟩, ⟨.call 18 54 [.t 17, .k (.v (.int .i64 1)), .k (.v (.int .i64 6))], some 18, none, true⟩, ⟨.mov 2 (.t 18), some 2, none, false⟩]
def dc_spec_validRow : DC := .seq (.reg r_spec_validRow_0 none) (.seq (.seq (.reg r_spec_validRow_1 none) (.block 0 (.loop (.seq (.seq (.reg r_spec_validRow_2 none) (.cond (.t 7) .skip (.exit 0))) (.seq (.block 1 (.seq (.reg r_spec_validRow_3 none) (.cond (.t 15) (.seq (.reg r_spec_validRow_4 none) .ret) .skip))) (.reg r_spec_validRow_5 none)))))) (.seq (.reg r_spec_validRow_6 none) .ret))
theorem c_spec_validRow : cfun Try.prog [] 31 = some (19, dc_spec_validRow, [(Res.tmp 2)]) := by kernel_rfl
def r_spec_validValue_0 : List GI := [⟨.box 1 2000001 (.t 0) (some 2), some 1, none, false⟩, ⟨.mov 2 (.k (.v (.bool false))), some 2, none, false⟩]
def r_spec_validValue_1 : List GI := [⟨.fad 3 1 1, some 3, none, false⟩, ⟨.lod 4 3 none, some 4, none, false⟩, ⟨.call 5 54 [.t 4, .k (.v (.int .i64 (-9999))), .k (.v (.int .i64 9999))], some 5, none, true⟩, ⟨.mov 6 (.t 5), some 6, none, false⟩, ⟨.fad 7 1 0, some 7, some (6, true), false⟩, ⟨.lod 8 7 none, some 8, some (6, true), false⟩, ⟨.un 9 UnOp.not (.t 8), some 9, some (6, true), false⟩, ⟨.mov 10 (.t 9), some 10, some (6, true), false⟩, ⟨.fad 11 1 1, some 11, some (10, false), false⟩, ⟨.lod 12 11 none, some 12, some (10, false), false⟩, ⟨.bin 13 .eql (.t 12) (.k (.v (.int .i64 0))), some 13, some (10, false), false⟩, ⟨.pick 14 (.t 10) (.k (.v (.bool true))) (.t 13), some 14, some (6, true), false⟩, ⟨.pick 15 (.t 6) (.t 14) (.k (.v (.bool false))), some 15, none, false⟩, ⟨.mov 2 (.t 15), some 2, none, false⟩]
def dc_spec_validValue : DC := .seq (.reg r_spec_validValue_0 none) (.seq (.reg r_spec_validValue_1 none) .ret)
theorem c_spec_validValue : cfun Try.prog [] 53 = some (16, dc_spec_validValue, [(Res.tmp 2)]) := by kernel_rfl
def r_impl_Value_compare_0 : List GI := [⟨.box 2 2000002 (.t 0) (some 2), some 2, none, false⟩, ⟨.box 3 2000003 (.t 1) (some 2), some 3, none, false⟩, ⟨.mov 4 (.k (.v (.int .i64 0))), some 4, none, false⟩]
def r_impl_Value_compare_1 : List GI := [⟨.fad 6 2 0, some 6, none, false⟩, ⟨.lod 7 6 none, some 7, none, false⟩, ⟨.mov 8 (.t 7), some 8, none, false⟩, ⟨.fad 9 3 0, some 9, some (8, true), false⟩, ⟨.lod 10 9 none, some 10, some (8, true), false⟩, ⟨.pick 11 (.t 8) (.t 10) (.k (.v (.bool false))), some 11, none, false⟩, ⟨.mov 5 (.t 11), some 5, none, false⟩]
def r_impl_Value_compare_2 : List GI := [⟨.mov 4 (.k (.v (.int .i64 0))), some 4, none, false⟩]
def r_impl_Value_compare_3 : List GI := [⟨.fad 13 2 0, some 13, none, false⟩, ⟨.lod 14 13 none, some 14, none, false⟩, ⟨.mov 12 (.t 14), some 12, none, false⟩]
def r_impl_Value_compare_4 : List GI := [⟨.mov 4 (.k (.v (.int .i64 (-1)))), some 4, none, false⟩]
def r_impl_Value_compare_5 : List GI := [⟨.fad 16 3 0, some 16, none, false⟩, ⟨.lod 17 16 none, some 17, none, false⟩, ⟨.mov 15 (.t 17), some 15, none, false⟩]
def r_impl_Value_compare_6 : List GI := [⟨.mov 4 (.k (.v (.int .i64 1))), some 4, none, false⟩]
def r_impl_Value_compare_7 : List GI := [⟨.fad 18 2 1, some 18, none, false⟩, ⟨.lod 19 18 none, some 19, none, false⟩, ⟨.fad 20 3 1, some 20, none, false⟩, ⟨.lod 21 20 none, some 21, none, false⟩, ⟨.call 22 56 [.t 19, .t 21], some 22, none, true⟩, ⟨.mov 4 (.t 22), some 4, none, false⟩]
def dc_impl_Value_compare : DC := .seq (.reg r_impl_Value_compare_0 none) (.seq (.block 0 (.seq (.reg r_impl_Value_compare_1 none) (.cond (.t 5) (.seq (.reg r_impl_Value_compare_2 none) .ret) (.seq (.reg r_impl_Value_compare_3 none) (.cond (.t 12) (.seq (.reg r_impl_Value_compare_4 none) .ret) (.seq (.reg r_impl_Value_compare_5 none) (.cond (.t 15) (.seq (.reg r_impl_Value_compare_6 none) .ret) .skip))))))) (.seq (.reg r_impl_Value_compare_7 none) .ret))
theorem c_impl_Value_compare : cfun Try.prog [] 34 = some (23, dc_impl_Value_compare, [(Res.tmp 4)]) := by kernel_rfl
def r_spec_compareValues_0 : List GI := [⟨.box 2 2000002 (.t 0) (some 2), some 2, none, false⟩, ⟨.box 3 2000003 (.t 1) (some 2), some 3, none, false⟩, ⟨.mov 4 (.k (.v (.int .i64 0))), some 4, none, false⟩]
def r_spec_compareValues_1 : List GI := [⟨.lod 6 2 (some 2), some 6, none, false⟩, ⟨.lod 7 3 (some 2), some 7, none, false⟩, ⟨.eqs 8 false [false, true] (.t 6) (.t 7), some 8, none, false⟩, ⟨.mov 5 (.t 8), some 5, none, false⟩]
def r_spec_compareValues_2 : List GI := [⟨.mov 4 (.k (.v (.int .i64 0))), some 4, none, false⟩]
def r_spec_compareValues_3 : List GI := [⟨.fad 10 2 0, some 10, none, false⟩, ⟨.lod 11 10 none, some 11, none, false⟩, ⟨.mov 12 (.t 11), some 12, none, false⟩, ⟨.fad 13 3 0, some 13, some (12, false), false⟩, ⟨.lod 14 13 none, some 14, some (12, false), false⟩, ⟨.un 15 UnOp.not (.t 14), some 15, some (12, false), false⟩, ⟨.mov 16 (.t 15), some 16, some (12, false), false⟩, ⟨.fad 17 2 1, some 17, some (16, true), false⟩, ⟨.lod 18 17 none, some 18, some (16, true), false⟩, ⟨.fad 19 3 1, some 19, some (16, true), false⟩, ⟨.lod 20 19 none, some 20, some (16, true), false⟩, ⟨.bin 21 .lss (.t 18) (.t 20), some 21, some (16, true), false⟩, ⟨.pick 22 (.t 16) (.t 21) (.k (.v (.bool false))), some 22, some (12, false), false⟩, ⟨.pick 23 (.t 12) (.k (.v (.bool true))) (.t 22), some 23, none, false⟩, ⟨.mov 9 (.t 23), some 9, none, false⟩]
def r_spec_compareValues_4 : List GI := [⟨.mov 4 (.k (.v (.int .i64 (-1)))), some 4, none, false⟩]
def r_spec_compareValues_5 : List GI := [⟨.mov 4 (.k (.v (.int .i64 1))), some 4, none, false⟩]
def dc_spec_compareValues : DC := .seq (.reg r_spec_compareValues_0 none) (.seq (.block 0 (.seq (.reg r_spec_compareValues_1 none) (.cond (.t 5) (.seq (.reg r_spec_compareValues_2 none) .ret) (.seq (.reg r_spec_compareValues_3 none) (.cond (.t 9) (.seq (.reg r_spec_compareValues_4 none) .ret) .skip))))) (.seq (.reg r_spec_compareValues_5 none) .ret))
theorem c_spec_compareValues : cfun Try.prog [] 55 = some (24, dc_spec_compareValues, [(Res.tmp 4)]) := by kernel_rfl
def r_impl_compareRows_0 : List GI := [⟨.mov 4 (.k (.v (.int .i64 0))), some 4, none, false⟩]
def r_impl_compareRows_1 : List GI := [⟨.mov 7 (.t 0), some 7, none, false⟩, ⟨.len 8 (.t 7), some 8, none, false⟩, ⟨.mov 9 (.k (.v (.int .i64 0))), some 9, none, false⟩]
def r_impl_compareRows_2 : List GI := [⟨.bin 10 .lss (.t 9) (.t 8), some 10, none, false⟩]
def r_impl_compareRows_3 : List GI := [⟨.mov 11 (.t 9), some 11, none, false⟩, ⟨.mov 5 (.t 11), some 5, none, false⟩]
def r_impl_compareRows_4 : List GI := [⟨.mov 12 (.t 0), some 12, none, false⟩, ⟨.mov 13 (.t 5), some 13, none, false⟩, ⟨.iad 14 12 (.t 13) 2, some 14, none, false⟩, ⟨.lod 15 14 (some 2), some 15, none, false⟩, ⟨.mov 16 (.t 1), some 16, none, false⟩, ⟨.mov 17 (.t 5), some 17, none, false⟩, ⟨.iad 18 16 (.t 17) 2, some 18, none, false⟩, ⟨.lod 19 18 (some 2), some 19, none, false⟩, ⟨.call 20 34 [.t 15, .t 19], some 20, none, true⟩, ⟨.mov 6 (.t 20), some 6, none, false⟩]
def r_impl_compareRows_5 : List GI := [⟨.mov 21 (.t 6), some 21, none, false⟩, ⟨.bin 22 .neq (.t 21) (.k (.v (.int .i64 0))), some 22, none, false⟩]
def r_impl_compareRows_6 : List GI := [⟨.mov 23 (.t 6), some 23, none, false⟩, ⟨.mov 4 (.t 23), some 4, none, false⟩]
def r_impl_compareRows_7 : List GI := [⟨.bin 24 .add (.t 9) (.k (.v (.int .i64 1))), some 24, none, false⟩, ⟨.mov 9 (.t 24), some 9, none, false⟩]
def r_impl_compareRows_8 : List GI := [⟨.mov 4 (.k (.v (.int .i64 0))), some 4, none, false⟩]
def dc_impl_compareRows : DC := .seq (.reg r_impl_compareRows_0 none) (.seq (.seq (.reg r_impl_compareRows_1 none) (.block 0 (.loop (.seq (.reg r_impl_compareRows_2 none) (.seq (.cond (.t 10) .skip (.exit 0)) (.seq (.block 1 (.seq (.reg r_impl_compareRows_3 none) (.seq (.reg r_impl_compareRows_4 (some [0, 0, 3, 7, 0, 0, 48, 112, 255, 511])) (.seq (.reg r_impl_compareRows_5 none) (.cond (.t 22) (.seq (.reg r_impl_compareRows_6 none) .ret) .skip))))) (.reg r_impl_compareRows_7 none))))))) (.seq (.reg r_impl_compareRows_8 none) .ret))
theorem c_impl_compareRows : cfun Try.prog [] 30 = some (25, dc_impl_compareRows, [(Res.tmp 4)]) := by kernel_rfl
def r_spec_compareRows_0 : List GI := [⟨.mov 4 (.k (.v (.int .i64 0))), some 4, none, false⟩]
def r_spec_compareRows_1 : List GI := [⟨.mov 5 (.k (.v (.int .i64 0))), some 5, none, false⟩]
def r_spec_compareRows_2 : List GI := [⟨.mov 7 (.t 5), some 7, none, false⟩, ⟨.mov 8 (.t 0), some 8, none, false⟩, ⟨.len 9 (.t 8), some 9, none, false⟩, ⟨.bin 10 .lss (.t 7) (.t 9), some 10, none, false⟩, ⟨.mov 11 (.t 10), some 11, none, false⟩, ⟨.mov 12 (.t 5), some 12, some (11, true), false⟩, ⟨.mov 13 (.t 1), some 13, some (11, true), false⟩, ⟨.len 14 (.t 13), some 14, some (11, true), false⟩, ⟨.bin 15 .lss (.t 12) (.t 14), some 15, some (11, true), false⟩, ⟨.pick 16 (.t 11) (.t 15) (.k (.v (.bool false))), some 16, none, false⟩]
def r_spec_compareRows_3 : List GI := [⟨.mov 19 (.t 0), some 19, none, false⟩, ⟨.mov 20 (.t 5), some 20, none, false⟩, ⟨.iad 21 19 (.t 20) 2, some 21, none, false⟩, ⟨.lod 22 21 (some 2), some 22, none, false⟩, ⟨.mov 23 (.t 1), some 23, none, false⟩, ⟨.mov 24 (.t 5), some 24, none, false⟩, ⟨.iad 25 23 (.t 24) 2, some 25, none, false⟩, ⟨.lod 26 25 (some 2), some 26, none, false⟩, ⟨.call 27 55 [.t 22, .t 26], some 27, none, true⟩, ⟨.mov 6 (.t 27), some 6, none, false⟩]
def r_spec_compareRows_4 : List GI := [⟨.mov 28 (.t 6), some 28, none, false⟩, ⟨.bin 29 .neq (.t 28) (.k (.v (.int .i64 0))), some 29, none, false⟩]
def r_spec_compareRows_5 : List GI := [⟨.mov 30 (.t 6), some 30, none, false⟩, ⟨.mov 4 (.t 30), some 4, none, false⟩]
def r_spec_compareRows_6 : List GI := [⟨.mov 17 (.t 5), some 17, none, false⟩, ⟨.bin 18 .add (.t 17) (.k (.v (.int .i64 1))), some 18, none, false⟩, ⟨.mov 5 (.t 18), some 5, none, false⟩]
def r_spec_compareRows_7 : List GI := [⟨.mov 31 (.t 0), some 31, none, false⟩, ⟨.len 32 (.t 31), some 32, none, false⟩, ⟨.mov 33 (.t 1), some 33, none, false⟩, ⟨.len 34 (.t 33), some 34, none, false⟩, ⟨.bin 35 .sub (.t 32) (.t 34), some 35, none, false⟩, ⟨.mov 4 (.t 35), some 4, none, false⟩]
def dc_spec_compareRows : DC := .seq (.reg r_spec_compareRows_0 none) (.seq (.seq (.reg r_spec_compareRows_1 none) (.block 0 (.loop (.seq (.seq (.reg r_spec_compareRows_2 none) (.cond (.t 16) .skip (.exit 0))) (.seq (.block 1 (.seq (.reg r_spec_compareRows_3 (some [0, 0, 3, 7, 0, 0, 48, 112, 255, 511])) (.seq (.reg r_spec_compareRows_4 none) (.cond (.t 29) (.seq (.reg r_spec_compareRows_5 none) .ret) .skip)))) (.reg r_spec_compareRows_6 none)))))) (.seq (.reg r_spec_compareRows_7 none) .ret))
theorem c_spec_compareRows : cfun Try.prog [] 32 = some (36, dc_spec_compareRows, [(Res.tmp 4)]) := by kernel_rfl
def r_impl_CompareRows_0 : List GI := [⟨.mov 4 (.k (.v (.int .i64 0))), some 4, none, false⟩]
def r_impl_CompareRows_1 : List GI := [⟨.mov 5 (.t 0), some 5, none, false⟩, ⟨.len 6 (.t 5), some 6, none, false⟩, ⟨.mov 7 (.t 1), some 7, none, false⟩, ⟨.len 8 (.t 7), some 8, none, false⟩, ⟨.bin 9 .neq (.t 6) (.t 8), some 9, none, false⟩, ⟨.mov 10 (.t 9), some 10, none, false⟩, ⟨.mov 11 (.t 0), some 11, some (10, false), false⟩, ⟨.call 12 29 [.t 11], some 12, some (10, false), true⟩, ⟨.un 13 UnOp.not (.t 12), some 13, some (10, false), false⟩, ⟨.pick 14 (.t 10) (.k (.v (.bool true))) (.t 13), some 14, none, false⟩, ⟨.mov 15 (.t 14), some 15, none, false⟩, ⟨.mov 16 (.t 1), some 16, some (15, false), false⟩, ⟨.call 17 29 [.t 16], some 17, some (15, false), true⟩, ⟨.un 18 UnOp.not (.t 17), some 18, some (15, false), false⟩, ⟨.pick 19 (.t 15) (.k (.v (.bool true))) (.t 18), some 19, none, false⟩]
def r_impl_CompareRows_2 : List GI := [⟨.mov 4 (.k (.v (.int .i64 2))), some 4, none, false⟩]
def r_impl_CompareRows_3 : List GI := [⟨.mov 20 (.t 0), some 20, none, false⟩, ⟨.mov 21 (.t 1), some 21, none, false⟩, ⟨.call 22 30 [.t 20, .t 21], some 22, none, true⟩, ⟨.mov 4 (.t 22), some 4, none, false⟩]
def dc_impl_CompareRows : DC := .seq (.reg r_impl_CompareRows_0 none) (.seq (.seq (.reg r_impl_CompareRows_1 none) (.cond (.t 19) (.seq (.reg r_impl_CompareRows_2 none) .ret) .skip)) (.seq (.reg r_impl_CompareRows_3 none) .ret))
theorem c_impl_CompareRows : cfun Try.prog [] 9 = some (23, dc_impl_CompareRows, [(Res.tmp 4)]) := by kernel_rfl
def r_spec_CompareRows_0 : List GI := [⟨.mov 4 (.k (.v (.int .i64 0))), some 4, none, false⟩]
def r_spec_CompareRows_1 : List GI := [⟨.mov 5 (.t 0), some 5, none, false⟩, ⟨.call 6 31 [.t 5], some 6, none, true⟩, ⟨.un 7 UnOp.not (.t 6), some 7, none, false⟩, ⟨.mov 8 (.t 7), some 8, none, false⟩, ⟨.mov 9 (.t 1), some 9, some (8, false), false⟩, ⟨.call 10 31 [.t 9], some 10, some (8, false), true⟩, ⟨.un 11 UnOp.not (.t 10), some 11, some (8, false), false⟩, ⟨.pick 12 (.t 8) (.k (.v (.bool true))) (.t 11), some 12, none, false⟩, ⟨.mov 13 (.t 12), some 13, none, false⟩, ⟨.mov 14 (.t 0), some 14, some (13, false), false⟩, ⟨.len 15 (.t 14), some 15, some (13, false), false⟩, ⟨.mov 16 (.t 1), some 16, some (13, false), false⟩, ⟨.len 17 (.t 16), some 17, some (13, false), false⟩, ⟨.bin 18 .neq (.t 15) (.t 17), some 18, some (13, false), false⟩, ⟨.pick 19 (.t 13) (.k (.v (.bool true))) (.t 18), some 19, none, false⟩]
def r_spec_CompareRows_2 : List GI := [⟨.mov 4 (.k (.v (.int .i64 2))), some 4, none, false⟩]
def r_spec_CompareRows_3 : List GI := [⟨.mov 20 (.t 0), some 20, none, false⟩, ⟨.mov 21 (.t 1), some 21, none, false⟩, ⟨.call 22 32 [.t 20, .t 21], some 22, none, true⟩, ⟨.mov 4 (.t 22), some 4, none, false⟩]
def dc_spec_CompareRows : DC := .seq (.reg r_spec_CompareRows_0 none) (.seq (.seq (.reg r_spec_CompareRows_1 none) (.cond (.t 19) (.seq (.reg r_spec_CompareRows_2 none) .ret) .skip)) (.seq (.reg r_spec_CompareRows_3 none) .ret))
theorem c_spec_CompareRows : cfun Try.prog [] 10 = some (23, dc_spec_CompareRows, [(Res.tmp 4)]) := by kernel_rfl
def r_laws_eqTable_0 : List GI := [⟨.box 2 2000002 (.t 0) (some 2), some 2, none, false⟩, ⟨.box 3 2000003 (.t 1) (some 2), some 3, none, false⟩, ⟨.mov 4 (.k (.v (.bool false))), some 4, none, false⟩]
def r_laws_eqTable_1 : List GI := [⟨.fad 5 2 0, some 5, none, false⟩, ⟨.lod 6 5 none, some 6, none, false⟩, ⟨.fad 7 3 0, some 7, none, false⟩, ⟨.lod 8 7 none, some 8, none, false⟩, ⟨.bin 9 .neq (.t 6) (.t 8), some 9, none, false⟩]
def r_laws_eqTable_2 : List GI := [⟨.mov 4 (.k (.v (.bool false))), some 4, none, false⟩]
def r_laws_eqTable_3 : List GI := [⟨.fad 10 2 1, some 10, none, false⟩, ⟨.lod 11 10 none, some 11, none, false⟩, ⟨.fad 12 3 1, some 12, none, false⟩, ⟨.lod 13 12 none, some 13, none, false⟩, ⟨.call 14 48 [.t 11, .t 13], some 14, none, true⟩, ⟨.un 15 UnOp.not (.t 14), some 15, none, false⟩]
def r_laws_eqTable_4 : List GI := [⟨.mov 4 (.k (.v (.bool false))), some 4, none, false⟩]
def r_laws_eqTable_5 : List GI := [⟨.mov 4 (.k (.v (.bool true))), some 4, none, false⟩]
def dc_laws_eqTable : DC := .seq (.reg r_laws_eqTable_0 none) (.seq (.seq (.reg r_laws_eqTable_1 none) (.cond (.t 9) (.seq (.reg r_laws_eqTable_2 none) .ret) .skip)) (.seq (.seq (.reg r_laws_eqTable_3 none) (.cond (.t 15) (.seq (.reg r_laws_eqTable_4 none) .ret) .skip)) (.seq (.reg r_laws_eqTable_5 none) .ret)))
theorem c_laws_eqTable : cfun Try.prog [] 24 = some (16, dc_laws_eqTable, [(Res.tmp 4)]) := by kernel_rfl
def r_laws_eqValue_0 : List GI := [⟨.box 2 2000002 (.t 0) (some 2), some 2, none, false⟩, ⟨.box 3 2000003 (.t 1) (some 2), some 3, none, false⟩, ⟨.mov 4 (.k (.v (.bool false))), some 4, none, false⟩]
def r_laws_eqValue_1 : List GI := [⟨.fad 5 2 0, some 5, none, false⟩, ⟨.lod 6 5 none, some 6, none, false⟩, ⟨.fad 7 3 0, some 7, none, false⟩, ⟨.lod 8 7 none, some 8, none, false⟩, ⟨.beq 9 true (.t 6) (.t 8), some 9, none, false⟩]
def r_laws_eqValue_2 : List GI := [⟨.mov 4 (.k (.v (.bool false))), some 4, none, false⟩]
def r_laws_eqValue_3 : List GI := [⟨.fad 10 2 1, some 10, none, false⟩, ⟨.lod 11 10 none, some 11, none, false⟩, ⟨.fad 12 3 1, some 12, none, false⟩, ⟨.lod 13 12 none, some 13, none, false⟩, ⟨.bin 14 .neq (.t 11) (.t 13), some 14, none, false⟩]
def r_laws_eqValue_4 : List GI := [⟨.mov 4 (.k (.v (.bool false))), some 4, none, false⟩]
def r_laws_eqValue_5 : List GI := [⟨.mov 4 (.k (.v (.bool true))), some 4, none, false⟩]
def dc_laws_eqValue : DC := .seq (.reg r_laws_eqValue_0 none) (.seq (.seq (.reg r_laws_eqValue_1 none) (.cond (.t 9) (.seq (.reg r_laws_eqValue_2 none) .ret) .skip)) (.seq (.seq (.reg r_laws_eqValue_3 none) (.cond (.t 14) (.seq (.reg r_laws_eqValue_4 none) .ret) .skip)) (.seq (.reg r_laws_eqValue_5 none) .ret)))
theorem c_laws_eqValue : cfun Try.prog [] 43 = some (15, dc_laws_eqValue, [(Res.tmp 4)]) := by kernel_rfl
def r_laws_eqValueS_0 : List GI := [⟨.mov 4 (.k (.v (.bool false))), some 4, none, false⟩]
def r_laws_eqValueS_1 : List GI := [⟨.mov 6 (.t 0), some 6, none, false⟩, ⟨.len 7 (.t 6), some 7, none, false⟩, ⟨.mov 8 (.t 1), some 8, none, false⟩, ⟨.len 9 (.t 8), some 9, none, false⟩, ⟨.bin 10 .neq (.t 7) (.t 9), some 10, none, false⟩]
def r_laws_eqValueS_2 : List GI := [⟨.mov 4 (.k (.v (.bool false))), some 4, none, false⟩]
def r_laws_eqValueS_3 : List GI := [⟨.mov 5 (.k (.v (.int .i64 0))), some 5, none, false⟩]
def r_laws_eqValueS_4 : List GI := [⟨.mov 11 (.t 5), some 11, none, false⟩, ⟨.mov 12 (.t 0), some 12, none, false⟩, ⟨.len 13 (.t 12), some 13, none, false⟩, ⟨.bin 14 .lss (.t 11) (.t 13), some 14, none, false⟩]
def r_laws_eqValueS_5 : List GI := [⟨.mov 17 (.t 0), some 17, none, false⟩, ⟨.mov 18 (.t 5), some 18, none, false⟩, ⟨.iad 19 17 (.t 18) 2, some 19, none, false⟩, ⟨.lod 20 19 (some 2), some 20, none, false⟩, ⟨.mov 21 (.t 1), some 21, none, false⟩, ⟨.mov 22 (.t 5), some 22, none, false⟩, ⟨.iad 23 21 (.t 22) 2, some 23, none, false⟩, ⟨.lod 24 23 (some 2), some 24, none, false⟩, ⟨.call 25 43 [.t 20, .t 24], some 25, none, true⟩, ⟨.un 26 UnOp.not (.t 25), some 26, none, false⟩]
def r_laws_eqValueS_6 : List GI := [⟨.mov 4 (.k (.v (.bool false))), some 4, none, false⟩]
def r_laws_eqValueS_7 : List GI := [⟨.mov 15 (.t 5), some 15, none, false⟩, ⟨.bin 16 .add (.t 15) (.k (.v (.int .i64 1))), some 16, none, false⟩, ⟨.mov 5 (.t 16), some 5, none, false⟩]
def r_laws_eqValueS_8 : List GI := [⟨.mov 4 (.k (.v (.bool true))), some 4, none, false⟩]
def dc_laws_eqValueS : DC := .seq (.reg r_laws_eqValueS_0 none) (.seq (.seq (.reg r_laws_eqValueS_1 none) (.cond (.t 10) (.seq (.reg r_laws_eqValueS_2 none) .ret) .skip)) (.seq (.seq (.reg r_laws_eqValueS_3 none) (.block 0 (.loop (.seq (.seq (.reg r_laws_eqValueS_4 none) (.cond (.t 14) .skip (.exit 0))) (.seq (.block 1 (.seq (.reg r_laws_eqValueS_5 (some [0, 0, 3, 7, 0, 0, 48, 112, 255, 511])) (.cond (.t 26) (.seq (.reg r_laws_eqValueS_6 none) .ret) .skip))) (.reg r_laws_eqValueS_7 none)))))) (.seq (.reg r_laws_eqValueS_8 none) .ret)))
theorem c_laws_eqValueS : cfun Try.prog [] 19 = some (27, dc_laws_eqValueS, [(Res.tmp 4)]) := by kernel_rfl
def r_laws_eqValueSS_0 : List GI := [⟨.mov 4 (.k (.v (.bool false))), some 4, none, false⟩]
def r_laws_eqValueSS_1 : List GI := [⟨.mov 6 (.t 0), some 6, none, false⟩, ⟨.len 7 (.t 6), some 7, none, false⟩, ⟨.mov 8 (.t 1), some 8, none, false⟩, ⟨.len 9 (.t 8), some 9, none, false⟩, ⟨.bin 10 .neq (.t 7) (.t 9), some 10, none, false⟩]
def r_laws_eqValueSS_2 : List GI := [⟨.mov 4 (.k (.v (.bool false))), some 4, none, false⟩]
def r_laws_eqValueSS_3 : List GI := [⟨.mov 5 (.k (.v (.int .i64 0))), some 5, none, false⟩]
def r_laws_eqValueSS_4 : List GI := [⟨.mov 11 (.t 5), some 11, none, false⟩, ⟨.mov 12 (.t 0), some 12, none, false⟩, ⟨.len 13 (.t 12), some 13, none, false⟩, ⟨.bin 14 .lss (.t 11) (.t 13), some 14, none, false⟩]
def r_laws_eqValueSS_5 : List GI := [⟨.mov 17 (.t 0), some 17, none, false⟩, ⟨.mov 18 (.t 5), some 18, none, false⟩, ⟨.iad 19 17 (.t 18) 1, some 19, none, false⟩, ⟨.lod 20 19 none, some 20, none, false⟩, ⟨.mov 21 (.t 1), some 21, none, false⟩, ⟨.mov 22 (.t 5), some 22, none, false⟩, ⟨.iad 23 21 (.t 22) 1, some 23, none, false⟩, ⟨.lod 24 23 none, some 24, none, false⟩, ⟨.call 25 19 [.t 20, .t 24], some 25, none, true⟩, ⟨.un 26 UnOp.not (.t 25), some 26, none, false⟩]
def r_laws_eqValueSS_6 : List GI := [⟨.mov 4 (.k (.v (.bool false))), some 4, none, false⟩]
def r_laws_eqValueSS_7 : List GI := [⟨.mov 15 (.t 5), some 15, none, false⟩, ⟨.bin 16 .add (.t 15) (.k (.v (.int .i64 1))), some 16, none, false⟩, ⟨.mov 5 (.t 16), some 5, none, false⟩]
def r_laws_eqValueSS_8 : List GI := [⟨.mov 4 (.k (.v (.bool true))), some 4, none, false⟩]
def dc_laws_eqValueSS : DC := .seq (.reg r_laws_eqValueSS_0 none) (.seq (.seq (.reg r_laws_eqValueSS_1 none) (.cond (.t 10) (.seq (.reg r_laws_eqValueSS_2 none) .ret) .skip)) (.seq (.seq (.reg r_laws_eqValueSS_3 none) (.block 0 (.loop (.seq (.seq (.reg r_laws_eqValueSS_4 none) (.cond (.t 14) .skip (.exit 0))) (.seq (.block 1 (.seq (.reg r_laws_eqValueSS_5 (some [0, 0, 3, 7, 0, 0, 48, 112, 255, 511])) (.cond (.t 26) (.seq (.reg r_laws_eqValueSS_6 none) .ret) .skip))) (.reg r_laws_eqValueSS_7 none)))))) (.seq (.reg r_laws_eqValueSS_8 none) .ret)))
theorem c_laws_eqValueSS : cfun Try.prog [] 48 = some (27, dc_laws_eqValueSS, [(Res.tmp 4)]) := by kernel_rfl
def r_laws_szTable_0 : List GI := [⟨.box 2 2000002 (.t 0) (some 2), some 2, none, false⟩, ⟨.mov 4 (.k (.v (.int .i64 0))), some 4, none, false⟩]
def r_laws_szTable_1 : List GI := [⟨.fad 5 2 1, some 5, none, false⟩, ⟨.lod 6 5 none, some 6, none, false⟩, ⟨.mov 7 (.t 1), some 7, none, false⟩, ⟨.call 8 44 [.t 6, .t 7], some 8, none, true⟩, ⟨.mov 1 (.t 8), some 1, none, false⟩]
def r_laws_szTable_2 : List GI := [⟨.mov 9 (.t 1), some 9, none, false⟩, ⟨.bin 10 .lss (.t 9) (.k (.v (.int .i64 0))), some 10, none, false⟩]
def r_laws_szTable_3 : List GI := [⟨.mov 4 (.k (.v (.int .i64 (-1)))), some 4, none, false⟩]
def r_laws_szTable_4 : List GI := [⟨.mov 11 (.t 1), some 11, none, false⟩, ⟨.mov 4 (.t 11), some 4, none, false⟩]
def dc_laws_szTable : DC := .seq (.reg r_laws_szTable_0 none) (.seq (.reg r_laws_szTable_1 none) (.seq (.seq (.reg r_laws_szTable_2 none) (.cond (.t 10) (.seq (.reg r_laws_szTable_3 none) .ret) .skip)) (.seq (.reg r_laws_szTable_4 none) .ret)))
theorem c_laws_szTable : cfun Try.prog [] 20 = some (12, dc_laws_szTable, [(Res.tmp 4)]) := by kernel_rfl
def r_laws_szValueS_0 : List GI := [⟨.mov 4 (.k (.v (.int .i64 0))), some 4, none, false⟩]
def r_laws_szValueS_1 : List GI := [⟨.mov 5 (.t 1), some 5, none, false⟩, ⟨.mov 6 (.t 0), some 6, none, false⟩, ⟨.len 7 (.t 6), some 7, none, false⟩, ⟨.bin 8 .sub (.t 5) (.t 7), some 8, none, false⟩, ⟨.mov 1 (.t 8), some 1, none, false⟩]
def r_laws_szValueS_2 : List GI := [⟨.mov 9 (.t 1), some 9, none, false⟩, ⟨.bin 10 .lss (.t 9) (.k (.v (.int .i64 0))), some 10, none, false⟩]
def r_laws_szValueS_3 : List GI := [⟨.mov 4 (.k (.v (.int .i64 (-1)))), some 4, none, false⟩]
def r_laws_szValueS_4 : List GI := [⟨.mov 11 (.t 1), some 11, none, false⟩, ⟨.mov 4 (.t 11), some 4, none, false⟩]
def dc_laws_szValueS : DC := .seq (.reg r_laws_szValueS_0 none) (.seq (.reg r_laws_szValueS_1 none) (.seq (.seq (.reg r_laws_szValueS_2 none) (.cond (.t 10) (.seq (.reg r_laws_szValueS_3 none) .ret) .skip)) (.seq (.reg r_laws_szValueS_4 none) .ret)))
theorem c_laws_szValueS : cfun Try.prog [] 17 = some (12, dc_laws_szValueS, [(Res.tmp 4)]) := by kernel_rfl
def r_laws_szValueSS_0 : List GI := [⟨.mov 4 (.k (.v (.int .i64 0))), some 4, none, false⟩]
def r_laws_szValueSS_1 : List GI := [⟨.mov 6 (.t 1), some 6, none, false⟩, ⟨.mov 7 (.t 0), some 7, none, false⟩, ⟨.len 8 (.t 7), some 8, none, false⟩, ⟨.bin 9 .sub (.t 6) (.t 8), some 9, none, false⟩, ⟨.mov 1 (.t 9), some 1, none, false⟩]
def r_laws_szValueSS_2 : List GI := [⟨.mov 10 (.t 1), some 10, none, false⟩, ⟨.bin 11 .lss (.t 10) (.k (.v (.int .i64 0))), some 11, none, false⟩]
def r_laws_szValueSS_3 : List GI := [⟨.mov 4 (.k (.v (.int .i64 (-1)))), some 4, none, false⟩]
def r_laws_szValueSS_4 : List GI := [⟨.mov 5 (.k (.v (.int .i64 0))), some 5, none, false⟩]
def r_laws_szValueSS_5 : List GI := [⟨.mov 12 (.t 5), some 12, none, false⟩, ⟨.mov 13 (.t 0), some 13, none, false⟩, ⟨.len 14 (.t 13), some 14, none, false⟩, ⟨.bin 15 .lss (.t 12) (.t 14), some 15, none, false⟩]
def r_laws_szValueSS_6 : List GI := [⟨.mov 18 (.t 0), some 18, none, false⟩, ⟨.mov 19 (.t 5), some 19, none, false⟩, ⟨.iad 20 18 (.t 19) 1, some 20, none, false⟩, ⟨.lod 21 20 none, some 21, none, false⟩, ⟨.mov 22 (.t 1), some 22, none, false⟩, ⟨.call 23 17 [.t 21, .t 22], some 23, none, true⟩, ⟨.mov 1 (.t 23), some 1, none, false⟩]
def r_laws_szValueSS_7 : List GI := [⟨.mov 24 (.t 1), some 24, none, false⟩, ⟨.bin 25 .lss (.t 24) (.k (.v (.int .i64 0))), some 25, none, false⟩]
def r_laws_szValueSS_8 : List GI := [⟨.mov 4 (.k (.v (.int .i64 (-1)))), some 4, none, false⟩]
def r_laws_szValueSS_9 : List GI := [⟨.mov 16 (.t 5), some 16, none, false⟩, ⟨.bin 17 .add (.t 16) (.k (.v (.int .i64 1))), some 17, none, false⟩, ⟨.mov 5 (.t 17), some 5, none, false⟩]
def r_laws_szValueSS_10 : List GI := [⟨.mov 26 (.t 1), some 26, none, false⟩, ⟨.mov 4 (.t 26), some 4, none, false⟩]
def dc_laws_szValueSS : DC := .seq (.reg r_laws_szValueSS_0 none) (.seq (.reg r_laws_szValueSS_1 none) (.seq (.seq (.reg r_laws_szValueSS_2 none) (.cond (.t 11) (.seq (.reg r_laws_szValueSS_3 none) .ret) .skip)) (.seq (.seq (.reg r_laws_szValueSS_4 none) (.block 0 (.loop (.seq (.seq (.reg r_laws_szValueSS_5 none) (.cond (.t 15) .skip (.exit 0))) (.seq (.block 1 (.seq (.reg r_laws_szValueSS_6 none) (.seq (.reg r_laws_szValueSS_7 none) (.cond (.t 25) (.seq (.reg r_laws_szValueSS_8 none) .ret) .skip)))) (.reg r_laws_szValueSS_9 none)))))) (.seq (.reg r_laws_szValueSS_10 none) .ret))))
theorem c_laws_szValueSS : cfun Try.prog [] 44 = some (27, dc_laws_szValueSS, [(Res.tmp 4)]) := by kernel_rfl
def r_laws_toTable_0 : List GI := [⟨.box 1 2000001 (.t 0) (some 2), some 1, none, false⟩, ⟨.alloc 2 2000002 [.v (.int .i64 0), .nul], some 2, none, false⟩]
def r_laws_toTable_1 : List GI := [⟨.alloc 3 2000003 [.v (.int .i64 0), .nul], some 3, none, false⟩]
def r_laws_toTable_2 : List GI := [⟨.fad 4 1 0, some 4, none, false⟩, ⟨.lod 5 4 none, some 5, none, false⟩, ⟨.fad 6 3 0, some 6, none, false⟩, ⟨.sto 6 (.t 5) none, none, none, false⟩]
def r_laws_toTable_3 : List GI := [⟨.fad 7 1 1, some 7, none, false⟩, ⟨.lod 8 7 none, some 8, none, false⟩, ⟨.call 9 45 [.t 8], some 9, none, true⟩, ⟨.fad 10 3 1, some 10, none, false⟩, ⟨.sto 10 (.t 9) none, none, none, false⟩]
def r_laws_toTable_4 : List GI := [⟨.lod 11 3 (some 2), some 11, none, false⟩, ⟨.sto 2 (.t 11) (some 2), none, none, false⟩]
def dc_laws_toTable : DC := .seq (.reg r_laws_toTable_0 none) (.seq (.reg r_laws_toTable_1 none) (.seq (.reg r_laws_toTable_2 none) (.seq (.reg r_laws_toTable_3 none) (.seq (.reg r_laws_toTable_4 none) .ret))))
theorem c_laws_toTable : cfun Try.prog [] 22 = some (12, dc_laws_toTable, [(Res.cell 2 (some 2))]) := by kernel_rfl
def r_laws_toValue_0 : List GI := [⟨.box 1 2000001 (.t 0) (some 2), some 1, none, false⟩, ⟨.alloc 2 2000002 [.v (.bool false), .v (.int .i64 0)], some 2, none, false⟩]
def r_laws_toValue_1 : List GI := [⟨.alloc 3 2000003 [.v (.bool false), .v (.int .i64 0)], some 3, none, false⟩]
def r_laws_toValue_2 : List GI := [⟨.fad 4 1 0, some 4, none, false⟩, ⟨.lod 5 4 none, some 5, none, false⟩, ⟨.fad 6 3 0, some 6, none, false⟩, ⟨.sto 6 (.t 5) none, none, none, false⟩]
def r_laws_toValue_3 : List GI := [⟨.fad 7 1 1, some 7, none, false⟩, ⟨.lod 8 7 none, some 8, none, false⟩, ⟨.fad 9 3 1, some 9, none, false⟩, ⟨.sto 9 (.t 8) none, none, none, false⟩]
def r_laws_toValue_4 : List GI := [⟨.lod 10 3 (some 2), some 10, none, false⟩, ⟨.sto 2 (.t 10) (some 2), none, none, false⟩]
def dc_laws_toValue : DC := .seq (.reg r_laws_toValue_0 none) (.seq (.reg r_laws_toValue_1 none) (.seq (.reg r_laws_toValue_2 none) (.seq (.reg r_laws_toValue_3 none) (.seq (.reg r_laws_toValue_4 none) .ret))))
theorem c_laws_toValue : cfun Try.prog [] 42 = some (11, dc_laws_toValue, [(Res.cell 2 (some 2))]) := by kernel_rfl
def r_laws_toValueS_0 : List GI := [⟨.mov 2 (.k .nul), some 2, none, false⟩]
def r_laws_toValueS_1 : List GI := [⟨.mov 5 (.t 0), some 5, none, false⟩, ⟨.len 6 (.t 5), some 6, none, false⟩, ⟨.mks 7 2000007 (.t 6) 2 16 (.agg [.v (.bool false), .v (.int .i64 0)]), some 7, none, false⟩, ⟨.mov 3 (.t 7), some 3, none, false⟩]
def r_laws_toValueS_2 : List GI := [⟨.mov 4 (.k (.v (.int .i64 0))), some 4, none, false⟩]
def r_laws_toValueS_3 : List GI := [⟨.mov 8 (.t 4), some 8, none, false⟩, ⟨.mov 9 (.t 0), some 9, none, false⟩, ⟨.len 10 (.t 9), some 10, none, false⟩, ⟨.bin 11 .lss (.t 8) (.t 10), some 11, none, false⟩]
def r_laws_toValueS_4 : List GI := [⟨.mov 14 (.t 3), some 14, none, false⟩, ⟨.mov 15 (.t 4), some 15, none, false⟩, ⟨.mov 16 (.t 0), some 16, none, false⟩, ⟨.mov 17 (.t 4), some 17, none, false⟩, ⟨.iad 18 16 (.t 17) 2, some 18, none, false⟩, ⟨.lod 19 18 (some 2), some 19, none, false⟩, ⟨.call 20 42 [.t 19], some 20, none, true⟩, ⟨.iad 21 14 (.t 15) 2, some 21, none, false⟩, ⟨.sto 21 (.t 20) (some 2), none, none, false⟩]
def r_laws_toValueS_5 : List GI := [⟨.mov 12 (.t 4), some 12, none, false⟩, ⟨.bin 13 .add (.t 12) (.k (.v (.int .i64 1))), some 13, none, false⟩, ⟨.mov 4 (.t 13), some 4, none, false⟩]
def r_laws_toValueS_6 : List GI := [⟨.mov 22 (.t 3), some 22, none, false⟩, ⟨.mov 2 (.t 22), some 2, none, false⟩]
def dc_laws_toValueS : DC := .seq (.reg r_laws_toValueS_0 none) (.seq (.reg r_laws_toValueS_1 none) (.seq (.seq (.reg r_laws_toValueS_2 none) (.block 0 (.loop (.seq (.seq (.reg r_laws_toValueS_3 none) (.cond (.t 11) .skip (.exit 0))) (.seq (.block 1 (.reg r_laws_toValueS_4 none)) (.reg r_laws_toValueS_5 none)))))) (.seq (.reg r_laws_toValueS_6 none) .ret)))
theorem c_laws_toValueS : cfun Try.prog [] 18 = some (23, dc_laws_toValueS, [(Res.tmp 2)]) := by kernel_rfl
def r_laws_toValueSS_0 : List GI := [⟨.mov 2 (.k .nul), some 2, none, false⟩]
def r_laws_toValueSS_1 : List GI := [⟨.mov 5 (.t 0), some 5, none, false⟩, ⟨.len 6 (.t 5), some 6, none, false⟩, ⟨.mks 7 2000007 (.t 6) 1 24 .nul, some 7, none, false⟩, ⟨.mov 3 (.t 7), some 3, none, false⟩]
def r_laws_toValueSS_2 : List GI := [⟨.mov 4 (.k (.v (.int .i64 0))), some 4, none, false⟩]
def r_laws_toValueSS_3 : List GI := [⟨.mov 8 (.t 4), some 8, none, false⟩, ⟨.mov 9 (.t 0), some 9, none, false⟩, ⟨.len 10 (.t 9), some 10, none, false⟩, ⟨.bin 11 .lss (.t 8) (.t 10), some 11, none, false⟩]
def r_laws_toValueSS_4 : List GI := [⟨.mov 14 (.t 3), some 14, none, false⟩, ⟨.mov 15 (.t 4), some 15, none, false⟩, ⟨.mov 16 (.t 0), some 16, none, false⟩, ⟨.mov 17 (.t 4), some 17, none, false⟩, ⟨.iad 18 16 (.t 17) 1, some 18, none, false⟩, ⟨.lod 19 18 none, some 19, none, false⟩, ⟨.call 20 18 [.t 19], some 20, none, true⟩, ⟨.iad 21 14 (.t 15) 1, some 21, none, false⟩, ⟨.sto 21 (.t 20) none, none, none, false⟩]
def r_laws_toValueSS_5 : List GI := [⟨.mov 12 (.t 4), some 12, none, false⟩, ⟨.bin 13 .add (.t 12) (.k (.v (.int .i64 1))), some 13, none, false⟩, ⟨.mov 4 (.t 13), some 4, none, false⟩]
def r_laws_toValueSS_6 : List GI := [⟨.mov 22 (.t 3), some 22, none, false⟩, ⟨.mov 2 (.t 22), some 2, none, false⟩]
def dc_laws_toValueSS : DC := .seq (.reg r_laws_toValueSS_0 none) (.seq (.reg r_laws_toValueSS_1 none) (.seq (.seq (.reg r_laws_toValueSS_2 none) (.block 0 (.loop (.seq (.seq (.reg r_laws_toValueSS_3 none) (.cond (.t 11) .skip (.exit 0))) (.seq (.block 1 (.reg r_laws_toValueSS_4 none)) (.reg r_laws_toValueSS_5 none)))))) (.seq (.reg r_laws_toValueSS_6 none) .ret)))
theorem c_laws_toValueSS : cfun Try.prog [] 45 = some (23, dc_laws_toValueSS, [(Res.tmp 2)]) := by kernel_rfl
def r_spec_newReader_0 : List GI := [⟨.mov 2 (.k (.v (.pointer none))), some 2, none, false⟩]
def r_spec_newReader_1 : List GI := [⟨.mov 3 (.t 0), some 3, none, false⟩, ⟨.len 4 (.t 3), some 4, none, false⟩, ⟨.bin 5 .gtr (.t 4) (.k (.v (.int .i64 2000))), some 5, none, false⟩]
def r_spec_newReader_2 : List GI := [⟨.mov 6 (.t 0), some 6, none, false⟩, ⟨.slc 7 (.t 6) none (some (.k (.v (.int .i64 2000)))) 1, some 7, none, false⟩, ⟨.mov 0 (.t 7), some 0, none, false⟩]
def r_spec_newReader_3 : List GI := [⟨.mov 8 (.t 0), some 8, none, false⟩, ⟨.build 9 [.nul, .v (.int .i64 0)] [(0, (none, .t 8))], some 9, none, false⟩, ⟨.box 10 2000010 (.t 9) (some 2), some 10, none, false⟩, ⟨.mov 2 (.t 10), some 2, none, false⟩]
def dc_spec_newReader : DC := .seq (.reg r_spec_newReader_0 none) (.seq (.seq (.reg r_spec_newReader_1 none) (.cond (.t 5) (.reg r_spec_newReader_2 none) .skip)) (.seq (.reg r_spec_newReader_3 none) .ret))
theorem c_spec_newReader : cfun Try.prog [] 25 = some (11, dc_spec_newReader, [(Res.tmp 2)]) := by kernel_rfl
def r_spec_preader_one_0 : List GI := [⟨.mov 4 (.k (.v (.int .i64 0))), some 4, none, false⟩]
def r_spec_preader_one_1 : List GI := [⟨.mov 5 (.t 1), some 5, none, false⟩, ⟨.mov 6 (.t 0), some 6, none, false⟩, ⟨.mov 7 (.t 1), some 7, none, false⟩, ⟨.len 8 (.t 7), some 8, none, false⟩, ⟨.call 9 26 [.t 6, .t 8], some 9, none, true⟩, ⟨.iad 10 5 (.t 9) 1, some 10, none, false⟩, ⟨.lod 11 10 none, some 11, none, false⟩, ⟨.mov 4 (.t 11), some 4, none, false⟩]
def dc_spec_preader_one : DC := .seq (.reg r_spec_preader_one_0 none) (.seq (.reg r_spec_preader_one_1 none) .ret)
theorem c_spec_preader_one : cfun Try.prog [] 58 = some (12, dc_spec_preader_one, [(Res.tmp 4)]) := by kernel_rfl
end
end Go.Proofs.Ytedlojihiilonaa
