/-
  Functions of the program read as code on plain data. Closed facts of the program alone.
-/
import Derived.Test.YtkfmglbnicbooaaRows
import Derived.Test.YtkfmglbnicbooaaVLib
import Derived.KernelRfl
namespace Go.Proofs.Ytkfmglbnicbooaa
open Go.RowKit
noncomputable section
theorem mixed : Try.prog.follows .mixedOrders = true := by kernel_rfl
def r_laws_eqSortKey_0 : List GI := [⟨.box 2 2000002 (.t 0) (some 2), some 2, none, false⟩, ⟨.box 3 2000003 (.t 1) (some 2), some 3, none, false⟩, ⟨.mov 4 (.k (.v (.bool false))), some 4, none, false⟩]
def r_laws_eqSortKey_1 : List GI := [⟨.fad 5 2 0, some 5, none, false⟩, ⟨.lod 6 5 none, some 6, none, false⟩, ⟨.fad 7 3 0, some 7, none, false⟩, ⟨.lod 8 7 none, some 8, none, false⟩, ⟨.bin 9 .neq (.t 6) (.t 8), some 9, none, false⟩]
def r_laws_eqSortKey_2 : List GI := [⟨.mov 4 (.k (.v (.bool false))), some 4, none, false⟩]
def r_laws_eqSortKey_3 : List GI := [⟨.fad 10 2 1, some 10, none, false⟩, ⟨.lod 11 10 none, some 11, none, false⟩, ⟨.fad 12 3 1, some 12, none, false⟩, ⟨.lod 13 12 none, some 13, none, false⟩, ⟨.beq 14 true (.t 11) (.t 13), some 14, none, false⟩]
def r_laws_eqSortKey_4 : List GI := [⟨.mov 4 (.k (.v (.bool false))), some 4, none, false⟩]
def r_laws_eqSortKey_5 : List GI := [⟨.mov 4 (.k (.v (.bool true))), some 4, none, false⟩]
def dc_laws_eqSortKey : DC := .seq (.reg r_laws_eqSortKey_0 none) (.seq (.seq (.reg r_laws_eqSortKey_1 none) (.cond (.t 9) (.seq (.reg r_laws_eqSortKey_2 none) .ret) .skip)) (.seq (.seq (.reg r_laws_eqSortKey_3 none) (.cond (.t 14) (.seq (.reg r_laws_eqSortKey_4 none) .ret) .skip)) (.seq (.reg r_laws_eqSortKey_5 none) .ret)))
theorem c_laws_eqSortKey : cfun Try.prog [] 31 = some (15, dc_laws_eqSortKey, [(Res.tmp 4)]) := by kernel_rfl
def r_laws_eqSortKeyS_0 : List GI := [⟨.mov 4 (.k (.v (.bool false))), some 4, none, false⟩]
def r_laws_eqSortKeyS_1 : List GI := [⟨.mov 6 (.t 0), some 6, none, false⟩, ⟨.len 7 (.t 6), some 7, none, false⟩, ⟨.mov 8 (.t 1), some 8, none, false⟩, ⟨.len 9 (.t 8), some 9, none, false⟩, ⟨.bin 10 .neq (.t 7) (.t 9), some 10, none, false⟩]
def r_laws_eqSortKeyS_2 : List GI := [⟨.mov 4 (.k (.v (.bool false))), some 4, none, false⟩]
def r_laws_eqSortKeyS_3 : List GI := [⟨.mov 5 (.k (.v (.int .i64 0))), some 5, none, false⟩]
def r_laws_eqSortKeyS_4 : List GI := [⟨.mov 11 (.t 5), some 11, none, false⟩, ⟨.mov 12 (.t 0), some 12, none, false⟩, ⟨.len 13 (.t 12), some 13, none, false⟩, ⟨.bin 14 .lss (.t 11) (.t 13), some 14, none, false⟩]
def r_laws_eqSortKeyS_5 : List GI := [⟨.mov 17 (.t 0), some 17, none, false⟩, ⟨.mov 18 (.t 5), some 18, none, false⟩, ⟨.iad 19 17 (.t 18) 2, some 19, none, false⟩, ⟨.lod 20 19 (some 2), some 20, none, false⟩, ⟨.mov 21 (.t 1), some 21, none, false⟩, ⟨.mov 22 (.t 5), some 22, none, false⟩, ⟨.iad 23 21 (.t 22) 2, some 23, none, false⟩, ⟨.lod 24 23 (some 2), some 24, none, false⟩, ⟨.call 25 31 [.t 20, .t 24], some 25, none, true⟩, ⟨.un 26 UnOp.not (.t 25), some 26, none, false⟩]
def r_laws_eqSortKeyS_6 : List GI := [⟨.mov 4 (.k (.v (.bool false))), some 4, none, false⟩]
def r_laws_eqSortKeyS_7 : List GI := [⟨.mov 15 (.t 5), some 15, none, false⟩, ⟨.bin 16 .add (.t 15) (.k (.v (.int .i64 1))), some 16, none, false⟩, ⟨.mov 5 (.t 16), some 5, none, false⟩]
def r_laws_eqSortKeyS_8 : List GI := [⟨.mov 4 (.k (.v (.bool true))), some 4, none, false⟩]
def dc_laws_eqSortKeyS : DC := .seq (.reg r_laws_eqSortKeyS_0 none) (.seq (.seq (.reg r_laws_eqSortKeyS_1 none) (.cond (.t 10) (.seq (.reg r_laws_eqSortKeyS_2 none) .ret) .skip)) (.seq (.seq (.reg r_laws_eqSortKeyS_3 none) (.block 0 (.loop (.seq (.seq (.reg r_laws_eqSortKeyS_4 none) (.cond (.t 14) .skip (.exit 0))) (.seq (.block 1 (.seq (.reg r_laws_eqSortKeyS_5 (some [0, 0, 3, 7, 0, 0, 48, 112, 255, 511])) (.cond (.t 26) (.seq (.reg r_laws_eqSortKeyS_6 none) .ret) .skip))) (.reg r_laws_eqSortKeyS_7 none)))))) (.seq (.reg r_laws_eqSortKeyS_8 none) .ret)))
theorem c_laws_eqSortKeyS : cfun Try.prog [] 13 = some (27, dc_laws_eqSortKeyS, [(Res.tmp 4)]) := by kernel_rfl
def r_laws_szSortKeyS_0 : List GI := [⟨.mov 4 (.k (.v (.int .i64 0))), some 4, none, false⟩]
def r_laws_szSortKeyS_1 : List GI := [⟨.mov 5 (.t 1), some 5, none, false⟩, ⟨.mov 6 (.t 0), some 6, none, false⟩, ⟨.len 7 (.t 6), some 7, none, false⟩, ⟨.bin 8 .sub (.t 5) (.t 7), some 8, none, false⟩, ⟨.mov 1 (.t 8), some 1, none, false⟩]
def r_laws_szSortKeyS_2 : List GI := [⟨.mov 9 (.t 1), some 9, none, false⟩, ⟨.bin 10 .lss (.t 9) (.k (.v (.int .i64 0))), some 10, none, false⟩]
def r_laws_szSortKeyS_3 : List GI := [⟨.mov 4 (.k (.v (.int .i64 (-1)))), some 4, none, false⟩]
def r_laws_szSortKeyS_4 : List GI := [⟨.mov 11 (.t 1), some 11, none, false⟩, ⟨.mov 4 (.t 11), some 4, none, false⟩]
def dc_laws_szSortKeyS : DC := .seq (.reg r_laws_szSortKeyS_0 none) (.seq (.reg r_laws_szSortKeyS_1 none) (.seq (.seq (.reg r_laws_szSortKeyS_2 none) (.cond (.t 10) (.seq (.reg r_laws_szSortKeyS_3 none) .ret) .skip)) (.seq (.reg r_laws_szSortKeyS_4 none) .ret)))
theorem c_laws_szSortKeyS : cfun Try.prog [] 9 = some (12, dc_laws_szSortKeyS, [(Res.tmp 4)]) := by kernel_rfl
def r_laws_toSortKey_0 : List GI := [⟨.box 1 2000001 (.t 0) (some 2), some 1, none, false⟩, ⟨.alloc 2 2000002 [.v (.int .i64 0), .v (.bool false)], some 2, none, false⟩]
def r_laws_toSortKey_1 : List GI := [⟨.alloc 3 2000003 [.v (.int .i64 0), .v (.bool false)], some 3, none, false⟩]
def r_laws_toSortKey_2 : List GI := [⟨.fad 4 1 0, some 4, none, false⟩, ⟨.lod 5 4 none, some 5, none, false⟩, ⟨.fad 6 3 0, some 6, none, false⟩, ⟨.sto 6 (.t 5) none, none, none, false⟩]
def r_laws_toSortKey_3 : List GI := [⟨.fad 7 1 1, some 7, none, false⟩, ⟨.lod 8 7 none, some 8, none, false⟩, ⟨.fad 9 3 1, some 9, none, false⟩, ⟨.sto 9 (.t 8) none, none, none, false⟩]
def r_laws_toSortKey_4 : List GI := [⟨.lod 10 3 (some 2), some 10, none, false⟩, ⟨.sto 2 (.t 10) (some 2), none, none, false⟩]
def dc_laws_toSortKey : DC := .seq (.reg r_laws_toSortKey_0 none) (.seq (.reg r_laws_toSortKey_1 none) (.seq (.reg r_laws_toSortKey_2 none) (.seq (.reg r_laws_toSortKey_3 none) (.seq (.reg r_laws_toSortKey_4 none) .ret))))
theorem c_laws_toSortKey : cfun Try.prog [] 29 = some (11, dc_laws_toSortKey, [(Res.cell 2 (some 2))]) := by kernel_rfl
def r_laws_toSortKeyS_0 : List GI := [⟨.mov 2 (.k .nul), some 2, none, false⟩]
def r_laws_toSortKeyS_1 : List GI := [⟨.mov 5 (.t 0), some 5, none, false⟩, ⟨.len 6 (.t 5), some 6, none, false⟩, ⟨.mks 7 2000007 (.t 6) 2 16 (.agg [.v (.int .i64 0), .v (.bool false)]), some 7, none, false⟩, ⟨.mov 3 (.t 7), some 3, none, false⟩]
def r_laws_toSortKeyS_2 : List GI := [⟨.mov 4 (.k (.v (.int .i64 0))), some 4, none, false⟩]
def r_laws_toSortKeyS_3 : List GI := [⟨.mov 8 (.t 4), some 8, none, false⟩, ⟨.mov 9 (.t 0), some 9, none, false⟩, ⟨.len 10 (.t 9), some 10, none, false⟩, ⟨.bin 11 .lss (.t 8) (.t 10), some 11, none, false⟩]
def r_laws_toSortKeyS_4 : List GI := [⟨.mov 14 (.t 3), some 14, none, false⟩, ⟨.mov 15 (.t 4), some 15, none, false⟩, ⟨.mov 16 (.t 0), some 16, none, false⟩, ⟨.mov 17 (.t 4), some 17, none, false⟩, ⟨.iad 18 16 (.t 17) 2, some 18, none, false⟩, ⟨.lod 19 18 (some 2), some 19, none, false⟩, ⟨.call 20 29 [.t 19], some 20, none, true⟩, ⟨.iad 21 14 (.t 15) 2, some 21, none, false⟩, ⟨.sto 21 (.t 20) (some 2), none, none, false⟩]
def r_laws_toSortKeyS_5 : List GI := [⟨.mov 12 (.t 4), some 12, none, false⟩, ⟨.bin 13 .add (.t 12) (.k (.v (.int .i64 1))), some 13, none, false⟩, ⟨.mov 4 (.t 13), some 4, none, false⟩]
def r_laws_toSortKeyS_6 : List GI := [⟨.mov 22 (.t 3), some 22, none, false⟩, ⟨.mov 2 (.t 22), some 2, none, false⟩]
def dc_laws_toSortKeyS : DC := .seq (.reg r_laws_toSortKeyS_0 none) (.seq (.reg r_laws_toSortKeyS_1 none) (.seq (.seq (.reg r_laws_toSortKeyS_2 none) (.block 0 (.loop (.seq (.seq (.reg r_laws_toSortKeyS_3 none) (.cond (.t 11) .skip (.exit 0))) (.seq (.block 1 (.reg r_laws_toSortKeyS_4 none)) (.reg r_laws_toSortKeyS_5 none)))))) (.seq (.reg r_laws_toSortKeyS_6 none) .ret)))
theorem c_laws_toSortKeyS : cfun Try.prog [] 11 = some (23, dc_laws_toSortKeyS, [(Res.tmp 2)]) := by kernel_rfl
def r_cmp_Compare_int__0 : List GI := [⟨.mov 4 (.k (.v (.int .i64 0))), some 4, none, false⟩]
def r_cmp_Compare_int__1 : List GI := [⟨.mov 7 (.t 0), some 7, none, false⟩, ⟨.call 8 63 [.t 7], some 8, none, true⟩, ⟨.mov 5 (.t 8), some 5, none, false⟩]
def r_cmp_Compare_int__2 : List GI := [⟨.mov 9 (.t 1), some 9, none, false⟩, ⟨.call 10 63 [.t 9], some 10, none, true⟩, ⟨.mov 6 (.t 10), some 6, none, false⟩]
def r_cmp_Compare_int__3 : List GI := [⟨.mov 11 (.t 5), some 11, none, false⟩]
def r_cmp_Compare_int__4 : List GI := [⟨.mov 12 (.t 6), some 12, none, false⟩]
def r_cmp_Compare_int__5 : List GI := [⟨.mov 4 (.k (.v (.int .i64 0))), some 4, none, false⟩]
def r_cmp_Compare_int__6 : List GI := [⟨.mov 4 (.k (.v (.int .i64 (-1)))), some 4, none, false⟩]
def r_cmp_Compare_int__7 : List GI := [⟨.mov 13 (.t 6), some 13, none, false⟩]
def r_cmp_Compare_int__8 : List GI := [⟨.mov 4 (.k (.v (.int .i64 1))), some 4, none, false⟩]
def r_cmp_Compare_int__9 : List GI := [⟨.mov 14 (.t 0), some 14, none, false⟩, ⟨.mov 15 (.t 1), some 15, none, false⟩, ⟨.bin 16 .lss (.t 14) (.t 15), some 16, none, false⟩]
def r_cmp_Compare_int__10 : List GI := [⟨.mov 4 (.k (.v (.int .i64 (-1)))), some 4, none, false⟩]
def r_cmp_Compare_int__11 : List GI := [⟨.mov 17 (.t 0), some 17, none, false⟩, ⟨.mov 18 (.t 1), some 18, none, false⟩, ⟨.bin 19 .gtr (.t 17) (.t 18), some 19, none, false⟩]
def r_cmp_Compare_int__12 : List GI := [⟨.mov 4 (.k (.v (.int .i64 1))), some 4, none, false⟩]
def r_cmp_Compare_int__13 : List GI := [⟨.mov 4 (.k (.v (.int .i64 0))), some 4, none, false⟩]
def dc_cmp_Compare_int_ : DC := .seq (.reg r_cmp_Compare_int__0 none) (.seq (.reg r_cmp_Compare_int__1 none) (.seq (.reg r_cmp_Compare_int__2 none) (.seq (.seq (.reg r_cmp_Compare_int__3 none) (.cond (.t 11) (.seq (.seq (.reg r_cmp_Compare_int__4 none) (.cond (.t 12) (.seq (.reg r_cmp_Compare_int__5 none) .ret) .skip)) (.seq (.reg r_cmp_Compare_int__6 none) .ret)) .skip)) (.seq (.seq (.reg r_cmp_Compare_int__7 none) (.cond (.t 13) (.seq (.reg r_cmp_Compare_int__8 none) .ret) .skip)) (.seq (.seq (.reg r_cmp_Compare_int__9 none) (.cond (.t 16) (.seq (.reg r_cmp_Compare_int__10 none) .ret) .skip)) (.seq (.seq (.reg r_cmp_Compare_int__11 none) (.cond (.t 19) (.seq (.reg r_cmp_Compare_int__12 none) .ret) .skip)) (.seq (.reg r_cmp_Compare_int__13 none) .ret)))))))
theorem c_cmp_Compare_int_ : cfun Try.prog [] 61 = some (20, dc_cmp_Compare_int_, [(Res.tmp 4)]) := by kernel_rfl
def r_cmp_isNaN_int__0 : List GI := [⟨.mov 2 (.k (.v (.bool false))), some 2, none, false⟩]
def r_cmp_isNaN_int__1 : List GI := [⟨.mov 3 (.t 0), some 3, none, false⟩, ⟨.mov 4 (.t 0), some 4, none, false⟩, ⟨.bin 5 .neq (.t 3) (.t 4), some 5, none, false⟩, ⟨.mov 2 (.t 5), some 2, none, false⟩]
def dc_cmp_isNaN_int_ : DC := .seq (.reg r_cmp_isNaN_int__0 none) (.seq (.reg r_cmp_isNaN_int__1 none) .ret)
theorem c_cmp_isNaN_int_ : cfun Try.prog [] 63 = some (6, dc_cmp_isNaN_int_, [(Res.tmp 2)]) := by kernel_rfl
def r_impl_Value_valid_0 : List GI := [⟨.box 1 2000001 (.t 0) (some 2), some 1, none, false⟩, ⟨.mov 2 (.k (.v (.bool false))), some 2, none, false⟩]
def r_impl_Value_valid_1 : List GI := [⟨.fad 3 1 0, some 3, none, false⟩, ⟨.lod 4 3 none, some 4, none, false⟩]
def r_impl_Value_valid_2 : List GI := [⟨.fad 5 1 1, some 5, none, false⟩, ⟨.lod 6 5 none, some 6, none, false⟩, ⟨.bin 7 .eql (.t 6) (.k (.v (.int .i64 0))), some 7, none, false⟩, ⟨.mov 2 (.t 7), some 2, none, false⟩]
def r_impl_Value_valid_3 : List GI := [⟨.fad 8 1 1, some 8, none, false⟩, ⟨.lod 9 8 none, some 9, none, false⟩, ⟨.bin 10 .leq (.k (.v (.int .i64 (-9999)))) (.t 9), some 10, none, false⟩, ⟨.mov 11 (.t 10), some 11, none, false⟩, ⟨.fad 12 1 1, some 12, some (11, true), false⟩, ⟨.lod 13 12 none, some 13, some (11, true), false⟩, ⟨.bin 14 .leq (.t 13) (.k (.v (.int .i64 9999))), some 14, some (11, true), false⟩, ⟨.pick 15 (.t 11) (.t 14) (.k (.v (.bool false))), some 15, none, false⟩, ⟨.mov 2 (.t 15), some 2, none, false⟩]
def dc_impl_Value_valid : DC := .seq (.reg r_impl_Value_valid_0 none) (.seq (.seq (.reg r_impl_Value_valid_1 none) (.cond (.t 4) (.seq (.reg r_impl_Value_valid_2 none) .ret) .skip)) (.seq (.reg r_impl_Value_valid_3 none) .ret))
theorem c_impl_Value_valid : cfun Try.prog [] 60 = some (16, dc_impl_Value_valid, [(Res.tmp 2)]) := by kernel_rfl
def r_impl_isColumn_0 : List GI := [⟨.mov 4 (.k (.v (.bool false))), some 4, none, false⟩]
def r_impl_isColumn_1 : List GI := [⟨.mov 5 (.t 0), some 5, none, false⟩, ⟨.bin 6 .leq (.k (.v (.int .i64 0))) (.t 5), some 6, none, false⟩, ⟨.mov 7 (.t 6), some 7, none, false⟩, ⟨.mov 8 (.t 0), some 8, some (7, true), false⟩, ⟨.mov 9 (.t 1), some 9, some (7, true), false⟩, ⟨.bin 10 .lss (.t 8) (.t 9), some 10, some (7, true), false⟩, ⟨.pick 11 (.t 7) (.t 10) (.k (.v (.bool false))), some 11, none, false⟩, ⟨.mov 4 (.t 11), some 4, none, false⟩]
def dc_impl_isColumn : DC := .seq (.reg r_impl_isColumn_0 none) (.seq (.reg r_impl_isColumn_1 none) .ret)
theorem c_impl_isColumn : cfun Try.prog [] 40 = some (12, dc_impl_isColumn, [(Res.tmp 4)]) := by kernel_rfl
def r_impl_validRow_0 : List GI := [⟨.mov 2 (.k (.v (.bool false))), some 2, none, false⟩]
def r_impl_validRow_1 : List GI := [⟨.mov 3 (.t 0), some 3, none, false⟩, ⟨.len 4 (.t 3), some 4, none, false⟩, ⟨.call 5 38 [.t 4], some 5, none, true⟩, ⟨.mov 6 (.t 5), some 6, none, false⟩, ⟨.mov 7 (.t 0), some 7, some (6, true), false⟩, ⟨.call 8 55 [.t 7], some 8, some (6, true), true⟩, ⟨.pick 9 (.t 6) (.t 8) (.k (.v (.bool false))), some 9, none, false⟩, ⟨.mov 2 (.t 9), some 2, none, false⟩]
def dc_impl_validRow : DC := .seq (.reg r_impl_validRow_0 none) (.seq (.reg r_impl_validRow_1 none) .ret)
theorem c_impl_validRow : cfun Try.prog [] 39 = some (10, dc_impl_validRow, [(Res.tmp 2)]) := by kernel_rfl
def r_impl_validValues_0 : List GI := [⟨.mov 2 (.k (.v (.bool false))), some 2, none, false⟩]
def r_impl_validValues_1 : List GI := [⟨.mov 5 (.t 0), some 5, none, false⟩, ⟨.len 6 (.t 5), some 6, none, false⟩, ⟨.mov 7 (.k (.v (.int .i64 0))), some 7, none, false⟩]
def r_impl_validValues_2 : List GI := [⟨.bin 8 .lss (.t 7) (.t 6), some 8, none, false⟩]
def r_impl_validValues_3 : List GI := [⟨.iad 9 5 (.t 7) 2, some 9, none, false⟩, ⟨.lod 10 9 (some 2), some 10, none, false⟩, ⟨.alloc 4 2000004 [.v (.bool false), .v (.int .i64 0)], some 4, none, false⟩, ⟨.sto 4 (.t 10) (some 2), none, none, false⟩]
def r_impl_validValues_4 : List GI := [⟨.lod 11 4 (some 2), some 11, none, false⟩, ⟨.call 12 60 [.t 11], some 12, none, true⟩, ⟨.un 13 UnOp.not (.t 12), some 13, none, false⟩]
def r_impl_validValues_5 : List GI := [⟨.mov 2 (.k (.v (.bool false))), some 2, none, false⟩]
def r_impl_validValues_6 : List GI := [⟨.bin 14 .add (.t 7) (.k (.v (.int .i64 1))), some 14, none, false⟩, ⟨.mov 7 (.t 14), some 7, none, false⟩]
def r_impl_validValues_7 : List GI := [⟨.mov 2 (.k (.v (.bool true))), some 2, none, false⟩]
def dc_impl_validValues : DC := .seq (.reg r_impl_validValues_0 none) (.seq (.seq (.reg r_impl_validValues_1 none) (.block 0 (.loop (.seq (.reg r_impl_validValues_2 none) (.seq (.cond (.t 8) .skip (.exit 0)) (.seq (.block 1 (.seq (.reg r_impl_validValues_3 none) (.seq (.reg r_impl_validValues_4 none) (.cond (.t 13) (.seq (.reg r_impl_validValues_5 none) .ret) .skip)))) (.reg r_impl_validValues_6 none))))))) (.seq (.reg r_impl_validValues_7 none) .ret))
theorem c_impl_validValues : cfun Try.prog [] 55 = some (15, dc_impl_validValues, [(Res.tmp 2)]) := by kernel_rfl
def r_impl_validWidth_0 : List GI := [⟨.mov 2 (.k (.v (.bool false))), some 2, none, false⟩]
def r_impl_validWidth_1 : List GI := [⟨.mov 3 (.t 0), some 3, none, false⟩, ⟨.bin 4 .leq (.k (.v (.int .i64 1))) (.t 3), some 4, none, false⟩, ⟨.mov 5 (.t 4), some 5, none, false⟩, ⟨.mov 6 (.t 0), some 6, some (5, true), false⟩, ⟨.bin 7 .leq (.t 6) (.k (.v (.int .i64 6))), some 7, some (5, true), false⟩, ⟨.pick 8 (.t 5) (.t 7) (.k (.v (.bool false))), some 8, none, false⟩, ⟨.mov 2 (.t 8), some 2, none, false⟩]
def dc_impl_validWidth : DC := .seq (.reg r_impl_validWidth_0 none) (.seq (.reg r_impl_validWidth_1 none) .ret)
theorem c_impl_validWidth : cfun Try.prog [] 38 = some (9, dc_impl_validWidth, [(Res.tmp 2)]) := by kernel_rfl
def r_spec_inRange_0 : List GI := [⟨.mov 6 (.k (.v (.bool false))), some 6, none, false⟩]
def r_spec_inRange_1 : List GI := [⟨.mov 7 (.t 0), some 7, none, false⟩, ⟨.mov 8 (.t 1), some 8, none, false⟩, ⟨.bin 9 .geq (.t 7) (.t 8), some 9, none, false⟩, ⟨.mov 10 (.t 9), some 10, none, false⟩, ⟨.mov 11 (.t 0), some 11, some (10, true), false⟩, ⟨.mov 12 (.t 2), some 12, some (10, true), false⟩, ⟨.bin 13 .leq (.t 11) (.t 12), some 13, some (10, true), false⟩, ⟨.pick 14 (.t 10) (.t 13) (.k (.v (.bool false))), some 14, none, false⟩, ⟨.mov 6 (.t 14), some 6, none, false⟩]
def dc_spec_inRange : DC := .seq (.reg r_spec_inRange_0 none) (.seq (.reg r_spec_inRange_1 none) .ret)
theorem c_spec_inRange : cfun Try.prog [] 47 = some (15, dc_spec_inRange, [(Res.tmp 6)]) := by kernel_rfl
def r_spec_validRow_0 : List GI := [⟨.mov 2 (.k (.v (.bool false))), some 2, none, false⟩]
def r_spec_validRow_1 : List GI := [⟨.mov 3 (.k (.v (.int .i64 0))), some 3, none, false⟩]
def r_spec_validRow_2 : List GI := [⟨.mov 4 (.t 3), some 4, none, false⟩, ⟨.mov 5 (.t 0), some 5, none, false⟩, ⟨.len 6 (.t 5), some 6, none, false⟩, ⟨.bin 7 .lss (.t 4) (.t 6), some 7, none, false⟩]
def r_spec_validRow_3 : List GI := [⟨.mov 10 (.t 0), some 10, none, false⟩, ⟨.mov 11 (.t 3), some 11, none, false⟩, ⟨.iad 12 10 (.t 11) 2, some 12, none, false⟩, ⟨.lod 13 12 (some 2), some 13, none, false⟩, ⟨.call 14 46 [.t 13], some 14, none, true⟩, ⟨.un 15 UnOp.not (.t 14), some 15, none, false⟩]
def r_spec_validRow_4 : List GI := [⟨.mov 2 (.k (.v (.bool false))), some 2, none, false⟩]
def r_spec_validRow_5 : List GI := [⟨.mov 8 (.t 3), some 8, none, false⟩, ⟨.bin 9 .add (.t 8) (.k (.v (.int .i64 1))), some 9, none, false⟩, ⟨.mov 3 (.t 9), some 3, none, false⟩]
def r_spec_validRow_6 : List GI := [⟨.mov 16 (.t 0), some 16, none, false⟩, ⟨.len 17 (.t 16), some 17, none, false⟩, ⟨.call 18 47 [.t 17, .k (.v (.int .i64 1)), .k (.v (.int .i64 6))], some 18, none, true⟩, ⟨.mov 2 (.t 18), some 2, none, false⟩]
def dc_spec_validRow : DC := .seq (.reg r_spec_validRow_0 none) (.seq (.seq (.reg r_spec_validRow_1 none) (.block 0 (.loop (.seq (.seq (.reg r_spec_validRow_2 none) (.cond (.t 7) .skip (.exit 0))) (.seq (.block 1 (.seq (.reg r_spec_validRow_3 none) (.cond (.t 15) (.seq (.reg r_spec_validRow_4 none) .ret) .skip))) (.reg r_spec_validRow_5 none)))))) (.seq (.reg r_spec_validRow_6 none) .ret))
theorem c_spec_validRow : cfun Try.prog [] 24 = some (19, dc_spec_validRow, [(Res.tmp 2)]) := by kernel_rfl
def r_spec_validValue_0 : List GI := [⟨.box 1 2000001 (.t 0) (some 2), some 1, none, false⟩, ⟨.mov 2 (.k (.v (.bool false))), some 2, none, false⟩]
def r_spec_validValue_1 : List GI := [⟨.fad 3 1 1, some 3, none, false⟩, ⟨.lod 4 3 none, some 4, none, false⟩, ⟨.call 5 47 [.t 4, .k (.v (.int .i64 (-9999))), .k (.v (.int .i64 9999))], some 5, none, true⟩, ⟨.mov 6 (.t 5), some 6, none, false⟩, ⟨.fad 7 1 0, some 7, some (6, true), false⟩, ⟨.lod 8 7 none, some 8, some (6, true), false⟩, ⟨.un 9 UnOp.not (.t 8), some 9, some (6, true), false⟩, ⟨.mov 10 (.t 9), some 10, some (6, true), false⟩, ⟨.fad 11 1 1, some 11, some (10, false), false⟩, ⟨.lod 12 11 none, some 12, some (10, false), false⟩, ⟨.bin 13 .eql (.t 12) (.k (.v (.int .i64 0))), some 13, some (10, false), false⟩, ⟨.pick 14 (.t 10) (.k (.v (.bool true))) (.t 13), some 14, some (6, true), false⟩, ⟨.pick 15 (.t 6) (.t 14) (.k (.v (.bool false))), some 15, none, false⟩, ⟨.mov 2 (.t 15), some 2, none, false⟩]
def dc_spec_validValue : DC := .seq (.reg r_spec_validValue_0 none) (.seq (.reg r_spec_validValue_1 none) .ret)
theorem c_spec_validValue : cfun Try.prog [] 46 = some (16, dc_spec_validValue, [(Res.tmp 2)]) := by kernel_rfl
def r_impl_Value_compare_0 : List GI := [⟨.box 2 2000002 (.t 0) (some 2), some 2, none, false⟩, ⟨.box 3 2000003 (.t 1) (some 2), some 3, none, false⟩, ⟨.mov 4 (.k (.v (.int .i64 0))), some 4, none, false⟩]
def r_impl_Value_compare_1 : List GI := [⟨.fad 6 2 0, some 6, none, false⟩, ⟨.lod 7 6 none, some 7, none, false⟩, ⟨.mov 8 (.t 7), some 8, none, false⟩, ⟨.fad 9 3 0, some 9, some (8, true), false⟩, ⟨.lod 10 9 none, some 10, some (8, true), false⟩, ⟨.pick 11 (.t 8) (.t 10) (.k (.v (.bool false))), some 11, none, false⟩, ⟨.mov 5 (.t 11), some 5, none, false⟩]
def r_impl_Value_compare_2 : List GI := [⟨.mov 4 (.k (.v (.int .i64 0))), some 4, none, false⟩]
def r_impl_Value_compare_3 : List GI := [⟨.fad 13 2 0, some 13, none, false⟩, ⟨.lod 14 13 none, some 14, none, false⟩, ⟨.mov 12 (.t 14), some 12, none, false⟩]
def r_impl_Value_compare_4 : List GI := [⟨.mov 4 (.k (.v (.int .i64 (-1)))), some 4, none, false⟩]
def r_impl_Value_compare_5 : List GI := [⟨.fad 16 3 0, some 16, none, false⟩, ⟨.lod 17 16 none, some 17, none, false⟩, ⟨.mov 15 (.t 17), some 15, none, false⟩]
def r_impl_Value_compare_6 : List GI := [⟨.mov 4 (.k (.v (.int .i64 1))), some 4, none, false⟩]
def r_impl_Value_compare_7 : List GI := [⟨.fad 18 2 1, some 18, none, false⟩, ⟨.lod 19 18 none, some 19, none, false⟩, ⟨.fad 20 3 1, some 20, none, false⟩, ⟨.lod 21 20 none, some 21, none, false⟩, ⟨.call 22 61 [.t 19, .t 21], some 22, none, true⟩, ⟨.mov 4 (.t 22), some 4, none, false⟩]
def dc_impl_Value_compare : DC := .seq (.reg r_impl_Value_compare_0 none) (.seq (.block 0 (.seq (.reg r_impl_Value_compare_1 none) (.cond (.t 5) (.seq (.reg r_impl_Value_compare_2 none) .ret) (.seq (.reg r_impl_Value_compare_3 none) (.cond (.t 12) (.seq (.reg r_impl_Value_compare_4 none) .ret) (.seq (.reg r_impl_Value_compare_5 none) (.cond (.t 15) (.seq (.reg r_impl_Value_compare_6 none) .ret) .skip))))))) (.seq (.reg r_impl_Value_compare_7 none) .ret))
theorem c_impl_Value_compare : cfun Try.prog [] 58 = some (23, dc_impl_Value_compare, [(Res.tmp 4)]) := by kernel_rfl
def r_spec_compareValues_0 : List GI := [⟨.box 2 2000002 (.t 0) (some 2), some 2, none, false⟩, ⟨.box 3 2000003 (.t 1) (some 2), some 3, none, false⟩, ⟨.mov 4 (.k (.v (.int .i64 0))), some 4, none, false⟩]
def r_spec_compareValues_1 : List GI := [⟨.lod 6 2 (some 2), some 6, none, false⟩, ⟨.lod 7 3 (some 2), some 7, none, false⟩, ⟨.eqs 8 false [false, true] (.t 6) (.t 7), some 8, none, false⟩, ⟨.mov 5 (.t 8), some 5, none, false⟩]
def r_spec_compareValues_2 : List GI := [⟨.mov 4 (.k (.v (.int .i64 0))), some 4, none, false⟩]
def r_spec_compareValues_3 : List GI := [⟨.fad 10 2 0, some 10, none, false⟩, ⟨.lod 11 10 none, some 11, none, false⟩, ⟨.mov 12 (.t 11), some 12, none, false⟩, ⟨.fad 13 3 0, some 13, some (12, false), false⟩, ⟨.lod 14 13 none, some 14, some (12, false), false⟩, ⟨.un 15 UnOp.not (.t 14), some 15, some (12, false), false⟩, ⟨.mov 16 (.t 15), some 16, some (12, false), false⟩, ⟨.fad 17 2 1, some 17, some (16, true), false⟩, ⟨.lod 18 17 none, some 18, some (16, true), false⟩, ⟨.fad 19 3 1, some 19, some (16, true), false⟩, ⟨.lod 20 19 none, some 20, some (16, true), false⟩, ⟨.bin 21 .lss (.t 18) (.t 20), some 21, some (16, true), false⟩, ⟨.pick 22 (.t 16) (.t 21) (.k (.v (.bool false))), some 22, some (12, false), false⟩, ⟨.pick 23 (.t 12) (.k (.v (.bool true))) (.t 22), some 23, none, false⟩, ⟨.mov 9 (.t 23), some 9, none, false⟩]
def r_spec_compareValues_4 : List GI := [⟨.mov 4 (.k (.v (.int .i64 (-1)))), some 4, none, false⟩]
def r_spec_compareValues_5 : List GI := [⟨.mov 4 (.k (.v (.int .i64 1))), some 4, none, false⟩]
def dc_spec_compareValues : DC := .seq (.reg r_spec_compareValues_0 none) (.seq (.block 0 (.seq (.reg r_spec_compareValues_1 none) (.cond (.t 5) (.seq (.reg r_spec_compareValues_2 none) .ret) (.seq (.reg r_spec_compareValues_3 none) (.cond (.t 9) (.seq (.reg r_spec_compareValues_4 none) .ret) .skip))))) (.seq (.reg r_spec_compareValues_5 none) .ret))
theorem c_spec_compareValues : cfun Try.prog [] 48 = some (24, dc_spec_compareValues, [(Res.tmp 4)]) := by kernel_rfl
def r_spec_compareRows_0 : List GI := [⟨.mov 4 (.k (.v (.int .i64 0))), some 4, none, false⟩]
def r_spec_compareRows_1 : List GI := [⟨.mov 5 (.k (.v (.int .i64 0))), some 5, none, false⟩]
def r_spec_compareRows_2 : List GI := [⟨.mov 7 (.t 5), some 7, none, false⟩, ⟨.mov 8 (.t 0), some 8, none, false⟩, ⟨.len 9 (.t 8), some 9, none, false⟩, ⟨.bin 10 .lss (.t 7) (.t 9), some 10, none, false⟩, ⟨.mov 11 (.t 10), some 11, none, false⟩, ⟨.mov 12 (.t 5), some 12, some (11, true), false⟩, ⟨.mov 13 (.t 1), some 13, some (11, true), false⟩, ⟨.len 14 (.t 13), some 14, some (11, true), false⟩, ⟨.bin 15 .lss (.t 12) (.t 14), some 15, some (11, true), false⟩, ⟨.pick 16 (.t 11) (.t 15) (.k (.v (.bool false))), some 16, none, false⟩]
def r_spec_compareRows_3 : List GI := [⟨.mov 19 (.t 0), some 19, none, false⟩, ⟨.mov 20 (.t 5), some 20, none, false⟩, ⟨.iad 21 19 (.t 20) 2, some 21, none, false⟩, ⟨.lod 22 21 (some 2), some 22, none, false⟩, ⟨.mov 23 (.t 1), some 23, none, false⟩, ⟨.mov 24 (.t 5), some 24, none, false⟩, ⟨.iad 25 23 (.t 24) 2, some 25, none, false⟩, ⟨.lod 26 25 (some 2), some 26, none, false⟩, ⟨.call 27 48 [.t 22, .t 26], some 27, none, true⟩, ⟨.mov 6 (.t 27), some 6, none, false⟩]
def r_spec_compareRows_4 : List GI := [⟨.mov 28 (.t 6), some 28, none, false⟩, ⟨.bin 29 .neq (.t 28) (.k (.v (.int .i64 0))), some 29, none, false⟩]
def r_spec_compareRows_5 : List GI := [⟨.mov 30 (.t 6), some 30, none, false⟩, ⟨.mov 4 (.t 30), some 4, none, false⟩]
def r_spec_compareRows_6 : List GI := [⟨.mov 17 (.t 5), some 17, none, false⟩, ⟨.bin 18 .add (.t 17) (.k (.v (.int .i64 1))), some 18, none, false⟩, ⟨.mov 5 (.t 18), some 5, none, false⟩]
def r_spec_compareRows_7 : List GI := [⟨.mov 31 (.t 0), some 31, none, false⟩, ⟨.len 32 (.t 31), some 32, none, false⟩, ⟨.mov 33 (.t 1), some 33, none, false⟩, ⟨.len 34 (.t 33), some 34, none, false⟩, ⟨.bin 35 .sub (.t 32) (.t 34), some 35, none, false⟩, ⟨.mov 4 (.t 35), some 4, none, false⟩]
def dc_spec_compareRows : DC := .seq (.reg r_spec_compareRows_0 none) (.seq (.seq (.reg r_spec_compareRows_1 none) (.block 0 (.loop (.seq (.seq (.reg r_spec_compareRows_2 none) (.cond (.t 16) .skip (.exit 0))) (.seq (.block 1 (.seq (.reg r_spec_compareRows_3 (some [0, 0, 3, 7, 0, 0, 48, 112, 255, 511])) (.seq (.reg r_spec_compareRows_4 none) (.cond (.t 29) (.seq (.reg r_spec_compareRows_5 none) .ret) .skip)))) (.reg r_spec_compareRows_6 none)))))) (.seq (.reg r_spec_compareRows_7 none) .ret))
theorem c_spec_compareRows : cfun Try.prog [] 53 = some (36, dc_spec_compareRows, [(Res.tmp 4)]) := by kernel_rfl
def r_impl_SortKey_order_1_0 : List GI := [⟨.mov 5 (.k (.v (.int .i64 0))), some 5, none, false⟩]
def r_impl_SortKey_order_1_1 : List GI := [⟨.mov 6 (.t 0), some 6, none, false⟩, ⟨.fad 7 2 0, some 7, none, false⟩, ⟨.lod 8 7 none, some 8, none, false⟩, ⟨.iad 9 6 (.t 8) 2, some 9, none, false⟩, ⟨.lod 10 9 (some 2), some 10, none, false⟩, ⟨.mov 11 (.t 1), some 11, none, false⟩, ⟨.fad 12 2 0, some 12, none, false⟩, ⟨.lod 13 12 none, some 13, none, false⟩, ⟨.iad 14 11 (.t 13) 2, some 14, none, false⟩, ⟨.lod 15 14 (some 2), some 15, none, false⟩, ⟨.call 16 58 [.t 10, .t 15], some 16, none, true⟩, ⟨.mov 5 (.t 16), some 5, none, false⟩]
def dc_impl_SortKey_order_1 : DC := .seq (.reg r_impl_SortKey_order_1_0 none) (.seq (.reg r_impl_SortKey_order_1_1 (some [0, 0, 2, 7, 15, 0, 0, 64, 224, 480, 1023, 2047])) .ret)
theorem c_impl_SortKey_order_1 : cfun Try.prog [] 57 = some (17, dc_impl_SortKey_order_1, [(Res.tmp 5)]) := by kernel_rfl
def r_impl_orderBy_1_0 : List GI := [⟨.mov 4 (.k (.v (.int .i64 0))), some 4, none, false⟩]
def r_impl_orderBy_1_1 : List GI := [⟨.mov 4 (.k (.v (.int .i64 0))), some 4, none, false⟩]
def dc_impl_orderBy_1 : DC := .seq (.reg r_impl_orderBy_1_0 none) (.seq (.reg r_impl_orderBy_1_1 none) .ret)
theorem c_impl_orderBy_1 : cfun Try.prog [] 43 = some (5, dc_impl_orderBy_1, [(Res.tmp 4)]) := by kernel_rfl
def r_impl_rowOrder_reversed_1_0 : List GI := [⟨.mov 5 (.k (.v (.int .i64 0))), some 5, none, false⟩]
def r_impl_rowOrder_reversed_1_1 : List GI := [⟨.lod 6 2 none, some 6, none, false⟩, ⟨.mov 7 (.t 1), some 7, none, false⟩, ⟨.mov 8 (.t 0), some 8, none, false⟩, ⟨.cal 9 (.t 6) [.t 7, .t 8], some 9, none, true⟩, ⟨.mov 5 (.t 9), some 5, none, false⟩]
def dc_impl_rowOrder_reversed_1 : DC := .seq (.reg r_impl_rowOrder_reversed_1_0 none) (.seq (.reg r_impl_rowOrder_reversed_1_1 none) .ret)
theorem c_impl_rowOrder_reversed_1 : cfun Try.prog [] 62 = some (10, dc_impl_rowOrder_reversed_1, [(Res.tmp 5)]) := by kernel_rfl
def r_impl_rowOrder_then_0 : List GI := [⟨.box 2 2000002 (.t 0) none, some 2, none, false⟩, ⟨.box 3 2000003 (.t 1) none, some 3, none, false⟩, ⟨.mov 4 (.k (.v .nilFunc)), some 4, none, false⟩]
def r_impl_rowOrder_then_1 : List GI := [⟨.mkf 5 56 [.t 2, .t 3], some 5, none, false⟩, ⟨.mov 4 (.t 5), some 4, none, false⟩]
def dc_impl_rowOrder_then : DC := .seq (.reg r_impl_rowOrder_then_0 none) (.seq (.reg r_impl_rowOrder_then_1 none) .ret)
theorem c_impl_rowOrder_then : cfun Try.prog [] 44 = some (6, dc_impl_rowOrder_then, [(Res.tmp 4)]) := by kernel_rfl
def r_impl_rowOrder_then_1_0 : List GI := [⟨.mov 6 (.k (.v (.int .i64 0))), some 6, none, false⟩]
def r_impl_rowOrder_then_1_1 : List GI := [⟨.lod 8 2 none, some 8, none, false⟩, ⟨.mov 9 (.t 0), some 9, none, false⟩, ⟨.mov 10 (.t 1), some 10, none, false⟩, ⟨.cal 11 (.t 8) [.t 9, .t 10], some 11, none, true⟩, ⟨.mov 7 (.t 11), some 7, none, false⟩]
def r_impl_rowOrder_then_1_2 : List GI := [⟨.mov 12 (.t 7), some 12, none, false⟩, ⟨.bin 13 .neq (.t 12) (.k (.v (.int .i64 0))), some 13, none, false⟩]
def r_impl_rowOrder_then_1_3 : List GI := [⟨.mov 14 (.t 7), some 14, none, false⟩, ⟨.mov 6 (.t 14), some 6, none, false⟩]
def r_impl_rowOrder_then_1_4 : List GI := [⟨.lod 15 3 none, some 15, none, false⟩, ⟨.mov 16 (.t 0), some 16, none, false⟩, ⟨.mov 17 (.t 1), some 17, none, false⟩, ⟨.cal 18 (.t 15) [.t 16, .t 17], some 18, none, true⟩, ⟨.mov 6 (.t 18), some 6, none, false⟩]
def dc_impl_rowOrder_then_1 : DC := .seq (.reg r_impl_rowOrder_then_1_0 none) (.seq (.seq (.reg r_impl_rowOrder_then_1_1 none) (.seq (.reg r_impl_rowOrder_then_1_2 none) (.cond (.t 13) (.seq (.reg r_impl_rowOrder_then_1_3 none) .ret) .skip))) (.seq (.reg r_impl_rowOrder_then_1_4 none) .ret))
theorem c_impl_rowOrder_then_1 : cfun Try.prog [] 56 = some (19, dc_impl_rowOrder_then_1, [(Res.tmp 6)]) := by kernel_rfl
end
end Go.Proofs.Ytkfmglbnicbooaa
