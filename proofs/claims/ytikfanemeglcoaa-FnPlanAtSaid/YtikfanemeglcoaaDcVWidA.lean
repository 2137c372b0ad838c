/-
  Functions of the program read as code on plain data. Closed facts of the program alone.
-/
import Derived.Test.YtikfanemeglcoaaRows
import Derived.Test.YtikfanemeglcoaaVLib
import Derived.KernelRfl
namespace Go.Proofs.Ytikfanemeglcoaa
open Go.RowKit
noncomputable section
def r_impl_validColumns_0 : List GI := [⟨.mov 4 (.k (.v (.bool false))), some 4, none, false⟩]
def r_impl_validColumns_1 : List GI := [⟨.mov 8 (.t 0), some 8, none, false⟩, ⟨.len 9 (.t 8), some 9, none, false⟩, ⟨.bin 10 .geq (.t 9) (.k (.v (.int .i64 6))), some 10, none, false⟩]
def r_impl_validColumns_2 : List GI := [⟨.mov 4 (.k (.v (.bool false))), some 4, none, false⟩]
def r_impl_validColumns_3 : List GI := [⟨.mov 5 (.k (.v (.int .i64 (-1)))), some 5, none, false⟩]
def r_impl_validColumns_4 : List GI := [⟨.mov 11 (.t 0), some 11, none, false⟩, ⟨.len 12 (.t 11), some 12, none, false⟩, ⟨.mov 13 (.k (.v (.int .i64 0))), some 13, none, false⟩]
def r_impl_validColumns_5 : List GI := [⟨.bin 14 .lss (.t 13) (.t 12), some 14, none, false⟩]
def r_impl_validColumns_6 : List GI := [⟨.iad 15 11 (.t 13) 1, some 15, none, false⟩, ⟨.lod 16 15 none, some 16, none, false⟩, ⟨.mov 7 (.t 16), some 7, none, false⟩]
def r_impl_validColumns_7 : List GI := [⟨.mov 17 (.t 7), some 17, none, false⟩, ⟨.mov 18 (.t 5), some 18, none, false⟩, ⟨.bin 19 .leq (.t 17) (.t 18), some 19, none, false⟩, ⟨.mov 20 (.t 19), some 20, none, false⟩, ⟨.mov 21 (.t 7), some 21, some (20, false), false⟩, ⟨.mov 22 (.t 1), some 22, some (20, false), false⟩, ⟨.bin 23 .geq (.t 21) (.t 22), some 23, some (20, false), false⟩, ⟨.pick 24 (.t 20) (.k (.v (.bool true))) (.t 23), some 24, none, false⟩]
def r_impl_validColumns_8 : List GI := [⟨.mov 4 (.k (.v (.bool false))), some 4, none, false⟩]
def r_impl_validColumns_9 : List GI := [⟨.mov 25 (.t 7), some 25, none, false⟩, ⟨.mov 5 (.t 25), some 5, none, false⟩]
def r_impl_validColumns_10 : List GI := [⟨.bin 26 .add (.t 13) (.k (.v (.int .i64 1))), some 26, none, false⟩, ⟨.mov 13 (.t 26), some 13, none, false⟩]
def r_impl_validColumns_11 : List GI := [⟨.mov 4 (.k (.v (.bool true))), some 4, none, false⟩]
def dc_impl_validColumns : DC := .seq (.reg r_impl_validColumns_0 none) (.seq (.seq (.reg r_impl_validColumns_1 none) (.cond (.t 10) (.seq (.reg r_impl_validColumns_2 none) .ret) .skip)) (.seq (.reg r_impl_validColumns_3 none) (.seq (.seq (.reg r_impl_validColumns_4 none) (.block 0 (.loop (.seq (.reg r_impl_validColumns_5 none) (.seq (.cond (.t 14) .skip (.exit 0)) (.seq (.block 1 (.seq (.reg r_impl_validColumns_6 none) (.seq (.seq (.reg r_impl_validColumns_7 none) (.cond (.t 24) (.seq (.reg r_impl_validColumns_8 none) .ret) .skip)) (.reg r_impl_validColumns_9 none)))) (.reg r_impl_validColumns_10 none))))))) (.seq (.reg r_impl_validColumns_11 none) .ret))))
theorem c_impl_validColumns : cfun Try.prog [] 59 = some (27, dc_impl_validColumns, [(Res.tmp 4)]) := by kernel_rfl
def r_impl_validWidths_0 : List GI := [⟨.mov 2 (.k (.v (.bool false))), some 2, none, false⟩]
def r_impl_validWidths_1 : List GI := [⟨.mov 5 (.t 0), some 5, none, false⟩, ⟨.len 6 (.t 5), some 6, none, false⟩, ⟨.bin 7 .lss (.t 6) (.k (.v (.int .i64 1))), some 7, none, false⟩, ⟨.mov 8 (.t 7), some 8, none, false⟩, ⟨.mov 9 (.t 0), some 9, some (8, false), false⟩, ⟨.len 10 (.t 9), some 10, some (8, false), false⟩, ⟨.bin 11 .gtr (.t 10) (.k (.v (.int .i64 4))), some 11, some (8, false), false⟩, ⟨.pick 12 (.t 8) (.k (.v (.bool true))) (.t 11), some 12, none, false⟩]
def r_impl_validWidths_2 : List GI := [⟨.mov 2 (.k (.v (.bool false))), some 2, none, false⟩]
def r_impl_validWidths_3 : List GI := [⟨.mov 13 (.t 0), some 13, none, false⟩, ⟨.len 14 (.t 13), some 14, none, false⟩, ⟨.mov 15 (.k (.v (.int .i64 0))), some 15, none, false⟩]
def r_impl_validWidths_4 : List GI := [⟨.bin 16 .lss (.t 15) (.t 14), some 16, none, false⟩]
def r_impl_validWidths_5 : List GI := [⟨.iad 17 13 (.t 15) 1, some 17, none, false⟩, ⟨.lod 18 17 none, some 18, none, false⟩, ⟨.mov 4 (.t 18), some 4, none, false⟩]
def r_impl_validWidths_6 : List GI := [⟨.mov 19 (.t 4), some 19, none, false⟩, ⟨.call 20 44 [.t 19], some 20, none, true⟩, ⟨.un 21 UnOp.not (.t 20), some 21, none, false⟩]
def r_impl_validWidths_7 : List GI := [⟨.mov 2 (.k (.v (.bool false))), some 2, none, false⟩]
def r_impl_validWidths_8 : List GI := [⟨.bin 22 .add (.t 15) (.k (.v (.int .i64 1))), some 22, none, false⟩, ⟨.mov 15 (.t 22), some 15, none, false⟩]
def r_impl_validWidths_9 : List GI := [⟨.mov 2 (.k (.v (.bool true))), some 2, none, false⟩]
def dc_impl_validWidths : DC := .seq (.reg r_impl_validWidths_0 none) (.seq (.seq (.reg r_impl_validWidths_1 none) (.cond (.t 12) (.seq (.reg r_impl_validWidths_2 none) .ret) .skip)) (.seq (.seq (.reg r_impl_validWidths_3 none) (.block 0 (.loop (.seq (.reg r_impl_validWidths_4 none) (.seq (.cond (.t 16) .skip (.exit 0)) (.seq (.block 1 (.seq (.reg r_impl_validWidths_5 none) (.seq (.reg r_impl_validWidths_6 none) (.cond (.t 21) (.seq (.reg r_impl_validWidths_7 none) .ret) .skip)))) (.reg r_impl_validWidths_8 none))))))) (.seq (.reg r_impl_validWidths_9 none) .ret)))
theorem c_impl_validWidths : cfun Try.prog [] 26 = some (23, dc_impl_validWidths, [(Res.tmp 2)]) := by kernel_rfl
def r_spec_projectWidth_0 : List GI := [⟨.mov 4 (.k (.v (.int .i64 0))), some 4, none, false⟩]
def r_spec_projectWidth_1 : List GI := [⟨.mov 5 (.k (.v (.int .i64 0))), some 5, none, false⟩]
def r_spec_projectWidth_2 : List GI := [⟨.mov 6 (.t 5), some 6, none, false⟩, ⟨.mov 7 (.t 0), some 7, none, false⟩, ⟨.len 8 (.t 7), some 8, none, false⟩, ⟨.bin 9 .lss (.t 6) (.t 8), some 9, none, false⟩]
def r_spec_projectWidth_3 : List GI := [⟨.mov 12 (.t 0), some 12, none, false⟩, ⟨.mov 13 (.t 5), some 13, none, false⟩, ⟨.iad 14 12 (.t 13) 5, some 14, none, false⟩, ⟨.lod 15 14 (some 5), some 15, none, false⟩, ⟨.mov 16 (.t 1), some 16, none, false⟩, ⟨.call 17 55 [.t 15, .t 16], some 17, none, true⟩, ⟨.un 18 UnOp.not (.t 17), some 18, none, false⟩]
def r_spec_projectWidth_4 : List GI := [⟨.mov 4 (.k (.v (.int .i64 0))), some 4, none, false⟩]
def r_spec_projectWidth_5 : List GI := [⟨.mov 10 (.t 5), some 10, none, false⟩, ⟨.bin 11 .add (.t 10) (.k (.v (.int .i64 1))), some 11, none, false⟩, ⟨.mov 5 (.t 11), some 5, none, false⟩]
def r_spec_projectWidth_6 : List GI := [⟨.mov 19 (.t 0), some 19, none, false⟩, ⟨.len 20 (.t 19), some 20, none, false⟩, ⟨.bin 21 .gtr (.t 20) (.k (.v (.int .i64 6))), some 21, none, false⟩]
def r_spec_projectWidth_7 : List GI := [⟨.mov 4 (.k (.v (.int .i64 0))), some 4, none, false⟩]
def r_spec_projectWidth_8 : List GI := [⟨.mov 22 (.t 0), some 22, none, false⟩, ⟨.len 23 (.t 22), some 23, none, false⟩, ⟨.mov 4 (.t 23), some 4, none, false⟩]
def dc_spec_projectWidth : DC := .seq (.reg r_spec_projectWidth_0 none) (.seq (.seq (.reg r_spec_projectWidth_1 none) (.block 0 (.loop (.seq (.seq (.reg r_spec_projectWidth_2 none) (.cond (.t 9) .skip (.exit 0))) (.seq (.block 1 (.seq (.reg r_spec_projectWidth_3 none) (.cond (.t 18) (.seq (.reg r_spec_projectWidth_4 none) .ret) .skip))) (.reg r_spec_projectWidth_5 none)))))) (.seq (.seq (.reg r_spec_projectWidth_6 none) (.cond (.t 21) (.seq (.reg r_spec_projectWidth_7 none) .ret) .skip)) (.seq (.reg r_spec_projectWidth_8 none) .ret)))
theorem c_spec_projectWidth : cfun Try.prog [] 56 = some (24, dc_spec_projectWidth, [(Res.tmp 4)]) := by kernel_rfl
def r_spec_validCols_0 : List GI := [⟨.mov 4 (.k (.v (.bool false))), some 4, none, false⟩]
def r_spec_validCols_1 : List GI := [⟨.mov 5 (.k (.v (.int .i64 0))), some 5, none, false⟩]
def r_spec_validCols_2 : List GI := [⟨.mov 6 (.t 5), some 6, none, false⟩, ⟨.mov 7 (.t 0), some 7, none, false⟩, ⟨.len 8 (.t 7), some 8, none, false⟩, ⟨.bin 9 .lss (.t 6) (.t 8), some 9, none, false⟩]
def r_spec_validCols_3 : List GI := [⟨.mov 12 (.t 0), some 12, none, false⟩, ⟨.mov 13 (.t 5), some 13, none, false⟩, ⟨.iad 14 12 (.t 13) 1, some 14, none, false⟩, ⟨.lod 15 14 none, some 15, none, false⟩, ⟨.mov 16 (.t 1), some 16, none, false⟩, ⟨.bin 17 .sub (.t 16) (.k (.v (.int .i64 1))), some 17, none, false⟩, ⟨.call 18 39 [.t 15, .k (.v (.int .i64 0)), .t 17], some 18, none, true⟩, ⟨.un 19 UnOp.not (.t 18), some 19, none, false⟩, ⟨.mov 20 (.t 19), some 20, none, false⟩, ⟨.mov 21 (.t 5), some 21, some (20, false), false⟩, ⟨.bin 22 .gtr (.t 21) (.k (.v (.int .i64 0))), some 22, some (20, false), false⟩, ⟨.mov 23 (.t 22), some 23, some (20, false), false⟩, ⟨.mov 24 (.t 0), some 24, some (23, true), false⟩, ⟨.mov 25 (.t 5), some 25, some (23, true), false⟩, ⟨.iad 26 24 (.t 25) 1, some 26, some (23, true), false⟩, ⟨.lod 27 26 none, some 27, some (23, true), false⟩, ⟨.mov 28 (.t 0), some 28, some (23, true), false⟩, ⟨.mov 29 (.t 5), some 29, some (23, true), false⟩, ⟨.bin 30 .sub (.t 29) (.k (.v (.int .i64 1))), some 30, some (23, true), false⟩, ⟨.iad 31 28 (.t 30) 1, some 31, some (23, true), false⟩, ⟨.lod 32 31 none, some 32, some (23, true), false⟩, ⟨.bin 33 .leq (.t 27) (.t 32), some 33, some (23, true), false⟩, ⟨.pick 34 (.t 23) (.t 33) (.k (.v (.bool false))), some 34, some (20, false), false⟩, ⟨.pick 35 (.t 20) (.k (.v (.bool true))) (.t 34), some 35, none, false⟩]
def r_spec_validCols_4 : List GI := [⟨.mov 4 (.k (.v (.bool false))), some 4, none, false⟩]
def r_spec_validCols_5 : List GI := [⟨.mov 10 (.t 5), some 10, none, false⟩, ⟨.bin 11 .add (.t 10) (.k (.v (.int .i64 1))), some 11, none, false⟩, ⟨.mov 5 (.t 11), some 5, none, false⟩]
def r_spec_validCols_6 : List GI := [⟨.mov 4 (.k (.v (.bool true))), some 4, none, false⟩]
def dc_spec_validCols : DC := .seq (.reg r_spec_validCols_0 none) (.seq (.seq (.reg r_spec_validCols_1 none) (.block 0 (.loop (.seq (.seq (.reg r_spec_validCols_2 none) (.cond (.t 9) .skip (.exit 0))) (.seq (.block 1 (.seq (.reg r_spec_validCols_3 (some [0, 0, 3, 7, 0, 16, 63, 127, 255, 511, 1023, 2047, 4095, 4095, 16383, 32767, 4095, 4095, 135167, 462847, 987135, 2097151, 4194303, 8388607])) (.cond (.t 35) (.seq (.reg r_spec_validCols_4 none) .ret) .skip))) (.reg r_spec_validCols_5 none)))))) (.seq (.reg r_spec_validCols_6 none) .ret))
theorem c_spec_validCols : cfun Try.prog [] 57 = some (36, dc_spec_validCols, [(Res.tmp 4)]) := by kernel_rfl
def r_spec_validWidths_0 : List GI := [⟨.mov 2 (.k (.v (.bool false))), some 2, none, false⟩]
def r_spec_validWidths_1 : List GI := [⟨.mov 3 (.k (.v (.int .i64 0))), some 3, none, false⟩]
def r_spec_validWidths_2 : List GI := [⟨.mov 4 (.t 3), some 4, none, false⟩, ⟨.mov 5 (.t 0), some 5, none, false⟩, ⟨.len 6 (.t 5), some 6, none, false⟩, ⟨.bin 7 .lss (.t 4) (.t 6), some 7, none, false⟩]
def r_spec_validWidths_3 : List GI := [⟨.mov 10 (.t 0), some 10, none, false⟩, ⟨.mov 11 (.t 3), some 11, none, false⟩, ⟨.iad 12 10 (.t 11) 1, some 12, none, false⟩, ⟨.lod 13 12 none, some 13, none, false⟩, ⟨.call 14 39 [.t 13, .k (.v (.int .i64 1)), .k (.v (.int .i64 6))], some 14, none, true⟩, ⟨.un 15 UnOp.not (.t 14), some 15, none, false⟩]
def r_spec_validWidths_4 : List GI := [⟨.mov 2 (.k (.v (.bool false))), some 2, none, false⟩]
def r_spec_validWidths_5 : List GI := [⟨.mov 8 (.t 3), some 8, none, false⟩, ⟨.bin 9 .add (.t 8) (.k (.v (.int .i64 1))), some 9, none, false⟩, ⟨.mov 3 (.t 9), some 3, none, false⟩]
def r_spec_validWidths_6 : List GI := [⟨.mov 16 (.t 0), some 16, none, false⟩, ⟨.len 17 (.t 16), some 17, none, false⟩, ⟨.call 18 39 [.t 17, .k (.v (.int .i64 1)), .k (.v (.int .i64 4))], some 18, none, true⟩, ⟨.mov 2 (.t 18), some 2, none, false⟩]
def dc_spec_validWidths : DC := .seq (.reg r_spec_validWidths_0 none) (.seq (.seq (.reg r_spec_validWidths_1 none) (.block 0 (.loop (.seq (.seq (.reg r_spec_validWidths_2 none) (.cond (.t 7) .skip (.exit 0))) (.seq (.block 1 (.seq (.reg r_spec_validWidths_3 none) (.cond (.t 15) (.seq (.reg r_spec_validWidths_4 none) .ret) .skip))) (.reg r_spec_validWidths_5 none)))))) (.seq (.reg r_spec_validWidths_6 none) .ret))
theorem c_spec_validWidths : cfun Try.prog [] 42 = some (19, dc_spec_validWidths, [(Res.tmp 2)]) := by kernel_rfl
end
end Go.Proofs.Ytikfanemeglcoaa
