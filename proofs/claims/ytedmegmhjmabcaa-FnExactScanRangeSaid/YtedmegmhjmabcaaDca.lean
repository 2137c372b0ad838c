/-
  Functions of the program read as code on plain data. Closed facts of the program alone.
-/
import Derived.Test.YtedmegmhjmabcaaRows
import Derived.Test.YtedmegmhjmabcaaVLib
import Derived.KernelRfl
namespace Go.Proofs.Ytedmegmhjmabcaa
open Go.RowKit
noncomputable section
theorem mixed : Try.prog.follows .mixedOrders = true := by kernel_rfl
def r_laws_eqValue_0 : List GI := [⟨.box 2 2000002 (.t 0) (some 2), some 2, none, false⟩, ⟨.box 3 2000003 (.t 1) (some 2), some 3, none, false⟩, ⟨.mov 4 (.k (.v (.bool false))), some 4, none, false⟩]
def r_laws_eqValue_1 : List GI := [⟨.fad 5 2 0, some 5, none, false⟩, ⟨.lod 6 5 none, some 6, none, false⟩, ⟨.fad 7 3 0, some 7, none, false⟩, ⟨.lod 8 7 none, some 8, none, false⟩, ⟨.beq 9 true (.t 6) (.t 8), some 9, none, false⟩]
def r_laws_eqValue_2 : List GI := [⟨.mov 4 (.k (.v (.bool false))), some 4, none, false⟩]
def r_laws_eqValue_3 : List GI := [⟨.fad 10 2 1, some 10, none, false⟩, ⟨.lod 11 10 none, some 11, none, false⟩, ⟨.fad 12 3 1, some 12, none, false⟩, ⟨.lod 13 12 none, some 13, none, false⟩, ⟨.bin 14 .neq (.t 11) (.t 13), some 14, none, false⟩]
def r_laws_eqValue_4 : List GI := [⟨.mov 4 (.k (.v (.bool false))), some 4, none, false⟩]
def r_laws_eqValue_5 : List GI := [⟨.mov 4 (.k (.v (.bool true))), some 4, none, false⟩]
def dc_laws_eqValue : DC := .seq (.reg r_laws_eqValue_0 none) (.seq (.seq (.reg r_laws_eqValue_1 none) (.cond (.t 9) (.seq (.reg r_laws_eqValue_2 none) .ret) .skip)) (.seq (.seq (.reg r_laws_eqValue_3 none) (.cond (.t 14) (.seq (.reg r_laws_eqValue_4 none) .ret) .skip)) (.seq (.reg r_laws_eqValue_5 none) .ret)))
theorem c_laws_eqValue : cfun Try.prog [] 108 = some (15, dc_laws_eqValue, [(Res.tmp 4)]) := by kernel_rfl
def r_laws_toValue_0 : List GI := [⟨.box 1 2000001 (.t 0) (some 2), some 1, none, false⟩, ⟨.alloc 2 2000002 [.v (.bool false), .v (.int .i64 0)], some 2, none, false⟩]
def r_laws_toValue_1 : List GI := [⟨.alloc 3 2000003 [.v (.bool false), .v (.int .i64 0)], some 3, none, false⟩]
def r_laws_toValue_2 : List GI := [⟨.fad 4 1 0, some 4, none, false⟩, ⟨.lod 5 4 none, some 5, none, false⟩, ⟨.fad 6 3 0, some 6, none, false⟩, ⟨.sto 6 (.t 5) none, none, none, false⟩]
def r_laws_toValue_3 : List GI := [⟨.fad 7 1 1, some 7, none, false⟩, ⟨.lod 8 7 none, some 8, none, false⟩, ⟨.fad 9 3 1, some 9, none, false⟩, ⟨.sto 9 (.t 8) none, none, none, false⟩]
def r_laws_toValue_4 : List GI := [⟨.lod 10 3 (some 2), some 10, none, false⟩, ⟨.sto 2 (.t 10) (some 2), none, none, false⟩]
def dc_laws_toValue : DC := .seq (.reg r_laws_toValue_0 none) (.seq (.reg r_laws_toValue_1 none) (.seq (.reg r_laws_toValue_2 none) (.seq (.reg r_laws_toValue_3 none) (.seq (.reg r_laws_toValue_4 none) .ret))))
theorem c_laws_toValue : cfun Try.prog [] 125 = some (11, dc_laws_toValue, [(Res.cell 2 (some 2))]) := by kernel_rfl
def r_laws_eqTable_0 : List GI := [⟨.box 2 2000002 (.t 0) (some 2), some 2, none, false⟩, ⟨.box 3 2000003 (.t 1) (some 2), some 3, none, false⟩, ⟨.mov 4 (.k (.v (.bool false))), some 4, none, false⟩]
def r_laws_eqTable_1 : List GI := [⟨.fad 5 2 0, some 5, none, false⟩, ⟨.lod 6 5 none, some 6, none, false⟩, ⟨.fad 7 3 0, some 7, none, false⟩, ⟨.lod 8 7 none, some 8, none, false⟩, ⟨.bin 9 .neq (.t 6) (.t 8), some 9, none, false⟩]
def r_laws_eqTable_2 : List GI := [⟨.mov 4 (.k (.v (.bool false))), some 4, none, false⟩]
def r_laws_eqTable_3 : List GI := [⟨.fad 10 2 1, some 10, none, false⟩, ⟨.lod 11 10 none, some 11, none, false⟩, ⟨.fad 12 3 1, some 12, none, false⟩, ⟨.lod 13 12 none, some 13, none, false⟩, ⟨.call 14 32 [.t 11, .t 13], some 14, none, true⟩, ⟨.un 15 UnOp.not (.t 14), some 15, none, false⟩]
def r_laws_eqTable_4 : List GI := [⟨.mov 4 (.k (.v (.bool false))), some 4, none, false⟩]
def r_laws_eqTable_5 : List GI := [⟨.mov 4 (.k (.v (.bool true))), some 4, none, false⟩]
def dc_laws_eqTable : DC := .seq (.reg r_laws_eqTable_0 none) (.seq (.seq (.reg r_laws_eqTable_1 none) (.cond (.t 9) (.seq (.reg r_laws_eqTable_2 none) .ret) .skip)) (.seq (.seq (.reg r_laws_eqTable_3 none) (.cond (.t 15) (.seq (.reg r_laws_eqTable_4 none) .ret) .skip)) (.seq (.reg r_laws_eqTable_5 none) .ret)))
theorem c_laws_eqTable : cfun Try.prog [] 20 = some (16, dc_laws_eqTable, [(Res.tmp 4)]) := by kernel_rfl
def r_laws_eqValueS_0 : List GI := [⟨.mov 4 (.k (.v (.bool false))), some 4, none, false⟩]
def r_laws_eqValueS_1 : List GI := [⟨.mov 6 (.t 0), some 6, none, false⟩, ⟨.len 7 (.t 6), some 7, none, false⟩, ⟨.mov 8 (.t 1), some 8, none, false⟩, ⟨.len 9 (.t 8), some 9, none, false⟩, ⟨.bin 10 .neq (.t 7) (.t 9), some 10, none, false⟩]
def r_laws_eqValueS_2 : List GI := [⟨.mov 4 (.k (.v (.bool false))), some 4, none, false⟩]
def r_laws_eqValueS_3 : List GI := [⟨.mov 5 (.k (.v (.int .i64 0))), some 5, none, false⟩]
def r_laws_eqValueS_4 : List GI := [⟨.mov 11 (.t 5), some 11, none, false⟩, ⟨.mov 12 (.t 0), some 12, none, false⟩, ⟨.len 13 (.t 12), some 13, none, false⟩, ⟨.bin 14 .lss (.t 11) (.t 13), some 14, none, false⟩]
def r_laws_eqValueS_5 : List GI := [⟨.mov 17 (.t 0), some 17, none, false⟩, ⟨.mov 18 (.t 5), some 18, none, false⟩, ⟨.iad 19 17 (.t 18) 2, some 19, none, false⟩, ⟨.lod 20 19 (some 2), some 20, none, false⟩, ⟨.mov 21 (.t 1), some 21, none, false⟩, ⟨.mov 22 (.t 5), some 22, none, false⟩, ⟨.iad 23 21 (.t 22) 2, some 23, none, false⟩, ⟨.lod 24 23 (some 2), some 24, none, false⟩, ⟨.call 25 108 [.t 20, .t 24], some 25, none, true⟩, ⟨.un 26 UnOp.not (.t 25), some 26, none, false⟩]
def r_laws_eqValueS_6 : List GI := [⟨.mov 4 (.k (.v (.bool false))), some 4, none, false⟩]
def r_laws_eqValueS_7 : List GI := [⟨.mov 15 (.t 5), some 15, none, false⟩, ⟨.bin 16 .add (.t 15) (.k (.v (.int .i64 1))), some 16, none, false⟩, ⟨.mov 5 (.t 16), some 5, none, false⟩]
def r_laws_eqValueS_8 : List GI := [⟨.mov 4 (.k (.v (.bool true))), some 4, none, false⟩]
def dc_laws_eqValueS : DC := .seq (.reg r_laws_eqValueS_0 none) (.seq (.seq (.reg r_laws_eqValueS_1 none) (.cond (.t 10) (.seq (.reg r_laws_eqValueS_2 none) .ret) .skip)) (.seq (.seq (.reg r_laws_eqValueS_3 none) (.block 0 (.loop (.seq (.seq (.reg r_laws_eqValueS_4 none) (.cond (.t 14) .skip (.exit 0))) (.seq (.block 1 (.seq (.reg r_laws_eqValueS_5 (some [0, 0, 3, 7, 0, 0, 48, 112, 255, 511])) (.cond (.t 26) (.seq (.reg r_laws_eqValueS_6 none) .ret) .skip))) (.reg r_laws_eqValueS_7 none)))))) (.seq (.reg r_laws_eqValueS_8 none) .ret)))
theorem c_laws_eqValueS : cfun Try.prog [] 71 = some (27, dc_laws_eqValueS, [(Res.tmp 4)]) := by kernel_rfl
def r_laws_eqValueSS_0 : List GI := [⟨.mov 4 (.k (.v (.bool false))), some 4, none, false⟩]
def r_laws_eqValueSS_1 : List GI := [⟨.mov 6 (.t 0), some 6, none, false⟩, ⟨.len 7 (.t 6), some 7, none, false⟩, ⟨.mov 8 (.t 1), some 8, none, false⟩, ⟨.len 9 (.t 8), some 9, none, false⟩, ⟨.bin 10 .neq (.t 7) (.t 9), some 10, none, false⟩]
def r_laws_eqValueSS_2 : List GI := [⟨.mov 4 (.k (.v (.bool false))), some 4, none, false⟩]
def r_laws_eqValueSS_3 : List GI := [⟨.mov 5 (.k (.v (.int .i64 0))), some 5, none, false⟩]
def r_laws_eqValueSS_4 : List GI := [⟨.mov 11 (.t 5), some 11, none, false⟩, ⟨.mov 12 (.t 0), some 12, none, false⟩, ⟨.len 13 (.t 12), some 13, none, false⟩, ⟨.bin 14 .lss (.t 11) (.t 13), some 14, none, false⟩]
def r_laws_eqValueSS_5 : List GI := [⟨.mov 17 (.t 0), some 17, none, false⟩, ⟨.mov 18 (.t 5), some 18, none, false⟩, ⟨.iad 19 17 (.t 18) 1, some 19, none, false⟩, ⟨.lod 20 19 none, some 20, none, false⟩, ⟨.mov 21 (.t 1), some 21, none, false⟩, ⟨.mov 22 (.t 5), some 22, none, false⟩, ⟨.iad 23 21 (.t 22) 1, some 23, none, false⟩, ⟨.lod 24 23 none, some 24, none, false⟩, ⟨.call 25 71 [.t 20, .t 24], some 25, none, true⟩, ⟨.un 26 UnOp.not (.t 25), some 26, none, false⟩]
def r_laws_eqValueSS_6 : List GI := [⟨.mov 4 (.k (.v (.bool false))), some 4, none, false⟩]
def r_laws_eqValueSS_7 : List GI := [⟨.mov 15 (.t 5), some 15, none, false⟩, ⟨.bin 16 .add (.t 15) (.k (.v (.int .i64 1))), some 16, none, false⟩, ⟨.mov 5 (.t 16), some 5, none, false⟩]
def r_laws_eqValueSS_8 : List GI := [⟨.mov 4 (.k (.v (.bool true))), some 4, none, false⟩]
def dc_laws_eqValueSS : DC := .seq (.reg r_laws_eqValueSS_0 none) (.seq (.seq (.reg r_laws_eqValueSS_1 none) (.cond (.t 10) (.seq (.reg r_laws_eqValueSS_2 none) .ret) .skip)) (.seq (.seq (.reg r_laws_eqValueSS_3 none) (.block 0 (.loop (.seq (.seq (.reg r_laws_eqValueSS_4 none) (.cond (.t 14) .skip (.exit 0))) (.seq (.block 1 (.seq (.reg r_laws_eqValueSS_5 (some [0, 0, 3, 7, 0, 0, 48, 112, 255, 511])) (.cond (.t 26) (.seq (.reg r_laws_eqValueSS_6 none) .ret) .skip))) (.reg r_laws_eqValueSS_7 none)))))) (.seq (.reg r_laws_eqValueSS_8 none) .ret)))
theorem c_laws_eqValueSS : cfun Try.prog [] 32 = some (27, dc_laws_eqValueSS, [(Res.tmp 4)]) := by kernel_rfl
def r_laws_szTable_0 : List GI := [⟨.box 2 2000002 (.t 0) (some 2), some 2, none, false⟩, ⟨.mov 4 (.k (.v (.int .i64 0))), some 4, none, false⟩]
def r_laws_szTable_1 : List GI := [⟨.fad 5 2 1, some 5, none, false⟩, ⟨.lod 6 5 none, some 6, none, false⟩, ⟨.mov 7 (.t 1), some 7, none, false⟩, ⟨.call 8 49 [.t 6, .t 7], some 8, none, true⟩, ⟨.mov 1 (.t 8), some 1, none, false⟩]
def r_laws_szTable_2 : List GI := [⟨.mov 9 (.t 1), some 9, none, false⟩, ⟨.bin 10 .lss (.t 9) (.k (.v (.int .i64 0))), some 10, none, false⟩]
def r_laws_szTable_3 : List GI := [⟨.mov 4 (.k (.v (.int .i64 (-1)))), some 4, none, false⟩]
def r_laws_szTable_4 : List GI := [⟨.mov 11 (.t 1), some 11, none, false⟩, ⟨.mov 4 (.t 11), some 4, none, false⟩]
def dc_laws_szTable : DC := .seq (.reg r_laws_szTable_0 none) (.seq (.reg r_laws_szTable_1 none) (.seq (.seq (.reg r_laws_szTable_2 none) (.cond (.t 10) (.seq (.reg r_laws_szTable_3 none) .ret) .skip)) (.seq (.reg r_laws_szTable_4 none) .ret)))
theorem c_laws_szTable : cfun Try.prog [] 15 = some (12, dc_laws_szTable, [(Res.tmp 4)]) := by kernel_rfl
def r_laws_szValueS_0 : List GI := [⟨.mov 4 (.k (.v (.int .i64 0))), some 4, none, false⟩]
def r_laws_szValueS_1 : List GI := [⟨.mov 5 (.t 1), some 5, none, false⟩, ⟨.mov 6 (.t 0), some 6, none, false⟩, ⟨.len 7 (.t 6), some 7, none, false⟩, ⟨.bin 8 .sub (.t 5) (.t 7), some 8, none, false⟩, ⟨.mov 1 (.t 8), some 1, none, false⟩]
def r_laws_szValueS_2 : List GI := [⟨.mov 9 (.t 1), some 9, none, false⟩, ⟨.bin 10 .lss (.t 9) (.k (.v (.int .i64 0))), some 10, none, false⟩]
def r_laws_szValueS_3 : List GI := [⟨.mov 4 (.k (.v (.int .i64 (-1)))), some 4, none, false⟩]
def r_laws_szValueS_4 : List GI := [⟨.mov 11 (.t 1), some 11, none, false⟩, ⟨.mov 4 (.t 11), some 4, none, false⟩]
def dc_laws_szValueS : DC := .seq (.reg r_laws_szValueS_0 none) (.seq (.reg r_laws_szValueS_1 none) (.seq (.seq (.reg r_laws_szValueS_2 none) (.cond (.t 10) (.seq (.reg r_laws_szValueS_3 none) .ret) .skip)) (.seq (.reg r_laws_szValueS_4 none) .ret)))
theorem c_laws_szValueS : cfun Try.prog [] 91 = some (12, dc_laws_szValueS, [(Res.tmp 4)]) := by kernel_rfl
def r_laws_szValueSS_0 : List GI := [⟨.mov 4 (.k (.v (.int .i64 0))), some 4, none, false⟩]
def r_laws_szValueSS_1 : List GI := [⟨.mov 6 (.t 1), some 6, none, false⟩, ⟨.mov 7 (.t 0), some 7, none, false⟩, ⟨.len 8 (.t 7), some 8, none, false⟩, ⟨.bin 9 .sub (.t 6) (.t 8), some 9, none, false⟩, ⟨.mov 1 (.t 9), some 1, none, false⟩]
def r_laws_szValueSS_2 : List GI := [⟨.mov 10 (.t 1), some 10, none, false⟩, ⟨.bin 11 .lss (.t 10) (.k (.v (.int .i64 0))), some 11, none, false⟩]
def r_laws_szValueSS_3 : List GI := [⟨.mov 4 (.k (.v (.int .i64 (-1)))), some 4, none, false⟩]
def r_laws_szValueSS_4 : List GI := [⟨.mov 5 (.k (.v (.int .i64 0))), some 5, none, false⟩]
def r_laws_szValueSS_5 : List GI := [⟨.mov 12 (.t 5), some 12, none, false⟩, ⟨.mov 13 (.t 0), some 13, none, false⟩, ⟨.len 14 (.t 13), some 14, none, false⟩, ⟨.bin 15 .lss (.t 12) (.t 14), some 15, none, false⟩]
def r_laws_szValueSS_6 : List GI := [⟨.mov 18 (.t 0), some 18, none, false⟩, ⟨.mov 19 (.t 5), some 19, none, false⟩, ⟨.iad 20 18 (.t 19) 1, some 20, none, false⟩, ⟨.lod 21 20 none, some 21, none, false⟩, ⟨.mov 22 (.t 1), some 22, none, false⟩, ⟨.call 23 91 [.t 21, .t 22], some 23, none, true⟩, ⟨.mov 1 (.t 23), some 1, none, false⟩]
def r_laws_szValueSS_7 : List GI := [⟨.mov 24 (.t 1), some 24, none, false⟩, ⟨.bin 25 .lss (.t 24) (.k (.v (.int .i64 0))), some 25, none, false⟩]
def r_laws_szValueSS_8 : List GI := [⟨.mov 4 (.k (.v (.int .i64 (-1)))), some 4, none, false⟩]
def r_laws_szValueSS_9 : List GI := [⟨.mov 16 (.t 5), some 16, none, false⟩, ⟨.bin 17 .add (.t 16) (.k (.v (.int .i64 1))), some 17, none, false⟩, ⟨.mov 5 (.t 17), some 5, none, false⟩]
def r_laws_szValueSS_10 : List GI := [⟨.mov 26 (.t 1), some 26, none, false⟩, ⟨.mov 4 (.t 26), some 4, none, false⟩]
def dc_laws_szValueSS : DC := .seq (.reg r_laws_szValueSS_0 none) (.seq (.reg r_laws_szValueSS_1 none) (.seq (.seq (.reg r_laws_szValueSS_2 none) (.cond (.t 11) (.seq (.reg r_laws_szValueSS_3 none) .ret) .skip)) (.seq (.seq (.reg r_laws_szValueSS_4 none) (.block 0 (.loop (.seq (.seq (.reg r_laws_szValueSS_5 none) (.cond (.t 15) .skip (.exit 0))) (.seq (.block 1 (.seq (.reg r_laws_szValueSS_6 none) (.seq (.reg r_laws_szValueSS_7 none) (.cond (.t 25) (.seq (.reg r_laws_szValueSS_8 none) .ret) .skip)))) (.reg r_laws_szValueSS_9 none)))))) (.seq (.reg r_laws_szValueSS_10 none) .ret))))
theorem c_laws_szValueSS : cfun Try.prog [] 49 = some (27, dc_laws_szValueSS, [(Res.tmp 4)]) := by kernel_rfl
def r_laws_toTable_0 : List GI := [⟨.box 1 2000001 (.t 0) (some 2), some 1, none, false⟩, ⟨.alloc 2 2000002 [.v (.int .i64 0), .nul], some 2, none, false⟩]
def r_laws_toTable_1 : List GI := [⟨.alloc 3 2000003 [.v (.int .i64 0), .nul], some 3, none, false⟩]
def r_laws_toTable_2 : List GI := [⟨.fad 4 1 0, some 4, none, false⟩, ⟨.lod 5 4 none, some 5, none, false⟩, ⟨.fad 6 3 0, some 6, none, false⟩, ⟨.sto 6 (.t 5) none, none, none, false⟩]
def r_laws_toTable_3 : List GI := [⟨.fad 7 1 1, some 7, none, false⟩, ⟨.lod 8 7 none, some 8, none, false⟩, ⟨.call 9 51 [.t 8], some 9, none, true⟩, ⟨.fad 10 3 1, some 10, none, false⟩, ⟨.sto 10 (.t 9) none, none, none, false⟩]
def r_laws_toTable_4 : List GI := [⟨.lod 11 3 (some 2), some 11, none, false⟩, ⟨.sto 2 (.t 11) (some 2), none, none, false⟩]
def dc_laws_toTable : DC := .seq (.reg r_laws_toTable_0 none) (.seq (.reg r_laws_toTable_1 none) (.seq (.reg r_laws_toTable_2 none) (.seq (.reg r_laws_toTable_3 none) (.seq (.reg r_laws_toTable_4 none) .ret))))
theorem c_laws_toTable : cfun Try.prog [] 17 = some (12, dc_laws_toTable, [(Res.cell 2 (some 2))]) := by kernel_rfl
def r_laws_toValueS_0 : List GI := [⟨.mov 2 (.k .nul), some 2, none, false⟩]
def r_laws_toValueS_1 : List GI := [⟨.mov 5 (.t 0), some 5, none, false⟩, ⟨.len 6 (.t 5), some 6, none, false⟩, ⟨.mks 7 2000007 (.t 6) 2 16 (.agg [.v (.bool false), .v (.int .i64 0)]), some 7, none, false⟩, ⟨.mov 3 (.t 7), some 3, none, false⟩]
def r_laws_toValueS_2 : List GI := [⟨.mov 4 (.k (.v (.int .i64 0))), some 4, none, false⟩]
def r_laws_toValueS_3 : List GI := [⟨.mov 8 (.t 4), some 8, none, false⟩, ⟨.mov 9 (.t 0), some 9, none, false⟩, ⟨.len 10 (.t 9), some 10, none, false⟩, ⟨.bin 11 .lss (.t 8) (.t 10), some 11, none, false⟩]
def r_laws_toValueS_4 : List GI := [⟨.mov 14 (.t 3), some 14, none, false⟩, ⟨.mov 15 (.t 4), some 15, none, false⟩, ⟨.mov 16 (.t 0), some 16, none, false⟩, ⟨.mov 17 (.t 4), some 17, none, false⟩, ⟨.iad 18 16 (.t 17) 2, some 18, none, false⟩, ⟨.lod 19 18 (some 2), some 19, none, false⟩, ⟨.call 20 125 [.t 19], some 20, none, true⟩, ⟨.iad 21 14 (.t 15) 2, some 21, none, false⟩, ⟨.sto 21 (.t 20) (some 2), none, none, false⟩]
def r_laws_toValueS_5 : List GI := [⟨.mov 12 (.t 4), some 12, none, false⟩, ⟨.bin 13 .add (.t 12) (.k (.v (.int .i64 1))), some 13, none, false⟩, ⟨.mov 4 (.t 13), some 4, none, false⟩]
def r_laws_toValueS_6 : List GI := [⟨.mov 22 (.t 3), some 22, none, false⟩, ⟨.mov 2 (.t 22), some 2, none, false⟩]
def dc_laws_toValueS : DC := .seq (.reg r_laws_toValueS_0 none) (.seq (.reg r_laws_toValueS_1 none) (.seq (.seq (.reg r_laws_toValueS_2 none) (.block 0 (.loop (.seq (.seq (.reg r_laws_toValueS_3 none) (.cond (.t 11) .skip (.exit 0))) (.seq (.block 1 (.reg r_laws_toValueS_4 none)) (.reg r_laws_toValueS_5 none)))))) (.seq (.reg r_laws_toValueS_6 none) .ret)))
theorem c_laws_toValueS : cfun Try.prog [] 93 = some (23, dc_laws_toValueS, [(Res.tmp 2)]) := by kernel_rfl
def r_laws_toValueSS_0 : List GI := [⟨.mov 2 (.k .nul), some 2, none, false⟩]
def r_laws_toValueSS_1 : List GI := [⟨.mov 5 (.t 0), some 5, none, false⟩, ⟨.len 6 (.t 5), some 6, none, false⟩, ⟨.mks 7 2000007 (.t 6) 1 24 .nul, some 7, none, false⟩, ⟨.mov 3 (.t 7), some 3, none, false⟩]
def r_laws_toValueSS_2 : List GI := [⟨.mov 4 (.k (.v (.int .i64 0))), some 4, none, false⟩]
def r_laws_toValueSS_3 : List GI := [⟨.mov 8 (.t 4), some 8, none, false⟩, ⟨.mov 9 (.t 0), some 9, none, false⟩, ⟨.len 10 (.t 9), some 10, none, false⟩, ⟨.bin 11 .lss (.t 8) (.t 10), some 11, none, false⟩]
def r_laws_toValueSS_4 : List GI := [⟨.mov 14 (.t 3), some 14, none, false⟩, ⟨.mov 15 (.t 4), some 15, none, false⟩, ⟨.mov 16 (.t 0), some 16, none, false⟩, ⟨.mov 17 (.t 4), some 17, none, false⟩, ⟨.iad 18 16 (.t 17) 1, some 18, none, false⟩, ⟨.lod 19 18 none, some 19, none, false⟩, ⟨.call 20 93 [.t 19], some 20, none, true⟩, ⟨.iad 21 14 (.t 15) 1, some 21, none, false⟩, ⟨.sto 21 (.t 20) none, none, none, false⟩]
def r_laws_toValueSS_5 : List GI := [⟨.mov 12 (.t 4), some 12, none, false⟩, ⟨.bin 13 .add (.t 12) (.k (.v (.int .i64 1))), some 13, none, false⟩, ⟨.mov 4 (.t 13), some 4, none, false⟩]
def r_laws_toValueSS_6 : List GI := [⟨.mov 22 (.t 3), some 22, none, false⟩, ⟨.mov 2 (.t 22), some 2, none, false⟩]
def dc_laws_toValueSS : DC := .seq (.reg r_laws_toValueSS_0 none) (.seq (.reg r_laws_toValueSS_1 none) (.seq (.seq (.reg r_laws_toValueSS_2 none) (.block 0 (.loop (.seq (.seq (.reg r_laws_toValueSS_3 none) (.cond (.t 11) .skip (.exit 0))) (.seq (.block 1 (.reg r_laws_toValueSS_4 none)) (.reg r_laws_toValueSS_5 none)))))) (.seq (.reg r_laws_toValueSS_6 none) .ret)))
theorem c_laws_toValueSS : cfun Try.prog [] 51 = some (23, dc_laws_toValueSS, [(Res.tmp 2)]) := by kernel_rfl
def r_laws_eqIntS_0 : List GI := [⟨.mov 4 (.k (.v (.bool false))), some 4, none, false⟩]
def r_laws_eqIntS_1 : List GI := [⟨.mov 6 (.t 0), some 6, none, false⟩, ⟨.len 7 (.t 6), some 7, none, false⟩, ⟨.mov 8 (.t 1), some 8, none, false⟩, ⟨.len 9 (.t 8), some 9, none, false⟩, ⟨.bin 10 .neq (.t 7) (.t 9), some 10, none, false⟩]
def r_laws_eqIntS_2 : List GI := [⟨.mov 4 (.k (.v (.bool false))), some 4, none, false⟩]
def r_laws_eqIntS_3 : List GI := [⟨.mov 5 (.k (.v (.int .i64 0))), some 5, none, false⟩]
def r_laws_eqIntS_4 : List GI := [⟨.mov 11 (.t 5), some 11, none, false⟩, ⟨.mov 12 (.t 0), some 12, none, false⟩, ⟨.len 13 (.t 12), some 13, none, false⟩, ⟨.bin 14 .lss (.t 11) (.t 13), some 14, none, false⟩]
def r_laws_eqIntS_5 : List GI := [⟨.mov 17 (.t 0), some 17, none, false⟩, ⟨.mov 18 (.t 5), some 18, none, false⟩, ⟨.iad 19 17 (.t 18) 1, some 19, none, false⟩, ⟨.lod 20 19 none, some 20, none, false⟩, ⟨.mov 21 (.t 1), some 21, none, false⟩, ⟨.mov 22 (.t 5), some 22, none, false⟩, ⟨.iad 23 21 (.t 22) 1, some 23, none, false⟩, ⟨.lod 24 23 none, some 24, none, false⟩, ⟨.bin 25 .neq (.t 20) (.t 24), some 25, none, false⟩]
def r_laws_eqIntS_6 : List GI := [⟨.mov 4 (.k (.v (.bool false))), some 4, none, false⟩]
def r_laws_eqIntS_7 : List GI := [⟨.mov 15 (.t 5), some 15, none, false⟩, ⟨.bin 16 .add (.t 15) (.k (.v (.int .i64 1))), some 16, none, false⟩, ⟨.mov 5 (.t 16), some 5, none, false⟩]
def r_laws_eqIntS_8 : List GI := [⟨.mov 4 (.k (.v (.bool true))), some 4, none, false⟩]
def dc_laws_eqIntS : DC := .seq (.reg r_laws_eqIntS_0 none) (.seq (.seq (.reg r_laws_eqIntS_1 none) (.cond (.t 10) (.seq (.reg r_laws_eqIntS_2 none) .ret) .skip)) (.seq (.seq (.reg r_laws_eqIntS_3 none) (.block 0 (.loop (.seq (.seq (.reg r_laws_eqIntS_4 none) (.cond (.t 14) .skip (.exit 0))) (.seq (.block 1 (.seq (.reg r_laws_eqIntS_5 (some [0, 0, 3, 7, 0, 0, 48, 112, 255])) (.cond (.t 25) (.seq (.reg r_laws_eqIntS_6 none) .ret) .skip))) (.reg r_laws_eqIntS_7 none)))))) (.seq (.reg r_laws_eqIntS_8 none) .ret)))
theorem c_laws_eqIntS : cfun Try.prog [] 19 = some (26, dc_laws_eqIntS, [(Res.tmp 4)]) := by kernel_rfl
def r_laws_heldIntS_0 : List GI := [⟨.mov 4 (.k (.v (.int .i64 0))), some 4, none, false⟩]
def r_laws_heldIntS_1 : List GI := [⟨.mov 5 (.k (.v (.int .i64 0))), some 5, none, false⟩]
def r_laws_heldIntS_2 : List GI := [⟨.mov 6 (.t 5), some 6, none, false⟩, ⟨.mov 7 (.t 0), some 7, none, false⟩, ⟨.len 8 (.t 7), some 8, none, false⟩, ⟨.bin 9 .lss (.t 6) (.t 8), some 9, none, false⟩]
def r_laws_heldIntS_3 : List GI := [⟨.mov 12 (.t 0), some 12, none, false⟩, ⟨.mov 13 (.t 5), some 13, none, false⟩, ⟨.iad 14 12 (.t 13) 1, some 14, none, false⟩, ⟨.lod 15 14 none, some 15, none, false⟩, ⟨.mov 16 (.t 1), some 16, none, false⟩, ⟨.bin 17 .neq (.t 15) (.t 16), some 17, none, false⟩]
def r_laws_heldIntS_4 : List GI := [⟨.mov 4 (.k (.v (.int .i64 (-1)))), some 4, none, false⟩]
def r_laws_heldIntS_5 : List GI := [⟨.mov 18 (.t 1), some 18, none, false⟩, ⟨.bin 19 .add (.t 18) (.k (.v (.int .i64 1))), some 19, none, false⟩, ⟨.mov 1 (.t 19), some 1, none, false⟩]
def r_laws_heldIntS_6 : List GI := [⟨.mov 10 (.t 5), some 10, none, false⟩, ⟨.bin 11 .add (.t 10) (.k (.v (.int .i64 1))), some 11, none, false⟩, ⟨.mov 5 (.t 11), some 5, none, false⟩]
def r_laws_heldIntS_7 : List GI := [⟨.mov 20 (.t 1), some 20, none, false⟩, ⟨.mov 4 (.t 20), some 4, none, false⟩]
def dc_laws_heldIntS : DC := .seq (.reg r_laws_heldIntS_0 none) (.seq (.seq (.reg r_laws_heldIntS_1 none) (.block 0 (.loop (.seq (.seq (.reg r_laws_heldIntS_2 none) (.cond (.t 9) .skip (.exit 0))) (.seq (.block 1 (.seq (.seq (.reg r_laws_heldIntS_3 none) (.cond (.t 17) (.seq (.reg r_laws_heldIntS_4 none) .ret) .skip)) (.reg r_laws_heldIntS_5 none))) (.reg r_laws_heldIntS_6 none)))))) (.seq (.reg r_laws_heldIntS_7 none) .ret))
theorem c_laws_heldIntS : cfun Try.prog [] 23 = some (21, dc_laws_heldIntS, [(Res.tmp 4)]) := by kernel_rfl
def r_laws_markIntS_0 : List GI := [⟨.mov 4 (.k (.v (.int .i64 0))), some 4, none, false⟩]
def r_laws_markIntS_1 : List GI := [⟨.mov 5 (.k (.v (.int .i64 0))), some 5, none, false⟩]
def r_laws_markIntS_2 : List GI := [⟨.mov 6 (.t 5), some 6, none, false⟩, ⟨.mov 7 (.t 0), some 7, none, false⟩, ⟨.len 8 (.t 7), some 8, none, false⟩, ⟨.bin 9 .lss (.t 6) (.t 8), some 9, none, false⟩]
def r_laws_markIntS_3 : List GI := [⟨.mov 12 (.t 0), some 12, none, false⟩, ⟨.mov 13 (.t 5), some 13, none, false⟩, ⟨.mov 14 (.t 1), some 14, none, false⟩, ⟨.iad 15 12 (.t 13) 1, some 15, none, false⟩, ⟨.sto 15 (.t 14) none, none, none, false⟩]
def r_laws_markIntS_4 : List GI := [⟨.mov 16 (.t 1), some 16, none, false⟩, ⟨.bin 17 .add (.t 16) (.k (.v (.int .i64 1))), some 17, none, false⟩, ⟨.mov 1 (.t 17), some 1, none, false⟩]
def r_laws_markIntS_5 : List GI := [⟨.mov 10 (.t 5), some 10, none, false⟩, ⟨.bin 11 .add (.t 10) (.k (.v (.int .i64 1))), some 11, none, false⟩, ⟨.mov 5 (.t 11), some 5, none, false⟩]
def r_laws_markIntS_6 : List GI := [⟨.mov 18 (.t 1), some 18, none, false⟩, ⟨.mov 4 (.t 18), some 4, none, false⟩]
def dc_laws_markIntS : DC := .seq (.reg r_laws_markIntS_0 none) (.seq (.seq (.reg r_laws_markIntS_1 none) (.block 0 (.loop (.seq (.seq (.reg r_laws_markIntS_2 none) (.cond (.t 9) .skip (.exit 0))) (.seq (.block 1 (.seq (.reg r_laws_markIntS_3 none) (.reg r_laws_markIntS_4 none))) (.reg r_laws_markIntS_5 none)))))) (.seq (.reg r_laws_markIntS_6 none) .ret))
theorem c_laws_markIntS : cfun Try.prog [] 22 = some (19, dc_laws_markIntS, [(Res.tmp 4)]) := by kernel_rfl
def r_laws_heldTable_0 : List GI := [⟨.box 2 2000002 (.t 0) (some 2), some 2, none, false⟩, ⟨.mov 4 (.k (.v (.int .i64 0))), some 4, none, false⟩]
def r_laws_heldTable_1 : List GI := [⟨.fad 5 2 1, some 5, none, false⟩, ⟨.lod 6 5 none, some 6, none, false⟩, ⟨.mov 7 (.t 1), some 7, none, false⟩, ⟨.call 8 36 [.t 6, .t 7], some 8, none, true⟩, ⟨.mov 1 (.t 8), some 1, none, false⟩]
def r_laws_heldTable_2 : List GI := [⟨.mov 9 (.t 1), some 9, none, false⟩, ⟨.bin 10 .lss (.t 9) (.k (.v (.int .i64 0))), some 10, none, false⟩]
def r_laws_heldTable_3 : List GI := [⟨.mov 4 (.k (.v (.int .i64 (-1)))), some 4, none, false⟩]
def r_laws_heldTable_4 : List GI := [⟨.mov 11 (.t 1), some 11, none, false⟩, ⟨.mov 4 (.t 11), some 4, none, false⟩]
def dc_laws_heldTable : DC := .seq (.reg r_laws_heldTable_0 none) (.seq (.reg r_laws_heldTable_1 none) (.seq (.seq (.reg r_laws_heldTable_2 none) (.cond (.t 10) (.seq (.reg r_laws_heldTable_3 none) .ret) .skip)) (.seq (.reg r_laws_heldTable_4 none) .ret)))
theorem c_laws_heldTable : cfun Try.prog [] 27 = some (12, dc_laws_heldTable, [(Res.tmp 4)]) := by kernel_rfl
def r_laws_heldValueS_0 : List GI := [⟨.mov 4 (.k (.v (.int .i64 0))), some 4, none, false⟩]
def r_laws_heldValueS_1 : List GI := [⟨.mov 5 (.k (.v (.int .i64 0))), some 5, none, false⟩]
def r_laws_heldValueS_2 : List GI := [⟨.mov 6 (.t 5), some 6, none, false⟩, ⟨.mov 7 (.t 0), some 7, none, false⟩, ⟨.len 8 (.t 7), some 8, none, false⟩, ⟨.bin 9 .lss (.t 6) (.t 8), some 9, none, false⟩]
def r_laws_heldValueS_3 : List GI := [⟨.mov 12 (.t 0), some 12, none, false⟩, ⟨.mov 13 (.t 5), some 13, none, false⟩, ⟨.iad 14 12 (.t 13) 2, some 14, none, false⟩, ⟨.fad 15 14 0, some 15, none, false⟩, ⟨.lod 16 15 none, some 16, none, false⟩, ⟨.mov 17 (.t 1), some 17, none, false⟩, ⟨.bin 18 .rem (.t 17) (.k (.v (.int .i64 3))), some 18, none, false⟩, ⟨.bin 19 .eql (.t 18) (.k (.v (.int .i64 0))), some 19, none, false⟩, ⟨.beq 20 true (.t 16) (.t 19), some 20, none, false⟩]
def r_laws_heldValueS_4 : List GI := [⟨.mov 4 (.k (.v (.int .i64 (-1)))), some 4, none, false⟩]
def r_laws_heldValueS_5 : List GI := [⟨.mov 21 (.t 1), some 21, none, false⟩, ⟨.bin 22 .add (.t 21) (.k (.v (.int .i64 1))), some 22, none, false⟩, ⟨.mov 1 (.t 22), some 1, none, false⟩]
def r_laws_heldValueS_6 : List GI := [⟨.mov 23 (.t 0), some 23, none, false⟩, ⟨.mov 24 (.t 5), some 24, none, false⟩, ⟨.iad 25 23 (.t 24) 2, some 25, none, false⟩, ⟨.fad 26 25 1, some 26, none, false⟩, ⟨.lod 27 26 none, some 27, none, false⟩, ⟨.mov 28 (.t 1), some 28, none, false⟩, ⟨.bin 29 .neq (.t 27) (.t 28), some 29, none, false⟩]
def r_laws_heldValueS_7 : List GI := [⟨.mov 4 (.k (.v (.int .i64 (-1)))), some 4, none, false⟩]
def r_laws_heldValueS_8 : List GI := [⟨.mov 30 (.t 1), some 30, none, false⟩, ⟨.bin 31 .add (.t 30) (.k (.v (.int .i64 1))), some 31, none, false⟩, ⟨.mov 1 (.t 31), some 1, none, false⟩]
def r_laws_heldValueS_9 : List GI := [⟨.mov 10 (.t 5), some 10, none, false⟩, ⟨.bin 11 .add (.t 10) (.k (.v (.int .i64 1))), some 11, none, false⟩, ⟨.mov 5 (.t 11), some 5, none, false⟩]
def r_laws_heldValueS_10 : List GI := [⟨.mov 32 (.t 1), some 32, none, false⟩, ⟨.mov 4 (.t 32), some 4, none, false⟩]
def dc_laws_heldValueS : DC := .seq (.reg r_laws_heldValueS_0 none) (.seq (.seq (.reg r_laws_heldValueS_1 none) (.block 0 (.loop (.seq (.seq (.reg r_laws_heldValueS_2 none) (.cond (.t 9) .skip (.exit 0))) (.seq (.block 1 (.seq (.seq (.reg r_laws_heldValueS_3 none) (.cond (.t 20) (.seq (.reg r_laws_heldValueS_4 none) .ret) .skip)) (.seq (.reg r_laws_heldValueS_5 none) (.seq (.seq (.reg r_laws_heldValueS_6 none) (.cond (.t 29) (.seq (.reg r_laws_heldValueS_7 none) .ret) .skip)) (.reg r_laws_heldValueS_8 none))))) (.reg r_laws_heldValueS_9 none)))))) (.seq (.reg r_laws_heldValueS_10 none) .ret))
theorem c_laws_heldValueS : cfun Try.prog [] 74 = some (33, dc_laws_heldValueS, [(Res.tmp 4)]) := by kernel_rfl
def r_laws_heldValueSS_0 : List GI := [⟨.mov 4 (.k (.v (.int .i64 0))), some 4, none, false⟩]
def r_laws_heldValueSS_1 : List GI := [⟨.mov 5 (.k (.v (.int .i64 0))), some 5, none, false⟩]
def r_laws_heldValueSS_2 : List GI := [⟨.mov 6 (.t 5), some 6, none, false⟩, ⟨.mov 7 (.t 0), some 7, none, false⟩, ⟨.len 8 (.t 7), some 8, none, false⟩, ⟨.bin 9 .lss (.t 6) (.t 8), some 9, none, false⟩]
def r_laws_heldValueSS_3 : List GI := [⟨.mov 12 (.t 0), some 12, none, false⟩, ⟨.mov 13 (.t 5), some 13, none, false⟩, ⟨.iad 14 12 (.t 13) 1, some 14, none, false⟩, ⟨.lod 15 14 none, some 15, none, false⟩, ⟨.mov 16 (.t 1), some 16, none, false⟩, ⟨.call 17 74 [.t 15, .t 16], some 17, none, true⟩, ⟨.mov 1 (.t 17), some 1, none, false⟩]
def r_laws_heldValueSS_4 : List GI := [⟨.mov 18 (.t 1), some 18, none, false⟩, ⟨.bin 19 .lss (.t 18) (.k (.v (.int .i64 0))), some 19, none, false⟩]
def r_laws_heldValueSS_5 : List GI := [⟨.mov 4 (.k (.v (.int .i64 (-1)))), some 4, none, false⟩]
def r_laws_heldValueSS_6 : List GI := [⟨.mov 10 (.t 5), some 10, none, false⟩, ⟨.bin 11 .add (.t 10) (.k (.v (.int .i64 1))), some 11, none, false⟩, ⟨.mov 5 (.t 11), some 5, none, false⟩]
def r_laws_heldValueSS_7 : List GI := [⟨.mov 20 (.t 1), some 20, none, false⟩, ⟨.mov 4 (.t 20), some 4, none, false⟩]
def dc_laws_heldValueSS : DC := .seq (.reg r_laws_heldValueSS_0 none) (.seq (.seq (.reg r_laws_heldValueSS_1 none) (.block 0 (.loop (.seq (.seq (.reg r_laws_heldValueSS_2 none) (.cond (.t 9) .skip (.exit 0))) (.seq (.block 1 (.seq (.reg r_laws_heldValueSS_3 none) (.seq (.reg r_laws_heldValueSS_4 none) (.cond (.t 19) (.seq (.reg r_laws_heldValueSS_5 none) .ret) .skip)))) (.reg r_laws_heldValueSS_6 none)))))) (.seq (.reg r_laws_heldValueSS_7 none) .ret))
theorem c_laws_heldValueSS : cfun Try.prog [] 36 = some (21, dc_laws_heldValueSS, [(Res.tmp 4)]) := by kernel_rfl
def r_laws_markTable_0 : List GI := [⟨.box 2 2000002 (.t 0) (some 2), some 2, none, false⟩, ⟨.mov 4 (.k (.v (.int .i64 0))), some 4, none, false⟩]
def r_laws_markTable_1 : List GI := [⟨.fad 5 2 1, some 5, none, false⟩, ⟨.lod 6 5 none, some 6, none, false⟩, ⟨.mov 7 (.t 1), some 7, none, false⟩, ⟨.call 8 35 [.t 6, .t 7], some 8, none, true⟩, ⟨.mov 1 (.t 8), some 1, none, false⟩]
def r_laws_markTable_2 : List GI := [⟨.mov 9 (.t 1), some 9, none, false⟩, ⟨.mov 4 (.t 9), some 4, none, false⟩]
def dc_laws_markTable : DC := .seq (.reg r_laws_markTable_0 none) (.seq (.reg r_laws_markTable_1 none) (.seq (.reg r_laws_markTable_2 none) .ret))
theorem c_laws_markTable : cfun Try.prog [] 21 = some (10, dc_laws_markTable, [(Res.tmp 4)]) := by kernel_rfl
def r_laws_markValueS_0 : List GI := [⟨.mov 4 (.k (.v (.int .i64 0))), some 4, none, false⟩]
def r_laws_markValueS_1 : List GI := [⟨.mov 5 (.k (.v (.int .i64 0))), some 5, none, false⟩]
def r_laws_markValueS_2 : List GI := [⟨.mov 6 (.t 5), some 6, none, false⟩, ⟨.mov 7 (.t 0), some 7, none, false⟩, ⟨.len 8 (.t 7), some 8, none, false⟩, ⟨.bin 9 .lss (.t 6) (.t 8), some 9, none, false⟩]
def r_laws_markValueS_3 : List GI := [⟨.mov 12 (.t 0), some 12, none, false⟩, ⟨.mov 13 (.t 5), some 13, none, false⟩, ⟨.mov 14 (.t 1), some 14, none, false⟩, ⟨.bin 15 .rem (.t 14) (.k (.v (.int .i64 3))), some 15, none, false⟩, ⟨.bin 16 .eql (.t 15) (.k (.v (.int .i64 0))), some 16, none, false⟩, ⟨.iad 17 12 (.t 13) 2, some 17, none, false⟩, ⟨.fad 18 17 0, some 18, none, false⟩, ⟨.sto 18 (.t 16) none, none, none, false⟩]
def r_laws_markValueS_4 : List GI := [⟨.mov 19 (.t 1), some 19, none, false⟩, ⟨.bin 20 .add (.t 19) (.k (.v (.int .i64 1))), some 20, none, false⟩, ⟨.mov 1 (.t 20), some 1, none, false⟩]
def r_laws_markValueS_5 : List GI := [⟨.mov 21 (.t 0), some 21, none, false⟩, ⟨.mov 22 (.t 5), some 22, none, false⟩, ⟨.mov 23 (.t 1), some 23, none, false⟩, ⟨.iad 24 21 (.t 22) 2, some 24, none, false⟩, ⟨.fad 25 24 1, some 25, none, false⟩, ⟨.sto 25 (.t 23) none, none, none, false⟩]
def r_laws_markValueS_6 : List GI := [⟨.mov 26 (.t 1), some 26, none, false⟩, ⟨.bin 27 .add (.t 26) (.k (.v (.int .i64 1))), some 27, none, false⟩, ⟨.mov 1 (.t 27), some 1, none, false⟩]
def r_laws_markValueS_7 : List GI := [⟨.mov 10 (.t 5), some 10, none, false⟩, ⟨.bin 11 .add (.t 10) (.k (.v (.int .i64 1))), some 11, none, false⟩, ⟨.mov 5 (.t 11), some 5, none, false⟩]
def r_laws_markValueS_8 : List GI := [⟨.mov 28 (.t 1), some 28, none, false⟩, ⟨.mov 4 (.t 28), some 4, none, false⟩]
def dc_laws_markValueS : DC := .seq (.reg r_laws_markValueS_0 none) (.seq (.seq (.reg r_laws_markValueS_1 none) (.block 0 (.loop (.seq (.seq (.reg r_laws_markValueS_2 none) (.cond (.t 9) .skip (.exit 0))) (.seq (.block 1 (.seq (.reg r_laws_markValueS_3 none) (.seq (.reg r_laws_markValueS_4 none) (.seq (.reg r_laws_markValueS_5 none) (.reg r_laws_markValueS_6 none))))) (.reg r_laws_markValueS_7 none)))))) (.seq (.reg r_laws_markValueS_8 none) .ret))
theorem c_laws_markValueS : cfun Try.prog [] 73 = some (29, dc_laws_markValueS, [(Res.tmp 4)]) := by kernel_rfl
def r_laws_markValueSS_0 : List GI := [⟨.mov 4 (.k (.v (.int .i64 0))), some 4, none, false⟩]
def r_laws_markValueSS_1 : List GI := [⟨.mov 5 (.k (.v (.int .i64 0))), some 5, none, false⟩]
def r_laws_markValueSS_2 : List GI := [⟨.mov 6 (.t 5), some 6, none, false⟩, ⟨.mov 7 (.t 0), some 7, none, false⟩, ⟨.len 8 (.t 7), some 8, none, false⟩, ⟨.bin 9 .lss (.t 6) (.t 8), some 9, none, false⟩]
def r_laws_markValueSS_3 : List GI := [⟨.mov 12 (.t 0), some 12, none, false⟩, ⟨.mov 13 (.t 5), some 13, none, false⟩, ⟨.iad 14 12 (.t 13) 1, some 14, none, false⟩, ⟨.lod 15 14 none, some 15, none, false⟩, ⟨.mov 16 (.t 1), some 16, none, false⟩, ⟨.call 17 73 [.t 15, .t 16], some 17, none, true⟩, ⟨.mov 1 (.t 17), some 1, none, false⟩]
def r_laws_markValueSS_4 : List GI := [⟨.mov 10 (.t 5), some 10, none, false⟩, ⟨.bin 11 .add (.t 10) (.k (.v (.int .i64 1))), some 11, none, false⟩, ⟨.mov 5 (.t 11), some 5, none, false⟩]
def r_laws_markValueSS_5 : List GI := [⟨.mov 18 (.t 1), some 18, none, false⟩, ⟨.mov 4 (.t 18), some 4, none, false⟩]
def dc_laws_markValueSS : DC := .seq (.reg r_laws_markValueSS_0 none) (.seq (.seq (.reg r_laws_markValueSS_1 none) (.block 0 (.loop (.seq (.seq (.reg r_laws_markValueSS_2 none) (.cond (.t 9) .skip (.exit 0))) (.seq (.block 1 (.reg r_laws_markValueSS_3 none)) (.reg r_laws_markValueSS_4 none)))))) (.seq (.reg r_laws_markValueSS_5 none) .ret))
theorem c_laws_markValueSS : cfun Try.prog [] 35 = some (19, dc_laws_markValueSS, [(Res.tmp 4)]) := by kernel_rfl
end
end Go.Proofs.Ytedmegmhjmabcaa
