/-
  Functions of the program read as code on plain data. Closed facts of the program alone.
-/
import Derived.Test.YtclkehekhdfnnaaRows
import Derived.Test.YtclkehekhdfnnaaVLib
import Derived.KernelRfl
namespace Go.Proofs.Ytclkehekhdfnnaa
open Go.RowKit
noncomputable section
theorem mixed : Try.prog.follows .mixedOrders = true := by kernel_rfl
def r_laws_eqValue_0 : List GI := [⟨.box 2 2000002 (.t 0) (some 2), some 2, none, false⟩, ⟨.box 3 2000003 (.t 1) (some 2), some 3, none, false⟩, ⟨.mov 4 (.k (.v (.bool false))), some 4, none, false⟩]
def r_laws_eqValue_1 : List GI := [⟨.fad 5 2 0, some 5, none, false⟩, ⟨.lod 6 5 none, some 6, none, false⟩, ⟨.fad 7 3 0, some 7, none, false⟩, ⟨.lod 8 7 none, some 8, none, false⟩, ⟨.beq 9 true (.t 6) (.t 8), some 9, none, false⟩]
def r_laws_eqValue_2 : List GI := [⟨.mov 4 (.k (.v (.bool false))), some 4, none, false⟩]
def r_laws_eqValue_3 : List GI := [⟨.fad 10 2 1, some 10, none, false⟩, ⟨.lod 11 10 none, some 11, none, false⟩, ⟨.fad 12 3 1, some 12, none, false⟩, ⟨.lod 13 12 none, some 13, none, false⟩, ⟨.bin 14 .neq (.t 11) (.t 13), some 14, none, false⟩]
def r_laws_eqValue_4 : List GI := [⟨.mov 4 (.k (.v (.bool false))), some 4, none, false⟩]
def r_laws_eqValue_5 : List GI := [⟨.mov 4 (.k (.v (.bool true))), some 4, none, false⟩]
def dc_laws_eqValue : DC := .seq (.reg r_laws_eqValue_0 none) (.seq (.seq (.reg r_laws_eqValue_1 none) (.cond (.t 9) (.seq (.reg r_laws_eqValue_2 none) .ret) .skip)) (.seq (.seq (.reg r_laws_eqValue_3 none) (.cond (.t 14) (.seq (.reg r_laws_eqValue_4 none) .ret) .skip)) (.seq (.reg r_laws_eqValue_5 none) .ret)))
theorem c_laws_eqValue : cfun Try.prog [] 36 = some (15, dc_laws_eqValue, [(Res.tmp 4)]) := by kernel_rfl
def r_laws_toValue_0 : List GI := [⟨.box 1 2000001 (.t 0) (some 2), some 1, none, false⟩, ⟨.alloc 2 2000002 [.v (.bool false), .v (.int .i64 0)], some 2, none, false⟩]
def r_laws_toValue_1 : List GI := [⟨.alloc 3 2000003 [.v (.bool false), .v (.int .i64 0)], some 3, none, false⟩]
def r_laws_toValue_2 : List GI := [⟨.fad 4 1 0, some 4, none, false⟩, ⟨.lod 5 4 none, some 5, none, false⟩, ⟨.fad 6 3 0, some 6, none, false⟩, ⟨.sto 6 (.t 5) none, none, none, false⟩]
def r_laws_toValue_3 : List GI := [⟨.fad 7 1 1, some 7, none, false⟩, ⟨.lod 8 7 none, some 8, none, false⟩, ⟨.fad 9 3 1, some 9, none, false⟩, ⟨.sto 9 (.t 8) none, none, none, false⟩]
def r_laws_toValue_4 : List GI := [⟨.lod 10 3 (some 2), some 10, none, false⟩, ⟨.sto 2 (.t 10) (some 2), none, none, false⟩]
def dc_laws_toValue : DC := .seq (.reg r_laws_toValue_0 none) (.seq (.reg r_laws_toValue_1 none) (.seq (.reg r_laws_toValue_2 none) (.seq (.reg r_laws_toValue_3 none) (.seq (.reg r_laws_toValue_4 none) .ret))))
theorem c_laws_toValue : cfun Try.prog [] 33 = some (11, dc_laws_toValue, [(Res.cell 2 (some 2))]) := by kernel_rfl
def r_spec_kidsOf_0 : List GI := [⟨.mov 2 (.k (.v (.int .i64 0))), some 2, none, false⟩]
def r_spec_kidsOf_1 : List GI := [⟨.mov 3 (.t 0), some 3, none, false⟩]
def r_spec_kidsOf_2 : List GI := [⟨.bin 5 .eql (.t 3) (.k (.v (.int .i64 1))), some 5, none, false⟩, ⟨.mov 4 (.t 5), some 4, none, false⟩]
def r_spec_kidsOf_3 : List GI := [⟨.bin 6 .eql (.t 3) (.k (.v (.int .i64 2))), some 6, none, false⟩, ⟨.mov 4 (.t 6), some 4, none, false⟩]
def r_spec_kidsOf_4 : List GI := [⟨.mov 2 (.k (.v (.int .i64 0))), some 2, none, false⟩]
def r_spec_kidsOf_5 : List GI := [⟨.bin 8 .eql (.t 3) (.k (.v (.int .i64 10))), some 8, none, false⟩, ⟨.mov 7 (.t 8), some 7, none, false⟩]
def r_spec_kidsOf_6 : List GI := [⟨.bin 9 .eql (.t 3) (.k (.v (.int .i64 11))), some 9, none, false⟩, ⟨.mov 7 (.t 9), some 7, none, false⟩]
def r_spec_kidsOf_7 : List GI := [⟨.mov 2 (.k (.v (.int .i64 1))), some 2, none, false⟩]
def r_spec_kidsOf_8 : List GI := [⟨.bin 11 .eql (.t 3) (.k (.v (.int .i64 3))), some 11, none, false⟩, ⟨.mov 10 (.t 11), some 10, none, false⟩]
def r_spec_kidsOf_9 : List GI := [⟨.bin 12 .eql (.t 3) (.k (.v (.int .i64 4))), some 12, none, false⟩, ⟨.mov 10 (.t 12), some 10, none, false⟩]
def r_spec_kidsOf_10 : List GI := [⟨.bin 13 .eql (.t 3) (.k (.v (.int .i64 5))), some 13, none, false⟩, ⟨.mov 10 (.t 13), some 10, none, false⟩]
def r_spec_kidsOf_11 : List GI := [⟨.bin 14 .eql (.t 3) (.k (.v (.int .i64 6))), some 14, none, false⟩, ⟨.mov 10 (.t 14), some 10, none, false⟩]
def r_spec_kidsOf_12 : List GI := [⟨.bin 15 .eql (.t 3) (.k (.v (.int .i64 7))), some 15, none, false⟩, ⟨.mov 10 (.t 15), some 10, none, false⟩]
def r_spec_kidsOf_13 : List GI := [⟨.bin 16 .eql (.t 3) (.k (.v (.int .i64 8))), some 16, none, false⟩, ⟨.mov 10 (.t 16), some 10, none, false⟩]
def r_spec_kidsOf_14 : List GI := [⟨.bin 17 .eql (.t 3) (.k (.v (.int .i64 9))), some 17, none, false⟩, ⟨.mov 10 (.t 17), some 10, none, false⟩]
def r_spec_kidsOf_15 : List GI := [⟨.mov 2 (.k (.v (.int .i64 2))), some 2, none, false⟩]
def r_spec_kidsOf_16 : List GI := [⟨.mov 2 (.k (.v (.int .i64 (-1)))), some 2, none, false⟩]
def dc_spec_kidsOf : DC := .seq (.reg r_spec_kidsOf_0 none) (.seq (.seq (.reg r_spec_kidsOf_1 none) (.block 0 (.seq (.seq (.reg r_spec_kidsOf_2 none) (.cond (.t 4) .skip (.reg r_spec_kidsOf_3 none))) (.cond (.t 4) (.seq (.reg r_spec_kidsOf_4 none) .ret) (.seq (.seq (.reg r_spec_kidsOf_5 none) (.cond (.t 7) .skip (.reg r_spec_kidsOf_6 none))) (.cond (.t 7) (.seq (.reg r_spec_kidsOf_7 none) .ret) (.seq (.seq (.reg r_spec_kidsOf_8 none) (.cond (.t 10) .skip (.seq (.reg r_spec_kidsOf_9 none) (.cond (.t 10) .skip (.seq (.reg r_spec_kidsOf_10 none) (.cond (.t 10) .skip (.seq (.reg r_spec_kidsOf_11 none) (.cond (.t 10) .skip (.seq (.reg r_spec_kidsOf_12 none) (.cond (.t 10) .skip (.seq (.reg r_spec_kidsOf_13 none) (.cond (.t 10) .skip (.reg r_spec_kidsOf_14 none))))))))))))) (.cond (.t 10) (.seq (.reg r_spec_kidsOf_15 none) .ret) .skip)))))))) (.seq (.reg r_spec_kidsOf_16 none) .ret))
theorem c_spec_kidsOf : cfun Try.prog [] 57 = some (18, dc_spec_kidsOf, [(Res.tmp 2)]) := by kernel_rfl
def r_spec_toInt_0 : List GI := [⟨.mov 2 (.k (.v (.int .i64 0))), some 2, none, false⟩]
def r_spec_toInt_1 : List GI := [⟨.mov 3 (.t 0), some 3, none, false⟩]
def r_spec_toInt_2 : List GI := [⟨.mov 2 (.k (.v (.int .i64 1))), some 2, none, false⟩]
def r_spec_toInt_3 : List GI := [⟨.mov 2 (.k (.v (.int .i64 0))), some 2, none, false⟩]
def dc_spec_toInt : DC := .seq (.reg r_spec_toInt_0 none) (.seq (.seq (.reg r_spec_toInt_1 none) (.cond (.t 3) (.seq (.reg r_spec_toInt_2 none) .ret) .skip)) (.seq (.reg r_spec_toInt_3 none) .ret))
theorem c_spec_toInt : cfun Try.prog [] 65 = some (4, dc_spec_toInt, [(Res.tmp 2)]) := by kernel_rfl
def r_laws_eqExpr_0 : List GI := [⟨.box 2 2000002 (.t 0) (some 5), some 2, none, false⟩, ⟨.box 3 2000003 (.t 1) (some 5), some 3, none, false⟩, ⟨.mov 4 (.k (.v (.bool false))), some 4, none, false⟩]
def r_laws_eqExpr_1 : List GI := [⟨.fad 5 2 0, some 5, none, false⟩, ⟨.lod 6 5 none, some 6, none, false⟩, ⟨.fad 7 3 0, some 7, none, false⟩, ⟨.lod 8 7 none, some 8, none, false⟩, ⟨.bin 9 .neq (.t 6) (.t 8), some 9, none, false⟩]
def r_laws_eqExpr_2 : List GI := [⟨.mov 4 (.k (.v (.bool false))), some 4, none, false⟩]
def r_laws_eqExpr_3 : List GI := [⟨.fad 10 2 1, some 10, none, false⟩, ⟨.lod 11 10 none, some 11, none, false⟩, ⟨.fad 12 3 1, some 12, none, false⟩, ⟨.lod 13 12 none, some 13, none, false⟩, ⟨.bin 14 .neq (.t 11) (.t 13), some 14, none, false⟩]
def r_laws_eqExpr_4 : List GI := [⟨.mov 4 (.k (.v (.bool false))), some 4, none, false⟩]
def r_laws_eqExpr_5 : List GI := [⟨.fad 15 2 2, some 15, none, false⟩, ⟨.lod 16 15 (some 2), some 16, none, false⟩, ⟨.fad 17 3 2, some 17, none, false⟩, ⟨.lod 18 17 (some 2), some 18, none, false⟩, ⟨.call 19 36 [.t 16, .t 18], some 19, none, true⟩, ⟨.un 20 UnOp.not (.t 19), some 20, none, false⟩]
def r_laws_eqExpr_6 : List GI := [⟨.mov 4 (.k (.v (.bool false))), some 4, none, false⟩]
def r_laws_eqExpr_7 : List GI := [⟨.fad 21 2 4, some 21, none, false⟩, ⟨.lod 22 21 none, some 22, none, false⟩, ⟨.fad 23 3 4, some 23, none, false⟩, ⟨.lod 24 23 none, some 24, none, false⟩, ⟨.call 25 21 [.t 22, .t 24], some 25, none, true⟩, ⟨.un 26 UnOp.not (.t 25), some 26, none, false⟩]
def r_laws_eqExpr_8 : List GI := [⟨.mov 4 (.k (.v (.bool false))), some 4, none, false⟩]
def r_laws_eqExpr_9 : List GI := [⟨.mov 4 (.k (.v (.bool true))), some 4, none, false⟩]
def dc_laws_eqExpr : DC := .seq (.reg r_laws_eqExpr_0 none) (.seq (.seq (.reg r_laws_eqExpr_1 none) (.cond (.t 9) (.seq (.reg r_laws_eqExpr_2 none) .ret) .skip)) (.seq (.seq (.reg r_laws_eqExpr_3 none) (.cond (.t 14) (.seq (.reg r_laws_eqExpr_4 none) .ret) .skip)) (.seq (.seq (.reg r_laws_eqExpr_5 none) (.cond (.t 20) (.seq (.reg r_laws_eqExpr_6 none) .ret) .skip)) (.seq (.seq (.reg r_laws_eqExpr_7 none) (.cond (.t 26) (.seq (.reg r_laws_eqExpr_8 none) .ret) .skip)) (.seq (.reg r_laws_eqExpr_9 none) .ret)))))
theorem c_laws_eqExpr : cfun Try.prog [] 13 = some (27, dc_laws_eqExpr, [(Res.tmp 4)]) := by kernel_rfl
def r_laws_eqExprS_0 : List GI := [⟨.mov 4 (.k (.v (.bool false))), some 4, none, false⟩]
def r_laws_eqExprS_1 : List GI := [⟨.mov 6 (.t 0), some 6, none, false⟩, ⟨.len 7 (.t 6), some 7, none, false⟩, ⟨.mov 8 (.t 1), some 8, none, false⟩, ⟨.len 9 (.t 8), some 9, none, false⟩, ⟨.bin 10 .neq (.t 7) (.t 9), some 10, none, false⟩]
def r_laws_eqExprS_2 : List GI := [⟨.mov 4 (.k (.v (.bool false))), some 4, none, false⟩]
def r_laws_eqExprS_3 : List GI := [⟨.mov 5 (.k (.v (.int .i64 0))), some 5, none, false⟩]
def r_laws_eqExprS_4 : List GI := [⟨.mov 11 (.t 5), some 11, none, false⟩, ⟨.mov 12 (.t 0), some 12, none, false⟩, ⟨.len 13 (.t 12), some 13, none, false⟩, ⟨.bin 14 .lss (.t 11) (.t 13), some 14, none, false⟩]
def r_laws_eqExprS_5 : List GI := [⟨.mov 17 (.t 0), some 17, none, false⟩, ⟨.mov 18 (.t 5), some 18, none, false⟩, ⟨.iad 19 17 (.t 18) 5, some 19, none, false⟩, ⟨.lod 20 19 (some 5), some 20, none, false⟩, ⟨.mov 21 (.t 1), some 21, none, false⟩, ⟨.mov 22 (.t 5), some 22, none, false⟩, ⟨.iad 23 21 (.t 22) 5, some 23, none, false⟩, ⟨.lod 24 23 (some 5), some 24, none, false⟩, ⟨.call 25 13 [.t 20, .t 24], some 25, none, true⟩, ⟨.un 26 UnOp.not (.t 25), some 26, none, false⟩]
def r_laws_eqExprS_6 : List GI := [⟨.mov 4 (.k (.v (.bool false))), some 4, none, false⟩]
def r_laws_eqExprS_7 : List GI := [⟨.mov 15 (.t 5), some 15, none, false⟩, ⟨.bin 16 .add (.t 15) (.k (.v (.int .i64 1))), some 16, none, false⟩, ⟨.mov 5 (.t 16), some 5, none, false⟩]
def r_laws_eqExprS_8 : List GI := [⟨.mov 4 (.k (.v (.bool true))), some 4, none, false⟩]
def dc_laws_eqExprS : DC := .seq (.reg r_laws_eqExprS_0 none) (.seq (.seq (.reg r_laws_eqExprS_1 none) (.cond (.t 10) (.seq (.reg r_laws_eqExprS_2 none) .ret) .skip)) (.seq (.seq (.reg r_laws_eqExprS_3 none) (.block 0 (.loop (.seq (.seq (.reg r_laws_eqExprS_4 none) (.cond (.t 14) .skip (.exit 0))) (.seq (.block 1 (.seq (.reg r_laws_eqExprS_5 (some [0, 0, 3, 7, 0, 0, 48, 112, 255, 511])) (.cond (.t 26) (.seq (.reg r_laws_eqExprS_6 none) .ret) .skip))) (.reg r_laws_eqExprS_7 none)))))) (.seq (.reg r_laws_eqExprS_8 none) .ret)))
theorem c_laws_eqExprS : cfun Try.prog [] 21 = some (27, dc_laws_eqExprS, [(Res.tmp 4)]) := by kernel_rfl
def r_laws_szExpr_0 : List GI := [⟨.box 2 2000002 (.t 0) (some 5), some 2, none, false⟩, ⟨.mov 4 (.k (.v (.int .i64 0))), some 4, none, false⟩]
def r_laws_szExpr_1 : List GI := [⟨.fad 5 2 4, some 5, none, false⟩, ⟨.lod 6 5 none, some 6, none, false⟩, ⟨.mov 7 (.t 1), some 7, none, false⟩, ⟨.call 8 17 [.t 6, .t 7], some 8, none, true⟩, ⟨.mov 1 (.t 8), some 1, none, false⟩]
def r_laws_szExpr_2 : List GI := [⟨.mov 9 (.t 1), some 9, none, false⟩, ⟨.bin 10 .lss (.t 9) (.k (.v (.int .i64 0))), some 10, none, false⟩]
def r_laws_szExpr_3 : List GI := [⟨.mov 4 (.k (.v (.int .i64 (-1)))), some 4, none, false⟩]
def r_laws_szExpr_4 : List GI := [⟨.mov 11 (.t 1), some 11, none, false⟩, ⟨.mov 4 (.t 11), some 4, none, false⟩]
def dc_laws_szExpr : DC := .seq (.reg r_laws_szExpr_0 none) (.seq (.reg r_laws_szExpr_1 none) (.seq (.seq (.reg r_laws_szExpr_2 none) (.cond (.t 10) (.seq (.reg r_laws_szExpr_3 none) .ret) .skip)) (.seq (.reg r_laws_szExpr_4 none) .ret)))
theorem c_laws_szExpr : cfun Try.prog [] 8 = some (12, dc_laws_szExpr, [(Res.tmp 4)]) := by kernel_rfl
def r_laws_szExprS_0 : List GI := [⟨.mov 4 (.k (.v (.int .i64 0))), some 4, none, false⟩]
def r_laws_szExprS_1 : List GI := [⟨.mov 6 (.t 1), some 6, none, false⟩, ⟨.mov 7 (.t 0), some 7, none, false⟩, ⟨.len 8 (.t 7), some 8, none, false⟩, ⟨.bin 9 .sub (.t 6) (.t 8), some 9, none, false⟩, ⟨.mov 1 (.t 9), some 1, none, false⟩]
def r_laws_szExprS_2 : List GI := [⟨.mov 10 (.t 1), some 10, none, false⟩, ⟨.bin 11 .lss (.t 10) (.k (.v (.int .i64 0))), some 11, none, false⟩]
def r_laws_szExprS_3 : List GI := [⟨.mov 4 (.k (.v (.int .i64 (-1)))), some 4, none, false⟩]
def r_laws_szExprS_4 : List GI := [⟨.mov 5 (.k (.v (.int .i64 0))), some 5, none, false⟩]
def r_laws_szExprS_5 : List GI := [⟨.mov 12 (.t 5), some 12, none, false⟩, ⟨.mov 13 (.t 0), some 13, none, false⟩, ⟨.len 14 (.t 13), some 14, none, false⟩, ⟨.bin 15 .lss (.t 12) (.t 14), some 15, none, false⟩]
def r_laws_szExprS_6 : List GI := [⟨.mov 18 (.t 0), some 18, none, false⟩, ⟨.mov 19 (.t 5), some 19, none, false⟩, ⟨.iad 20 18 (.t 19) 5, some 20, none, false⟩, ⟨.lod 21 20 (some 5), some 21, none, false⟩, ⟨.mov 22 (.t 1), some 22, none, false⟩, ⟨.call 23 8 [.t 21, .t 22], some 23, none, true⟩, ⟨.mov 1 (.t 23), some 1, none, false⟩]
def r_laws_szExprS_7 : List GI := [⟨.mov 24 (.t 1), some 24, none, false⟩, ⟨.bin 25 .lss (.t 24) (.k (.v (.int .i64 0))), some 25, none, false⟩]
def r_laws_szExprS_8 : List GI := [⟨.mov 4 (.k (.v (.int .i64 (-1)))), some 4, none, false⟩]
def r_laws_szExprS_9 : List GI := [⟨.mov 16 (.t 5), some 16, none, false⟩, ⟨.bin 17 .add (.t 16) (.k (.v (.int .i64 1))), some 17, none, false⟩, ⟨.mov 5 (.t 17), some 5, none, false⟩]
def r_laws_szExprS_10 : List GI := [⟨.mov 26 (.t 1), some 26, none, false⟩, ⟨.mov 4 (.t 26), some 4, none, false⟩]
def dc_laws_szExprS : DC := .seq (.reg r_laws_szExprS_0 none) (.seq (.reg r_laws_szExprS_1 none) (.seq (.seq (.reg r_laws_szExprS_2 none) (.cond (.t 11) (.seq (.reg r_laws_szExprS_3 none) .ret) .skip)) (.seq (.seq (.reg r_laws_szExprS_4 none) (.block 0 (.loop (.seq (.seq (.reg r_laws_szExprS_5 none) (.cond (.t 15) .skip (.exit 0))) (.seq (.block 1 (.seq (.reg r_laws_szExprS_6 none) (.seq (.reg r_laws_szExprS_7 none) (.cond (.t 25) (.seq (.reg r_laws_szExprS_8 none) .ret) .skip)))) (.reg r_laws_szExprS_9 none)))))) (.seq (.reg r_laws_szExprS_10 none) .ret))))
theorem c_laws_szExprS : cfun Try.prog [] 17 = some (27, dc_laws_szExprS, [(Res.tmp 4)]) := by kernel_rfl
def r_laws_toExpr_0 : List GI := [⟨.box 1 2000001 (.t 0) (some 5), some 1, none, false⟩, ⟨.alloc 2 2000002 [.v (.int .i64 0), .v (.int .i64 0), .v (.bool false), .v (.int .i64 0), .nul], some 2, none, false⟩]
def r_laws_toExpr_1 : List GI := [⟨.alloc 3 2000003 [.v (.int .i64 0), .v (.int .i64 0), .v (.bool false), .v (.int .i64 0), .nul], some 3, none, false⟩]
def r_laws_toExpr_2 : List GI := [⟨.fad 4 1 0, some 4, none, false⟩, ⟨.lod 5 4 none, some 5, none, false⟩, ⟨.fad 6 3 0, some 6, none, false⟩, ⟨.sto 6 (.t 5) none, none, none, false⟩]
def r_laws_toExpr_3 : List GI := [⟨.fad 7 1 1, some 7, none, false⟩, ⟨.lod 8 7 none, some 8, none, false⟩, ⟨.fad 9 3 1, some 9, none, false⟩, ⟨.sto 9 (.t 8) none, none, none, false⟩]
def r_laws_toExpr_4 : List GI := [⟨.fad 10 1 2, some 10, none, false⟩, ⟨.lod 11 10 (some 2), some 11, none, false⟩, ⟨.call 12 33 [.t 11], some 12, none, true⟩, ⟨.fad 13 3 2, some 13, none, false⟩, ⟨.sto 13 (.t 12) (some 2), none, none, false⟩]
def r_laws_toExpr_5 : List GI := [⟨.fad 14 1 4, some 14, none, false⟩, ⟨.lod 15 14 none, some 15, none, false⟩, ⟨.call 16 19 [.t 15], some 16, none, true⟩, ⟨.fad 17 3 4, some 17, none, false⟩, ⟨.sto 17 (.t 16) none, none, none, false⟩]
def r_laws_toExpr_6 : List GI := [⟨.lod 18 3 (some 5), some 18, none, false⟩, ⟨.sto 2 (.t 18) (some 5), none, none, false⟩]
def dc_laws_toExpr : DC := .seq (.reg r_laws_toExpr_0 none) (.seq (.reg r_laws_toExpr_1 none) (.seq (.reg r_laws_toExpr_2 none) (.seq (.reg r_laws_toExpr_3 none) (.seq (.reg r_laws_toExpr_4 none) (.seq (.reg r_laws_toExpr_5 none) (.seq (.reg r_laws_toExpr_6 none) .ret))))))
theorem c_laws_toExpr : cfun Try.prog [] 10 = some (19, dc_laws_toExpr, [(Res.cell 2 (some 5))]) := by kernel_rfl
def r_laws_toExprS_0 : List GI := [⟨.mov 2 (.k .nul), some 2, none, false⟩]
def r_laws_toExprS_1 : List GI := [⟨.mov 5 (.t 0), some 5, none, false⟩, ⟨.len 6 (.t 5), some 6, none, false⟩, ⟨.mks 7 2000007 (.t 6) 5 56 (.agg [.v (.int .i64 0), .v (.int .i64 0), .v (.bool false), .v (.int .i64 0), .nul]), some 7, none, false⟩, ⟨.mov 3 (.t 7), some 3, none, false⟩]
def r_laws_toExprS_2 : List GI := [⟨.mov 4 (.k (.v (.int .i64 0))), some 4, none, false⟩]
def r_laws_toExprS_3 : List GI := [⟨.mov 8 (.t 4), some 8, none, false⟩, ⟨.mov 9 (.t 0), some 9, none, false⟩, ⟨.len 10 (.t 9), some 10, none, false⟩, ⟨.bin 11 .lss (.t 8) (.t 10), some 11, none, false⟩]
def r_laws_toExprS_4 : List GI := [⟨.mov 14 (.t 3), some 14, none, false⟩, ⟨.mov 15 (.t 4), some 15, none, false⟩, ⟨.mov 16 (.t 0), some 16, none, false⟩, ⟨.mov 17 (.t 4), some 17, none, false⟩, ⟨.iad 18 16 (.t 17) 5, some 18, none, false⟩, ⟨.lod 19 18 (some 5), some 19, none, false⟩, ⟨.call 20 10 [.t 19], some 20, none, true⟩, ⟨.iad 21 14 (.t 15) 5, some 21, none, false⟩, ⟨.sto 21 (.t 20) (some 5), none, none, false⟩]
def r_laws_toExprS_5 : List GI := [⟨.mov 12 (.t 4), some 12, none, false⟩, ⟨.bin 13 .add (.t 12) (.k (.v (.int .i64 1))), some 13, none, false⟩, ⟨.mov 4 (.t 13), some 4, none, false⟩]
def r_laws_toExprS_6 : List GI := [⟨.mov 22 (.t 3), some 22, none, false⟩, ⟨.mov 2 (.t 22), some 2, none, false⟩]
def dc_laws_toExprS : DC := .seq (.reg r_laws_toExprS_0 none) (.seq (.reg r_laws_toExprS_1 none) (.seq (.seq (.reg r_laws_toExprS_2 none) (.block 0 (.loop (.seq (.seq (.reg r_laws_toExprS_3 none) (.cond (.t 11) .skip (.exit 0))) (.seq (.block 1 (.reg r_laws_toExprS_4 none)) (.reg r_laws_toExprS_5 none)))))) (.seq (.reg r_laws_toExprS_6 none) .ret)))
theorem c_laws_toExprS : cfun Try.prog [] 19 = some (23, dc_laws_toExprS, [(Res.tmp 2)]) := by kernel_rfl
def r_laws_markExprS_0 : List GI := [⟨.mov 4 (.k (.v (.int .i64 0))), some 4, none, false⟩]
def r_laws_markExprS_1 : List GI := [⟨.mov 5 (.k (.v (.int .i64 0))), some 5, none, false⟩]
def r_laws_markExprS_2 : List GI := [⟨.mov 6 (.t 5), some 6, none, false⟩, ⟨.mov 7 (.t 0), some 7, none, false⟩, ⟨.len 8 (.t 7), some 8, none, false⟩, ⟨.bin 9 .lss (.t 6) (.t 8), some 9, none, false⟩]
def r_laws_markExprS_3 : List GI := [⟨.mov 12 (.t 0), some 12, none, false⟩, ⟨.mov 13 (.t 5), some 13, none, false⟩, ⟨.mov 14 (.t 1), some 14, none, false⟩, ⟨.iad 15 12 (.t 13) 5, some 15, none, false⟩, ⟨.fad 16 15 0, some 16, none, false⟩, ⟨.sto 16 (.t 14) none, none, none, false⟩]
def r_laws_markExprS_4 : List GI := [⟨.mov 17 (.t 1), some 17, none, false⟩, ⟨.bin 18 .add (.t 17) (.k (.v (.int .i64 1))), some 18, none, false⟩, ⟨.mov 1 (.t 18), some 1, none, false⟩]
def r_laws_markExprS_5 : List GI := [⟨.mov 19 (.t 0), some 19, none, false⟩, ⟨.mov 20 (.t 5), some 20, none, false⟩, ⟨.mov 21 (.t 1), some 21, none, false⟩, ⟨.iad 22 19 (.t 20) 5, some 22, none, false⟩, ⟨.fad 23 22 1, some 23, none, false⟩, ⟨.sto 23 (.t 21) none, none, none, false⟩]
def r_laws_markExprS_6 : List GI := [⟨.mov 24 (.t 1), some 24, none, false⟩, ⟨.bin 25 .add (.t 24) (.k (.v (.int .i64 1))), some 25, none, false⟩, ⟨.mov 1 (.t 25), some 1, none, false⟩]
def r_laws_markExprS_7 : List GI := [⟨.mov 26 (.t 0), some 26, none, false⟩, ⟨.mov 27 (.t 5), some 27, none, false⟩, ⟨.mov 28 (.t 1), some 28, none, false⟩, ⟨.bin 29 .rem (.t 28) (.k (.v (.int .i64 3))), some 29, none, false⟩, ⟨.bin 30 .eql (.t 29) (.k (.v (.int .i64 0))), some 30, none, false⟩, ⟨.iad 31 26 (.t 27) 5, some 31, none, false⟩, ⟨.fad 32 31 2, some 32, none, false⟩, ⟨.fad 33 32 0, some 33, none, false⟩, ⟨.sto 33 (.t 30) none, none, none, false⟩]
def r_laws_markExprS_8 : List GI := [⟨.mov 34 (.t 1), some 34, none, false⟩, ⟨.bin 35 .add (.t 34) (.k (.v (.int .i64 1))), some 35, none, false⟩, ⟨.mov 1 (.t 35), some 1, none, false⟩]
def r_laws_markExprS_9 : List GI := [⟨.mov 36 (.t 0), some 36, none, false⟩, ⟨.mov 37 (.t 5), some 37, none, false⟩, ⟨.mov 38 (.t 1), some 38, none, false⟩, ⟨.iad 39 36 (.t 37) 5, some 39, none, false⟩, ⟨.fad 40 39 2, some 40, none, false⟩, ⟨.fad 41 40 1, some 41, none, false⟩, ⟨.sto 41 (.t 38) none, none, none, false⟩]
def r_laws_markExprS_10 : List GI := [⟨.mov 42 (.t 1), some 42, none, false⟩, ⟨.bin 43 .add (.t 42) (.k (.v (.int .i64 1))), some 43, none, false⟩, ⟨.mov 1 (.t 43), some 1, none, false⟩]
def r_laws_markExprS_11 : List GI := [⟨.mov 44 (.t 0), some 44, none, false⟩, ⟨.mov 45 (.t 5), some 45, none, false⟩, ⟨.iad 46 44 (.t 45) 5, some 46, none, false⟩, ⟨.fad 47 46 4, some 47, none, false⟩, ⟨.lod 48 47 none, some 48, none, false⟩, ⟨.mov 49 (.t 1), some 49, none, false⟩, ⟨.call 50 22 [.t 48, .t 49], some 50, none, true⟩, ⟨.mov 1 (.t 50), some 1, none, false⟩]
def r_laws_markExprS_12 : List GI := [⟨.mov 10 (.t 5), some 10, none, false⟩, ⟨.bin 11 .add (.t 10) (.k (.v (.int .i64 1))), some 11, none, false⟩, ⟨.mov 5 (.t 11), some 5, none, false⟩]
def r_laws_markExprS_13 : List GI := [⟨.mov 51 (.t 1), some 51, none, false⟩, ⟨.mov 4 (.t 51), some 4, none, false⟩]
def dc_laws_markExprS : DC := .seq (.reg r_laws_markExprS_0 none) (.seq (.seq (.reg r_laws_markExprS_1 none) (.block 0 (.loop (.seq (.seq (.reg r_laws_markExprS_2 none) (.cond (.t 9) .skip (.exit 0))) (.seq (.block 1 (.seq (.reg r_laws_markExprS_3 none) (.seq (.reg r_laws_markExprS_4 none) (.seq (.reg r_laws_markExprS_5 none) (.seq (.reg r_laws_markExprS_6 none) (.seq (.reg r_laws_markExprS_7 none) (.seq (.reg r_laws_markExprS_8 none) (.seq (.reg r_laws_markExprS_9 none) (.seq (.reg r_laws_markExprS_10 none) (.reg r_laws_markExprS_11 none)))))))))) (.reg r_laws_markExprS_12 none)))))) (.seq (.reg r_laws_markExprS_13 none) .ret))
theorem c_laws_markExprS : cfun Try.prog [] 22 = some (52, dc_laws_markExprS, [(Res.tmp 4)]) := by kernel_rfl
def r_impl_Value_valid_0 : List GI := [⟨.box 1 2000001 (.t 0) (some 2), some 1, none, false⟩, ⟨.mov 2 (.k (.v (.bool false))), some 2, none, false⟩]
def r_impl_Value_valid_1 : List GI := [⟨.fad 3 1 0, some 3, none, false⟩, ⟨.lod 4 3 none, some 4, none, false⟩]
def r_impl_Value_valid_2 : List GI := [⟨.fad 5 1 1, some 5, none, false⟩, ⟨.lod 6 5 none, some 6, none, false⟩, ⟨.bin 7 .eql (.t 6) (.k (.v (.int .i64 0))), some 7, none, false⟩, ⟨.mov 2 (.t 7), some 2, none, false⟩]
def r_impl_Value_valid_3 : List GI := [⟨.fad 8 1 1, some 8, none, false⟩, ⟨.lod 9 8 none, some 9, none, false⟩, ⟨.bin 10 .leq (.k (.v (.int .i64 (-9999)))) (.t 9), some 10, none, false⟩, ⟨.mov 11 (.t 10), some 11, none, false⟩, ⟨.fad 12 1 1, some 12, some (11, true), false⟩, ⟨.lod 13 12 none, some 13, some (11, true), false⟩, ⟨.bin 14 .leq (.t 13) (.k (.v (.int .i64 9999))), some 14, some (11, true), false⟩, ⟨.pick 15 (.t 11) (.t 14) (.k (.v (.bool false))), some 15, none, false⟩, ⟨.mov 2 (.t 15), some 2, none, false⟩]
def dc_impl_Value_valid : DC := .seq (.reg r_impl_Value_valid_0 none) (.seq (.seq (.reg r_impl_Value_valid_1 none) (.cond (.t 4) (.seq (.reg r_impl_Value_valid_2 none) .ret) .skip)) (.seq (.reg r_impl_Value_valid_3 none) .ret))
theorem c_impl_Value_valid : cfun Try.prog [] 61 = some (16, dc_impl_Value_valid, [(Res.tmp 2)]) := by kernel_rfl
def r_impl_isColumn_0 : List GI := [⟨.mov 4 (.k (.v (.bool false))), some 4, none, false⟩]
def r_impl_isColumn_1 : List GI := [⟨.mov 5 (.t 0), some 5, none, false⟩, ⟨.bin 6 .leq (.k (.v (.int .i64 0))) (.t 5), some 6, none, false⟩, ⟨.mov 7 (.t 6), some 7, none, false⟩, ⟨.mov 8 (.t 0), some 8, some (7, true), false⟩, ⟨.mov 9 (.t 1), some 9, some (7, true), false⟩, ⟨.bin 10 .lss (.t 8) (.t 9), some 10, some (7, true), false⟩, ⟨.pick 11 (.t 7) (.t 10) (.k (.v (.bool false))), some 11, none, false⟩, ⟨.mov 4 (.t 11), some 4, none, false⟩]
def dc_impl_isColumn : DC := .seq (.reg r_impl_isColumn_0 none) (.seq (.reg r_impl_isColumn_1 none) .ret)
theorem c_impl_isColumn : cfun Try.prog [] 60 = some (12, dc_impl_isColumn, [(Res.tmp 4)]) := by kernel_rfl
def r_impl_numberOrNull_0 : List GI := [⟨.alloc 2 2000002 [.v (.bool false), .v (.int .i64 0)], some 2, none, false⟩]
def r_impl_numberOrNull_1 : List GI := [⟨.mov 4 (.t 0), some 4, none, false⟩, ⟨.build 5 [.v (.bool false), .v (.int .i64 0)] [(1, (none, .t 4))], some 5, none, false⟩, ⟨.alloc 3 2000003 [.v (.bool false), .v (.int .i64 0)], some 3, none, false⟩, ⟨.sto 3 (.t 5) (some 2), none, none, false⟩]
def r_impl_numberOrNull_2 : List GI := [⟨.lod 6 3 (some 2), some 6, none, false⟩, ⟨.call 7 61 [.t 6], some 7, none, true⟩]
def r_impl_numberOrNull_3 : List GI := [⟨.lod 8 3 (some 2), some 8, none, false⟩, ⟨.sto 2 (.t 8) (some 2), none, none, false⟩]
def r_impl_numberOrNull_4 : List GI := [⟨.build 9 [.v (.bool false), .v (.int .i64 0)] [(0, (none, .k (.v (.bool true))))], some 9, none, false⟩, ⟨.sto 2 (.t 9) (some 2), none, none, false⟩]
def dc_impl_numberOrNull : DC := .seq (.reg r_impl_numberOrNull_0 none) (.seq (.seq (.reg r_impl_numberOrNull_1 none) (.seq (.reg r_impl_numberOrNull_2 none) (.cond (.t 7) (.seq (.reg r_impl_numberOrNull_3 none) .ret) .skip))) (.seq (.reg r_impl_numberOrNull_4 none) .ret))
theorem c_impl_numberOrNull : cfun Try.prog [] 106 = some (10, dc_impl_numberOrNull, [(Res.cell 2 (some 2))]) := by kernel_rfl
def r_impl_validWidth_0 : List GI := [⟨.mov 2 (.k (.v (.bool false))), some 2, none, false⟩]
def r_impl_validWidth_1 : List GI := [⟨.mov 3 (.t 0), some 3, none, false⟩, ⟨.bin 4 .leq (.k (.v (.int .i64 1))) (.t 3), some 4, none, false⟩, ⟨.mov 5 (.t 4), some 5, none, false⟩, ⟨.mov 6 (.t 0), some 6, some (5, true), false⟩, ⟨.bin 7 .leq (.t 6) (.k (.v (.int .i64 6))), some 7, some (5, true), false⟩, ⟨.pick 8 (.t 5) (.t 7) (.k (.v (.bool false))), some 8, none, false⟩, ⟨.mov 2 (.t 8), some 2, none, false⟩]
def dc_impl_validWidth : DC := .seq (.reg r_impl_validWidth_0 none) (.seq (.reg r_impl_validWidth_1 none) .ret)
theorem c_impl_validWidth : cfun Try.prog [] 48 = some (9, dc_impl_validWidth, [(Res.tmp 2)]) := by kernel_rfl
def r_spec_inRange_0 : List GI := [⟨.mov 6 (.k (.v (.bool false))), some 6, none, false⟩]
def r_spec_inRange_1 : List GI := [⟨.mov 7 (.t 0), some 7, none, false⟩, ⟨.mov 8 (.t 1), some 8, none, false⟩, ⟨.bin 9 .geq (.t 7) (.t 8), some 9, none, false⟩, ⟨.mov 10 (.t 9), some 10, none, false⟩, ⟨.mov 11 (.t 0), some 11, some (10, true), false⟩, ⟨.mov 12 (.t 2), some 12, some (10, true), false⟩, ⟨.bin 13 .leq (.t 11) (.t 12), some 13, some (10, true), false⟩, ⟨.pick 14 (.t 10) (.t 13) (.k (.v (.bool false))), some 14, none, false⟩, ⟨.mov 6 (.t 14), some 6, none, false⟩]
def dc_spec_inRange : DC := .seq (.reg r_spec_inRange_0 none) (.seq (.reg r_spec_inRange_1 none) .ret)
theorem c_spec_inRange : cfun Try.prog [] 45 = some (15, dc_spec_inRange, [(Res.tmp 6)]) := by kernel_rfl
def r_spec_number_0 : List GI := [⟨.alloc 2 2000002 [.v (.bool false), .v (.int .i64 0)], some 2, none, false⟩]
def r_spec_number_1 : List GI := [⟨.mov 3 (.t 0), some 3, none, false⟩, ⟨.call 4 45 [.t 3, .k (.v (.int .i64 (-9999))), .k (.v (.int .i64 9999))], some 4, none, true⟩, ⟨.un 5 UnOp.not (.t 4), some 5, none, false⟩]
def r_spec_number_2 : List GI := [⟨.build 6 [.v (.bool false), .v (.int .i64 0)] [(0, (none, .k (.v (.bool true))))], some 6, none, false⟩, ⟨.sto 2 (.t 6) (some 2), none, none, false⟩]
def r_spec_number_3 : List GI := [⟨.mov 7 (.t 0), some 7, none, false⟩, ⟨.build 8 [.v (.bool false), .v (.int .i64 0)] [(1, (none, .t 7))], some 8, none, false⟩, ⟨.sto 2 (.t 8) (some 2), none, none, false⟩]
def dc_spec_number : DC := .seq (.reg r_spec_number_0 none) (.seq (.seq (.reg r_spec_number_1 none) (.cond (.t 5) (.seq (.reg r_spec_number_2 none) .ret) .skip)) (.seq (.reg r_spec_number_3 none) .ret))
theorem c_spec_number : cfun Try.prog [] 68 = some (9, dc_spec_number, [(Res.cell 2 (some 2))]) := by kernel_rfl
def r_spec_validValue_0 : List GI := [⟨.box 1 2000001 (.t 0) (some 2), some 1, none, false⟩, ⟨.mov 2 (.k (.v (.bool false))), some 2, none, false⟩]
def r_spec_validValue_1 : List GI := [⟨.fad 3 1 1, some 3, none, false⟩, ⟨.lod 4 3 none, some 4, none, false⟩, ⟨.call 5 45 [.t 4, .k (.v (.int .i64 (-9999))), .k (.v (.int .i64 9999))], some 5, none, true⟩, ⟨.mov 6 (.t 5), some 6, none, false⟩, ⟨.fad 7 1 0, some 7, some (6, true), false⟩, ⟨.lod 8 7 none, some 8, some (6, true), false⟩, ⟨.un 9 UnOp.not (.t 8), some 9, some (6, true), false⟩, ⟨.mov 10 (.t 9), some 10, some (6, true), false⟩, ⟨.fad 11 1 1, some 11, some (10, false), false⟩, ⟨.lod 12 11 none, some 12, some (10, false), false⟩, ⟨.bin 13 .eql (.t 12) (.k (.v (.int .i64 0))), some 13, some (10, false), false⟩, ⟨.pick 14 (.t 10) (.k (.v (.bool true))) (.t 13), some 14, some (6, true), false⟩, ⟨.pick 15 (.t 6) (.t 14) (.k (.v (.bool false))), some 15, none, false⟩, ⟨.mov 2 (.t 15), some 2, none, false⟩]
def dc_spec_validValue : DC := .seq (.reg r_spec_validValue_0 none) (.seq (.reg r_spec_validValue_1 none) .ret)
theorem c_spec_validValue : cfun Try.prog [] 58 = some (16, dc_spec_validValue, [(Res.tmp 2)]) := by kernel_rfl
def r_laws_eqIntS_0 : List GI := [⟨.mov 4 (.k (.v (.bool false))), some 4, none, false⟩]
def r_laws_eqIntS_1 : List GI := [⟨.mov 6 (.t 0), some 6, none, false⟩, ⟨.len 7 (.t 6), some 7, none, false⟩, ⟨.mov 8 (.t 1), some 8, none, false⟩, ⟨.len 9 (.t 8), some 9, none, false⟩, ⟨.bin 10 .neq (.t 7) (.t 9), some 10, none, false⟩]
def r_laws_eqIntS_2 : List GI := [⟨.mov 4 (.k (.v (.bool false))), some 4, none, false⟩]
def r_laws_eqIntS_3 : List GI := [⟨.mov 5 (.k (.v (.int .i64 0))), some 5, none, false⟩]
def r_laws_eqIntS_4 : List GI := [⟨.mov 11 (.t 5), some 11, none, false⟩, ⟨.mov 12 (.t 0), some 12, none, false⟩, ⟨.len 13 (.t 12), some 13, none, false⟩, ⟨.bin 14 .lss (.t 11) (.t 13), some 14, none, false⟩]
def r_laws_eqIntS_5 : List GI := [⟨.mov 17 (.t 0), some 17, none, false⟩, ⟨.mov 18 (.t 5), some 18, none, false⟩, ⟨.iad 19 17 (.t 18) 1, some 19, none, false⟩, ⟨.lod 20 19 none, some 20, none, false⟩, ⟨.mov 21 (.t 1), some 21, none, false⟩, ⟨.mov 22 (.t 5), some 22, none, false⟩, ⟨.iad 23 21 (.t 22) 1, some 23, none, false⟩, ⟨.lod 24 23 none, some 24, none, false⟩, ⟨.bin 25 .neq (.t 20) (.t 24), some 25, none, false⟩]
def r_laws_eqIntS_6 : List GI := [⟨.mov 4 (.k (.v (.bool false))), some 4, none, false⟩]
def r_laws_eqIntS_7 : List GI := [⟨.mov 15 (.t 5), some 15, none, false⟩, ⟨.bin 16 .add (.t 15) (.k (.v (.int .i64 1))), some 16, none, false⟩, ⟨.mov 5 (.t 16), some 5, none, false⟩]
def r_laws_eqIntS_8 : List GI := [⟨.mov 4 (.k (.v (.bool true))), some 4, none, false⟩]
def dc_laws_eqIntS : DC := .seq (.reg r_laws_eqIntS_0 none) (.seq (.seq (.reg r_laws_eqIntS_1 none) (.cond (.t 10) (.seq (.reg r_laws_eqIntS_2 none) .ret) .skip)) (.seq (.seq (.reg r_laws_eqIntS_3 none) (.block 0 (.loop (.seq (.seq (.reg r_laws_eqIntS_4 none) (.cond (.t 14) .skip (.exit 0))) (.seq (.block 1 (.seq (.reg r_laws_eqIntS_5 (some [0, 0, 3, 7, 0, 0, 48, 112, 255])) (.cond (.t 25) (.seq (.reg r_laws_eqIntS_6 none) .ret) .skip))) (.reg r_laws_eqIntS_7 none)))))) (.seq (.reg r_laws_eqIntS_8 none) .ret)))
theorem c_laws_eqIntS : cfun Try.prog [] 12 = some (26, dc_laws_eqIntS, [(Res.tmp 4)]) := by kernel_rfl
def r_laws_heldIntS_0 : List GI := [⟨.mov 4 (.k (.v (.int .i64 0))), some 4, none, false⟩]
def r_laws_heldIntS_1 : List GI := [⟨.mov 5 (.k (.v (.int .i64 0))), some 5, none, false⟩]
def r_laws_heldIntS_2 : List GI := [⟨.mov 6 (.t 5), some 6, none, false⟩, ⟨.mov 7 (.t 0), some 7, none, false⟩, ⟨.len 8 (.t 7), some 8, none, false⟩, ⟨.bin 9 .lss (.t 6) (.t 8), some 9, none, false⟩]
def r_laws_heldIntS_3 : List GI := [⟨.mov 12 (.t 0), some 12, none, false⟩, ⟨.mov 13 (.t 5), some 13, none, false⟩, ⟨.iad 14 12 (.t 13) 1, some 14, none, false⟩, ⟨.lod 15 14 none, some 15, none, false⟩, ⟨.mov 16 (.t 1), some 16, none, false⟩, ⟨.bin 17 .neq (.t 15) (.t 16), some 17, none, false⟩]
def r_laws_heldIntS_4 : List GI := [⟨.mov 4 (.k (.v (.int .i64 (-1)))), some 4, none, false⟩]
def r_laws_heldIntS_5 : List GI := [⟨.mov 18 (.t 1), some 18, none, false⟩, ⟨.bin 19 .add (.t 18) (.k (.v (.int .i64 1))), some 19, none, false⟩, ⟨.mov 1 (.t 19), some 1, none, false⟩]
def r_laws_heldIntS_6 : List GI := [⟨.mov 10 (.t 5), some 10, none, false⟩, ⟨.bin 11 .add (.t 10) (.k (.v (.int .i64 1))), some 11, none, false⟩, ⟨.mov 5 (.t 11), some 5, none, false⟩]
def r_laws_heldIntS_7 : List GI := [⟨.mov 20 (.t 1), some 20, none, false⟩, ⟨.mov 4 (.t 20), some 4, none, false⟩]
def dc_laws_heldIntS : DC := .seq (.reg r_laws_heldIntS_0 none) (.seq (.seq (.reg r_laws_heldIntS_1 none) (.block 0 (.loop (.seq (.seq (.reg r_laws_heldIntS_2 none) (.cond (.t 9) .skip (.exit 0))) (.seq (.block 1 (.seq (.seq (.reg r_laws_heldIntS_3 none) (.cond (.t 17) (.seq (.reg r_laws_heldIntS_4 none) .ret) .skip)) (.reg r_laws_heldIntS_5 none))) (.reg r_laws_heldIntS_6 none)))))) (.seq (.reg r_laws_heldIntS_7 none) .ret))
theorem c_laws_heldIntS : cfun Try.prog [] 16 = some (21, dc_laws_heldIntS, [(Res.tmp 4)]) := by kernel_rfl
def r_laws_markIntS_0 : List GI := [⟨.mov 4 (.k (.v (.int .i64 0))), some 4, none, false⟩]
def r_laws_markIntS_1 : List GI := [⟨.mov 5 (.k (.v (.int .i64 0))), some 5, none, false⟩]
def r_laws_markIntS_2 : List GI := [⟨.mov 6 (.t 5), some 6, none, false⟩, ⟨.mov 7 (.t 0), some 7, none, false⟩, ⟨.len 8 (.t 7), some 8, none, false⟩, ⟨.bin 9 .lss (.t 6) (.t 8), some 9, none, false⟩]
def r_laws_markIntS_3 : List GI := [⟨.mov 12 (.t 0), some 12, none, false⟩, ⟨.mov 13 (.t 5), some 13, none, false⟩, ⟨.mov 14 (.t 1), some 14, none, false⟩, ⟨.iad 15 12 (.t 13) 1, some 15, none, false⟩, ⟨.sto 15 (.t 14) none, none, none, false⟩]
def r_laws_markIntS_4 : List GI := [⟨.mov 16 (.t 1), some 16, none, false⟩, ⟨.bin 17 .add (.t 16) (.k (.v (.int .i64 1))), some 17, none, false⟩, ⟨.mov 1 (.t 17), some 1, none, false⟩]
def r_laws_markIntS_5 : List GI := [⟨.mov 10 (.t 5), some 10, none, false⟩, ⟨.bin 11 .add (.t 10) (.k (.v (.int .i64 1))), some 11, none, false⟩, ⟨.mov 5 (.t 11), some 5, none, false⟩]
def r_laws_markIntS_6 : List GI := [⟨.mov 18 (.t 1), some 18, none, false⟩, ⟨.mov 4 (.t 18), some 4, none, false⟩]
def dc_laws_markIntS : DC := .seq (.reg r_laws_markIntS_0 none) (.seq (.seq (.reg r_laws_markIntS_1 none) (.block 0 (.loop (.seq (.seq (.reg r_laws_markIntS_2 none) (.cond (.t 9) .skip (.exit 0))) (.seq (.block 1 (.seq (.reg r_laws_markIntS_3 none) (.reg r_laws_markIntS_4 none))) (.reg r_laws_markIntS_5 none)))))) (.seq (.reg r_laws_markIntS_6 none) .ret))
theorem c_laws_markIntS : cfun Try.prog [] 15 = some (19, dc_laws_markIntS, [(Res.tmp 4)]) := by kernel_rfl
def r_spec_ValidExpr_0 : List GI := [⟨.box 2 2000002 (.t 0) (some 5), some 2, none, false⟩, ⟨.mov 4 (.k (.v (.bool false))), some 4, none, false⟩]
def r_spec_ValidExpr_1 : List GI := [⟨.mov 5 (.t 1), some 5, none, false⟩, ⟨.call 6 45 [.t 5, .k (.v (.int .i64 1)), .k (.v (.int .i64 6))], some 6, none, true⟩, ⟨.mov 7 (.t 6), some 7, none, false⟩, ⟨.lod 8 2 (some 5), some 8, some (7, true), false⟩, ⟨.mov 9 (.t 1), some 9, some (7, true), false⟩, ⟨.call 10 46 [.t 8, .t 9, .k (.v (.int .i64 8))], some 10, some (7, true), true⟩, ⟨.pick 11 (.t 7) (.t 10) (.k (.v (.bool false))), some 11, none, false⟩, ⟨.mov 4 (.t 11), some 4, none, false⟩]
def dc_spec_ValidExpr : DC := .seq (.reg r_spec_ValidExpr_0 none) (.seq (.reg r_spec_ValidExpr_1 none) .ret)
theorem c_spec_ValidExpr : cfun Try.prog [] 31 = some (12, dc_spec_ValidExpr, [(Res.tmp 4)]) := by kernel_rfl
def r_spec_validExpr_0 : List GI := [⟨.box 3 2000003 (.t 0) (some 5), some 3, none, false⟩, ⟨.mov 6 (.k (.v (.bool false))), some 6, none, false⟩]
def r_spec_validExpr_1 : List GI := [⟨.fad 8 3 4, some 8, none, false⟩, ⟨.lod 9 8 none, some 9, none, false⟩, ⟨.len 10 (.t 9), some 10, none, false⟩, ⟨.fad 11 3 0, some 11, none, false⟩, ⟨.lod 12 11 none, some 12, none, false⟩, ⟨.call 13 57 [.t 12], some 13, none, true⟩, ⟨.bin 14 .neq (.t 10) (.t 13), some 14, none, false⟩, ⟨.mov 15 (.t 14), some 15, none, false⟩, ⟨.fad 16 3 4, some 16, some (15, false), false⟩, ⟨.lod 17 16 none, some 17, some (15, false), false⟩, ⟨.len 18 (.t 17), some 18, some (15, false), false⟩, ⟨.bin 19 .gtr (.t 18) (.k (.v (.int .i64 0))), some 19, some (15, false), false⟩, ⟨.mov 20 (.t 19), some 20, some (15, false), false⟩, ⟨.mov 21 (.t 2), some 21, some (20, true), false⟩, ⟨.bin 22 .eql (.t 21) (.k (.v (.int .i64 0))), some 22, some (20, true), false⟩, ⟨.pick 23 (.t 20) (.t 22) (.k (.v (.bool false))), some 23, some (15, false), false⟩, ⟨.pick 24 (.t 15) (.k (.v (.bool true))) (.t 23), some 24, none, false⟩]
def r_spec_validExpr_2 : List GI := [⟨.mov 6 (.k (.v (.bool false))), some 6, none, false⟩]
def r_spec_validExpr_3 : List GI := [⟨.mov 7 (.k (.v (.int .i64 0))), some 7, none, false⟩]
def r_spec_validExpr_4 : List GI := [⟨.mov 25 (.t 7), some 25, none, false⟩, ⟨.fad 26 3 4, some 26, none, false⟩, ⟨.lod 27 26 none, some 27, none, false⟩, ⟨.len 28 (.t 27), some 28, none, false⟩, ⟨.bin 29 .lss (.t 25) (.t 28), some 29, none, false⟩]
def r_spec_validExpr_5 : List GI := [⟨.fad 32 3 4, some 32, none, false⟩, ⟨.lod 33 32 none, some 33, none, false⟩, ⟨.mov 34 (.t 7), some 34, none, false⟩, ⟨.iad 35 33 (.t 34) 5, some 35, none, false⟩, ⟨.lod 36 35 (some 5), some 36, none, false⟩, ⟨.mov 37 (.t 1), some 37, none, false⟩, ⟨.mov 38 (.t 2), some 38, none, false⟩, ⟨.bin 39 .sub (.t 38) (.k (.v (.int .i64 1))), some 39, none, false⟩, ⟨.call 40 46 [.t 36, .t 37, .t 39], some 40, none, true⟩, ⟨.un 41 UnOp.not (.t 40), some 41, none, false⟩]
def r_spec_validExpr_6 : List GI := [⟨.mov 6 (.k (.v (.bool false))), some 6, none, false⟩]
def r_spec_validExpr_7 : List GI := [⟨.mov 30 (.t 7), some 30, none, false⟩, ⟨.bin 31 .add (.t 30) (.k (.v (.int .i64 1))), some 31, none, false⟩, ⟨.mov 7 (.t 31), some 7, none, false⟩]
def r_spec_validExpr_8 : List GI := [⟨.fad 42 3 0, some 42, none, false⟩, ⟨.lod 43 42 none, some 43, none, false⟩]
def r_spec_validExpr_9 : List GI := [⟨.bin 45 .eql (.t 43) (.k (.v (.int .i64 1))), some 45, none, false⟩, ⟨.mov 44 (.t 45), some 44, none, false⟩]
def r_spec_validExpr_10 : List GI := [⟨.fad 46 3 1, some 46, none, false⟩, ⟨.lod 47 46 none, some 47, none, false⟩, ⟨.mov 48 (.t 1), some 48, none, false⟩, ⟨.bin 49 .sub (.t 48) (.k (.v (.int .i64 1))), some 49, none, false⟩, ⟨.call 50 45 [.t 47, .k (.v (.int .i64 0)), .t 49], some 50, none, true⟩, ⟨.mov 51 (.t 50), some 51, none, false⟩, ⟨.fad 52 3 2, some 52, some (51, true), false⟩, ⟨.lod 53 52 (some 2), some 53, some (51, true), false⟩, ⟨.build 54 [.v (.bool false), .v (.int .i64 0)] [], some 54, some (51, true), false⟩, ⟨.eqs 55 false [false, true] (.t 53) (.t 54), some 55, some (51, true), false⟩, ⟨.pick 56 (.t 51) (.t 55) (.k (.v (.bool false))), some 56, none, false⟩, ⟨.mov 6 (.t 56), some 6, none, false⟩]
def r_spec_validExpr_11 : List GI := [⟨.bin 58 .eql (.t 43) (.k (.v (.int .i64 2))), some 58, none, false⟩, ⟨.mov 57 (.t 58), some 57, none, false⟩]
def r_spec_validExpr_12 : List GI := [⟨.fad 59 3 1, some 59, none, false⟩, ⟨.lod 60 59 none, some 60, none, false⟩, ⟨.bin 61 .eql (.t 60) (.k (.v (.int .i64 0))), some 61, none, false⟩, ⟨.mov 62 (.t 61), some 62, none, false⟩, ⟨.fad 63 3 2, some 63, some (62, true), false⟩, ⟨.lod 64 63 (some 2), some 64, some (62, true), false⟩, ⟨.call 65 58 [.t 64], some 65, some (62, true), true⟩, ⟨.pick 66 (.t 62) (.t 65) (.k (.v (.bool false))), some 66, none, false⟩, ⟨.mov 6 (.t 66), some 6, none, false⟩]
def r_spec_validExpr_13 : List GI := [⟨.fad 67 3 1, some 67, none, false⟩, ⟨.lod 68 67 none, some 68, none, false⟩, ⟨.bin 69 .eql (.t 68) (.k (.v (.int .i64 0))), some 69, none, false⟩, ⟨.mov 70 (.t 69), some 70, none, false⟩, ⟨.fad 71 3 2, some 71, some (70, true), false⟩, ⟨.lod 72 71 (some 2), some 72, some (70, true), false⟩, ⟨.build 73 [.v (.bool false), .v (.int .i64 0)] [], some 73, some (70, true), false⟩, ⟨.eqs 74 false [false, true] (.t 72) (.t 73), some 74, some (70, true), false⟩, ⟨.pick 75 (.t 70) (.t 74) (.k (.v (.bool false))), some 75, none, false⟩, ⟨.mov 6 (.t 75), some 6, none, false⟩]
def dc_spec_validExpr : DC := .seq (.reg r_spec_validExpr_0 none) (.seq (.seq (.reg r_spec_validExpr_1 (some [0, 1, 3, 0, 8, 24, 63, 127, 255, 511, 1023, 2047, 4095, 8191, 16383, 32767, 65535])) (.cond (.t 24) (.seq (.reg r_spec_validExpr_2 none) .ret) .skip)) (.seq (.seq (.reg r_spec_validExpr_3 none) (.block 0 (.loop (.seq (.seq (.reg r_spec_validExpr_4 none) (.cond (.t 29) .skip (.exit 0))) (.seq (.block 1 (.seq (.reg r_spec_validExpr_5 none) (.cond (.t 41) (.seq (.reg r_spec_validExpr_6 none) .ret) .skip))) (.reg r_spec_validExpr_7 none)))))) (.seq (.seq (.reg r_spec_validExpr_8 none) (.block 2 (.seq (.reg r_spec_validExpr_9 none) (.cond (.t 44) (.seq (.reg r_spec_validExpr_10 none) .ret) (.seq (.reg r_spec_validExpr_11 none) (.cond (.t 57) (.seq (.reg r_spec_validExpr_12 none) .ret) .skip)))))) (.seq (.reg r_spec_validExpr_13 none) .ret))))
theorem c_spec_validExpr : cfun Try.prog [] 46 = some (76, dc_spec_validExpr, [(Res.tmp 6)]) := by kernel_rfl
def r_impl_ValidExpr_0 : List GI := [⟨.box 2 2000002 (.t 0) (some 5), some 2, none, false⟩, ⟨.mov 4 (.k (.v (.bool false))), some 4, none, false⟩]
def r_impl_ValidExpr_1 : List GI := [⟨.mov 5 (.t 1), some 5, none, false⟩, ⟨.call 6 48 [.t 5], some 6, none, true⟩, ⟨.mov 7 (.t 6), some 7, none, false⟩, ⟨.lod 8 2 (some 5), some 8, some (7, true), false⟩, ⟨.mov 9 (.t 1), some 9, some (7, true), false⟩, ⟨.call 10 49 [.t 8, .t 9, .k (.v (.int .i64 8))], some 10, some (7, true), true⟩, ⟨.pick 11 (.t 7) (.t 10) (.k (.v (.bool false))), some 11, none, false⟩, ⟨.mov 4 (.t 11), some 4, none, false⟩]
def dc_impl_ValidExpr : DC := .seq (.reg r_impl_ValidExpr_0 none) (.seq (.reg r_impl_ValidExpr_1 none) .ret)
theorem c_impl_ValidExpr : cfun Try.prog [] 34 = some (12, dc_impl_ValidExpr, [(Res.tmp 4)]) := by kernel_rfl
end
end Go.Proofs.Ytclkehekhdfnnaa
