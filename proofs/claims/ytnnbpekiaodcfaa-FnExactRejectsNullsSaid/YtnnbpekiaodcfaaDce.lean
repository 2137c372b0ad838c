/-
  Functions of the program read as code on plain data. Closed facts of the program alone.
-/
import Derived.Test.YtnnbpekiaodcfaaRows
import Derived.Test.YtnnbpekiaodcfaaVLib
import Derived.KernelRfl
namespace Go.Proofs.Ytnnbpekiaodcfaa
open Go.RowKit
noncomputable section
def r_laws_eqExpr_0 : List GI := [⟨.box 2 2000002 (.t 0) (some 5), some 2, none, false⟩, ⟨.box 3 2000003 (.t 1) (some 5), some 3, none, false⟩, ⟨.mov 4 (.k (.v (.bool false))), some 4, none, false⟩]
def r_laws_eqExpr_1 : List GI := [⟨.fad 5 2 0, some 5, none, false⟩, ⟨.lod 6 5 none, some 6, none, false⟩, ⟨.fad 7 3 0, some 7, none, false⟩, ⟨.lod 8 7 none, some 8, none, false⟩, ⟨.bin 9 .neq (.t 6) (.t 8), some 9, none, false⟩]
def r_laws_eqExpr_2 : List GI := [⟨.mov 4 (.k (.v (.bool false))), some 4, none, false⟩]
def r_laws_eqExpr_3 : List GI := [⟨.fad 10 2 1, some 10, none, false⟩, ⟨.lod 11 10 none, some 11, none, false⟩, ⟨.fad 12 3 1, some 12, none, false⟩, ⟨.lod 13 12 none, some 13, none, false⟩, ⟨.bin 14 .neq (.t 11) (.t 13), some 14, none, false⟩]
def r_laws_eqExpr_4 : List GI := [⟨.mov 4 (.k (.v (.bool false))), some 4, none, false⟩]
def r_laws_eqExpr_5 : List GI := [⟨.fad 15 2 2, some 15, none, false⟩, ⟨.lod 16 15 (some 2), some 16, none, false⟩, ⟨.fad 17 3 2, some 17, none, false⟩, ⟨.lod 18 17 (some 2), some 18, none, false⟩, ⟨.call 19 40 [.t 16, .t 18], some 19, none, true⟩, ⟨.un 20 UnOp.not (.t 19), some 20, none, false⟩]
def r_laws_eqExpr_6 : List GI := [⟨.mov 4 (.k (.v (.bool false))), some 4, none, false⟩]
def r_laws_eqExpr_7 : List GI := [⟨.fad 21 2 4, some 21, none, false⟩, ⟨.lod 22 21 none, some 22, none, false⟩, ⟨.fad 23 3 4, some 23, none, false⟩, ⟨.lod 24 23 none, some 24, none, false⟩, ⟨.call 25 41 [.t 22, .t 24], some 25, none, true⟩, ⟨.un 26 UnOp.not (.t 25), some 26, none, false⟩]
def r_laws_eqExpr_8 : List GI := [⟨.mov 4 (.k (.v (.bool false))), some 4, none, false⟩]
def r_laws_eqExpr_9 : List GI := [⟨.mov 4 (.k (.v (.bool true))), some 4, none, false⟩]
def dc_laws_eqExpr : DC := .seq (.reg r_laws_eqExpr_0 none) (.seq (.seq (.reg r_laws_eqExpr_1 none) (.cond (.t 9) (.seq (.reg r_laws_eqExpr_2 none) .ret) .skip)) (.seq (.seq (.reg r_laws_eqExpr_3 none) (.cond (.t 14) (.seq (.reg r_laws_eqExpr_4 none) .ret) .skip)) (.seq (.seq (.reg r_laws_eqExpr_5 none) (.cond (.t 20) (.seq (.reg r_laws_eqExpr_6 none) .ret) .skip)) (.seq (.seq (.reg r_laws_eqExpr_7 none) (.cond (.t 26) (.seq (.reg r_laws_eqExpr_8 none) .ret) .skip)) (.seq (.reg r_laws_eqExpr_9 none) .ret)))))
theorem c_laws_eqExpr : cfun Try.prog [] 21 = some (27, dc_laws_eqExpr, [(Res.tmp 4)]) := by kernel_rfl
def r_laws_eqExprS_0 : List GI := [⟨.mov 4 (.k (.v (.bool false))), some 4, none, false⟩]
def r_laws_eqExprS_1 : List GI := [⟨.mov 6 (.t 0), some 6, none, false⟩, ⟨.len 7 (.t 6), some 7, none, false⟩, ⟨.mov 8 (.t 1), some 8, none, false⟩, ⟨.len 9 (.t 8), some 9, none, false⟩, ⟨.bin 10 .neq (.t 7) (.t 9), some 10, none, false⟩]
def r_laws_eqExprS_2 : List GI := [⟨.mov 4 (.k (.v (.bool false))), some 4, none, false⟩]
def r_laws_eqExprS_3 : List GI := [⟨.mov 5 (.k (.v (.int .i64 0))), some 5, none, false⟩]
def r_laws_eqExprS_4 : List GI := [⟨.mov 11 (.t 5), some 11, none, false⟩, ⟨.mov 12 (.t 0), some 12, none, false⟩, ⟨.len 13 (.t 12), some 13, none, false⟩, ⟨.bin 14 .lss (.t 11) (.t 13), some 14, none, false⟩]
def r_laws_eqExprS_5 : List GI := [⟨.mov 17 (.t 0), some 17, none, false⟩, ⟨.mov 18 (.t 5), some 18, none, false⟩, ⟨.iad 19 17 (.t 18) 5, some 19, none, false⟩, ⟨.lod 20 19 (some 5), some 20, none, false⟩, ⟨.mov 21 (.t 1), some 21, none, false⟩, ⟨.mov 22 (.t 5), some 22, none, false⟩, ⟨.iad 23 21 (.t 22) 5, some 23, none, false⟩, ⟨.lod 24 23 (some 5), some 24, none, false⟩, ⟨.call 25 21 [.t 20, .t 24], some 25, none, true⟩, ⟨.un 26 UnOp.not (.t 25), some 26, none, false⟩]
def r_laws_eqExprS_6 : List GI := [⟨.mov 4 (.k (.v (.bool false))), some 4, none, false⟩]
def r_laws_eqExprS_7 : List GI := [⟨.mov 15 (.t 5), some 15, none, false⟩, ⟨.bin 16 .add (.t 15) (.k (.v (.int .i64 1))), some 16, none, false⟩, ⟨.mov 5 (.t 16), some 5, none, false⟩]
def r_laws_eqExprS_8 : List GI := [⟨.mov 4 (.k (.v (.bool true))), some 4, none, false⟩]
def dc_laws_eqExprS : DC := .seq (.reg r_laws_eqExprS_0 none) (.seq (.seq (.reg r_laws_eqExprS_1 none) (.cond (.t 10) (.seq (.reg r_laws_eqExprS_2 none) .ret) .skip)) (.seq (.seq (.reg r_laws_eqExprS_3 none) (.block 0 (.loop (.seq (.seq (.reg r_laws_eqExprS_4 none) (.cond (.t 14) .skip (.exit 0))) (.seq (.block 1 (.seq (.reg r_laws_eqExprS_5 (some [0, 0, 3, 7, 0, 0, 48, 112, 255, 511])) (.cond (.t 26) (.seq (.reg r_laws_eqExprS_6 none) .ret) .skip))) (.reg r_laws_eqExprS_7 none)))))) (.seq (.reg r_laws_eqExprS_8 none) .ret)))
theorem c_laws_eqExprS : cfun Try.prog [] 41 = some (27, dc_laws_eqExprS, [(Res.tmp 4)]) := by kernel_rfl
def r_laws_eqValue_0 : List GI := [⟨.box 2 2000002 (.t 0) (some 2), some 2, none, false⟩, ⟨.box 3 2000003 (.t 1) (some 2), some 3, none, false⟩, ⟨.mov 4 (.k (.v (.bool false))), some 4, none, false⟩]
def r_laws_eqValue_1 : List GI := [⟨.fad 5 2 0, some 5, none, false⟩, ⟨.lod 6 5 none, some 6, none, false⟩, ⟨.fad 7 3 0, some 7, none, false⟩, ⟨.lod 8 7 none, some 8, none, false⟩, ⟨.beq 9 true (.t 6) (.t 8), some 9, none, false⟩]
def r_laws_eqValue_2 : List GI := [⟨.mov 4 (.k (.v (.bool false))), some 4, none, false⟩]
def r_laws_eqValue_3 : List GI := [⟨.fad 10 2 1, some 10, none, false⟩, ⟨.lod 11 10 none, some 11, none, false⟩, ⟨.fad 12 3 1, some 12, none, false⟩, ⟨.lod 13 12 none, some 13, none, false⟩, ⟨.bin 14 .neq (.t 11) (.t 13), some 14, none, false⟩]
def r_laws_eqValue_4 : List GI := [⟨.mov 4 (.k (.v (.bool false))), some 4, none, false⟩]
def r_laws_eqValue_5 : List GI := [⟨.mov 4 (.k (.v (.bool true))), some 4, none, false⟩]
def dc_laws_eqValue : DC := .seq (.reg r_laws_eqValue_0 none) (.seq (.seq (.reg r_laws_eqValue_1 none) (.cond (.t 9) (.seq (.reg r_laws_eqValue_2 none) .ret) .skip)) (.seq (.seq (.reg r_laws_eqValue_3 none) (.cond (.t 14) (.seq (.reg r_laws_eqValue_4 none) .ret) .skip)) (.seq (.reg r_laws_eqValue_5 none) .ret)))
theorem c_laws_eqValue : cfun Try.prog [] 40 = some (15, dc_laws_eqValue, [(Res.tmp 4)]) := by kernel_rfl
def r_laws_szExpr_0 : List GI := [⟨.box 2 2000002 (.t 0) (some 5), some 2, none, false⟩, ⟨.mov 4 (.k (.v (.int .i64 0))), some 4, none, false⟩]
def r_laws_szExpr_1 : List GI := [⟨.fad 5 2 4, some 5, none, false⟩, ⟨.lod 6 5 none, some 6, none, false⟩, ⟨.mov 7 (.t 1), some 7, none, false⟩, ⟨.call 8 37 [.t 6, .t 7], some 8, none, true⟩, ⟨.mov 1 (.t 8), some 1, none, false⟩]
def r_laws_szExpr_2 : List GI := [⟨.mov 9 (.t 1), some 9, none, false⟩, ⟨.bin 10 .lss (.t 9) (.k (.v (.int .i64 0))), some 10, none, false⟩]
def r_laws_szExpr_3 : List GI := [⟨.mov 4 (.k (.v (.int .i64 (-1)))), some 4, none, false⟩]
def r_laws_szExpr_4 : List GI := [⟨.mov 11 (.t 1), some 11, none, false⟩, ⟨.mov 4 (.t 11), some 4, none, false⟩]
def dc_laws_szExpr : DC := .seq (.reg r_laws_szExpr_0 none) (.seq (.reg r_laws_szExpr_1 none) (.seq (.seq (.reg r_laws_szExpr_2 none) (.cond (.t 10) (.seq (.reg r_laws_szExpr_3 none) .ret) .skip)) (.seq (.reg r_laws_szExpr_4 none) .ret)))
theorem c_laws_szExpr : cfun Try.prog [] 18 = some (12, dc_laws_szExpr, [(Res.tmp 4)]) := by kernel_rfl
def r_laws_szExprS_0 : List GI := [⟨.mov 4 (.k (.v (.int .i64 0))), some 4, none, false⟩]
def r_laws_szExprS_1 : List GI := [⟨.mov 6 (.t 1), some 6, none, false⟩, ⟨.mov 7 (.t 0), some 7, none, false⟩, ⟨.len 8 (.t 7), some 8, none, false⟩, ⟨.bin 9 .sub (.t 6) (.t 8), some 9, none, false⟩, ⟨.mov 1 (.t 9), some 1, none, false⟩]
def r_laws_szExprS_2 : List GI := [⟨.mov 10 (.t 1), some 10, none, false⟩, ⟨.bin 11 .lss (.t 10) (.k (.v (.int .i64 0))), some 11, none, false⟩]
def r_laws_szExprS_3 : List GI := [⟨.mov 4 (.k (.v (.int .i64 (-1)))), some 4, none, false⟩]
def r_laws_szExprS_4 : List GI := [⟨.mov 5 (.k (.v (.int .i64 0))), some 5, none, false⟩]
def r_laws_szExprS_5 : List GI := [⟨.mov 12 (.t 5), some 12, none, false⟩, ⟨.mov 13 (.t 0), some 13, none, false⟩, ⟨.len 14 (.t 13), some 14, none, false⟩, ⟨.bin 15 .lss (.t 12) (.t 14), some 15, none, false⟩]
def r_laws_szExprS_6 : List GI := [⟨.mov 18 (.t 0), some 18, none, false⟩, ⟨.mov 19 (.t 5), some 19, none, false⟩, ⟨.iad 20 18 (.t 19) 5, some 20, none, false⟩, ⟨.lod 21 20 (some 5), some 21, none, false⟩, ⟨.mov 22 (.t 1), some 22, none, false⟩, ⟨.call 23 18 [.t 21, .t 22], some 23, none, true⟩, ⟨.mov 1 (.t 23), some 1, none, false⟩]
def r_laws_szExprS_7 : List GI := [⟨.mov 24 (.t 1), some 24, none, false⟩, ⟨.bin 25 .lss (.t 24) (.k (.v (.int .i64 0))), some 25, none, false⟩]
def r_laws_szExprS_8 : List GI := [⟨.mov 4 (.k (.v (.int .i64 (-1)))), some 4, none, false⟩]
def r_laws_szExprS_9 : List GI := [⟨.mov 16 (.t 5), some 16, none, false⟩, ⟨.bin 17 .add (.t 16) (.k (.v (.int .i64 1))), some 17, none, false⟩, ⟨.mov 5 (.t 17), some 5, none, false⟩]
def r_laws_szExprS_10 : List GI := [⟨.mov 26 (.t 1), some 26, none, false⟩, ⟨.mov 4 (.t 26), some 4, none, false⟩]
def dc_laws_szExprS : DC := .seq (.reg r_laws_szExprS_0 none) (.seq (.reg r_laws_szExprS_1 none) (.seq (.seq (.reg r_laws_szExprS_2 none) (.cond (.t 11) (.seq (.reg r_laws_szExprS_3 none) .ret) .skip)) (.seq (.seq (.reg r_laws_szExprS_4 none) (.block 0 (.loop (.seq (.seq (.reg r_laws_szExprS_5 none) (.cond (.t 15) .skip (.exit 0))) (.seq (.block 1 (.seq (.reg r_laws_szExprS_6 none) (.seq (.reg r_laws_szExprS_7 none) (.cond (.t 25) (.seq (.reg r_laws_szExprS_8 none) .ret) .skip)))) (.reg r_laws_szExprS_9 none)))))) (.seq (.reg r_laws_szExprS_10 none) .ret))))
theorem c_laws_szExprS : cfun Try.prog [] 37 = some (27, dc_laws_szExprS, [(Res.tmp 4)]) := by kernel_rfl
def r_laws_toExpr_0 : List GI := [⟨.box 1 2000001 (.t 0) (some 5), some 1, none, false⟩, ⟨.alloc 2 2000002 [.v (.int .i64 0), .v (.int .i64 0), .v (.bool false), .v (.int .i64 0), .nul], some 2, none, false⟩]
def r_laws_toExpr_1 : List GI := [⟨.alloc 3 2000003 [.v (.int .i64 0), .v (.int .i64 0), .v (.bool false), .v (.int .i64 0), .nul], some 3, none, false⟩]
def r_laws_toExpr_2 : List GI := [⟨.fad 4 1 0, some 4, none, false⟩, ⟨.lod 5 4 none, some 5, none, false⟩, ⟨.fad 6 3 0, some 6, none, false⟩, ⟨.sto 6 (.t 5) none, none, none, false⟩]
def r_laws_toExpr_3 : List GI := [⟨.fad 7 1 1, some 7, none, false⟩, ⟨.lod 8 7 none, some 8, none, false⟩, ⟨.fad 9 3 1, some 9, none, false⟩, ⟨.sto 9 (.t 8) none, none, none, false⟩]
def r_laws_toExpr_4 : List GI := [⟨.fad 10 1 2, some 10, none, false⟩, ⟨.lod 11 10 (some 2), some 11, none, false⟩, ⟨.call 12 38 [.t 11], some 12, none, true⟩, ⟨.fad 13 3 2, some 13, none, false⟩, ⟨.sto 13 (.t 12) (some 2), none, none, false⟩]
def r_laws_toExpr_5 : List GI := [⟨.fad 14 1 4, some 14, none, false⟩, ⟨.lod 15 14 none, some 15, none, false⟩, ⟨.call 16 39 [.t 15], some 16, none, true⟩, ⟨.fad 17 3 4, some 17, none, false⟩, ⟨.sto 17 (.t 16) none, none, none, false⟩]
def r_laws_toExpr_6 : List GI := [⟨.lod 18 3 (some 5), some 18, none, false⟩, ⟨.sto 2 (.t 18) (some 5), none, none, false⟩]
def dc_laws_toExpr : DC := .seq (.reg r_laws_toExpr_0 none) (.seq (.reg r_laws_toExpr_1 none) (.seq (.reg r_laws_toExpr_2 none) (.seq (.reg r_laws_toExpr_3 none) (.seq (.reg r_laws_toExpr_4 none) (.seq (.reg r_laws_toExpr_5 none) (.seq (.reg r_laws_toExpr_6 none) .ret))))))
theorem c_laws_toExpr : cfun Try.prog [] 19 = some (19, dc_laws_toExpr, [(Res.cell 2 (some 5))]) := by kernel_rfl
def r_laws_toExprS_0 : List GI := [⟨.mov 2 (.k .nul), some 2, none, false⟩]
def r_laws_toExprS_1 : List GI := [⟨.mov 5 (.t 0), some 5, none, false⟩, ⟨.len 6 (.t 5), some 6, none, false⟩, ⟨.mks 7 2000007 (.t 6) 5 56 (.agg [.v (.int .i64 0), .v (.int .i64 0), .v (.bool false), .v (.int .i64 0), .nul]), some 7, none, false⟩, ⟨.mov 3 (.t 7), some 3, none, false⟩]
def r_laws_toExprS_2 : List GI := [⟨.mov 4 (.k (.v (.int .i64 0))), some 4, none, false⟩]
def r_laws_toExprS_3 : List GI := [⟨.mov 8 (.t 4), some 8, none, false⟩, ⟨.mov 9 (.t 0), some 9, none, false⟩, ⟨.len 10 (.t 9), some 10, none, false⟩, ⟨.bin 11 .lss (.t 8) (.t 10), some 11, none, false⟩]
def r_laws_toExprS_4 : List GI := [⟨.mov 14 (.t 3), some 14, none, false⟩, ⟨.mov 15 (.t 4), some 15, none, false⟩, ⟨.mov 16 (.t 0), some 16, none, false⟩, ⟨.mov 17 (.t 4), some 17, none, false⟩, ⟨.iad 18 16 (.t 17) 5, some 18, none, false⟩, ⟨.lod 19 18 (some 5), some 19, none, false⟩, ⟨.call 20 19 [.t 19], some 20, none, true⟩, ⟨.iad 21 14 (.t 15) 5, some 21, none, false⟩, ⟨.sto 21 (.t 20) (some 5), none, none, false⟩]
def r_laws_toExprS_5 : List GI := [⟨.mov 12 (.t 4), some 12, none, false⟩, ⟨.bin 13 .add (.t 12) (.k (.v (.int .i64 1))), some 13, none, false⟩, ⟨.mov 4 (.t 13), some 4, none, false⟩]
def r_laws_toExprS_6 : List GI := [⟨.mov 22 (.t 3), some 22, none, false⟩, ⟨.mov 2 (.t 22), some 2, none, false⟩]
def dc_laws_toExprS : DC := .seq (.reg r_laws_toExprS_0 none) (.seq (.reg r_laws_toExprS_1 none) (.seq (.seq (.reg r_laws_toExprS_2 none) (.block 0 (.loop (.seq (.seq (.reg r_laws_toExprS_3 none) (.cond (.t 11) .skip (.exit 0))) (.seq (.block 1 (.reg r_laws_toExprS_4 none)) (.reg r_laws_toExprS_5 none)))))) (.seq (.reg r_laws_toExprS_6 none) .ret)))
theorem c_laws_toExprS : cfun Try.prog [] 39 = some (23, dc_laws_toExprS, [(Res.tmp 2)]) := by kernel_rfl
def r_laws_toValue_0 : List GI := [⟨.box 1 2000001 (.t 0) (some 2), some 1, none, false⟩, ⟨.alloc 2 2000002 [.v (.bool false), .v (.int .i64 0)], some 2, none, false⟩]
def r_laws_toValue_1 : List GI := [⟨.alloc 3 2000003 [.v (.bool false), .v (.int .i64 0)], some 3, none, false⟩]
def r_laws_toValue_2 : List GI := [⟨.fad 4 1 0, some 4, none, false⟩, ⟨.lod 5 4 none, some 5, none, false⟩, ⟨.fad 6 3 0, some 6, none, false⟩, ⟨.sto 6 (.t 5) none, none, none, false⟩]
def r_laws_toValue_3 : List GI := [⟨.fad 7 1 1, some 7, none, false⟩, ⟨.lod 8 7 none, some 8, none, false⟩, ⟨.fad 9 3 1, some 9, none, false⟩, ⟨.sto 9 (.t 8) none, none, none, false⟩]
def r_laws_toValue_4 : List GI := [⟨.lod 10 3 (some 2), some 10, none, false⟩, ⟨.sto 2 (.t 10) (some 2), none, none, false⟩]
def dc_laws_toValue : DC := .seq (.reg r_laws_toValue_0 none) (.seq (.reg r_laws_toValue_1 none) (.seq (.reg r_laws_toValue_2 none) (.seq (.reg r_laws_toValue_3 none) (.seq (.reg r_laws_toValue_4 none) .ret))))
theorem c_laws_toValue : cfun Try.prog [] 38 = some (11, dc_laws_toValue, [(Res.cell 2 (some 2))]) := by kernel_rfl
end
end Go.Proofs.Ytnnbpekiaodcfaa
