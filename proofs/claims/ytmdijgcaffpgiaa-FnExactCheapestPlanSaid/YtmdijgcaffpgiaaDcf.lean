/-
  Functions of the program read as code on plain data. Closed facts of the program alone.
-/
import Derived.Test.YtmdijgcaffpgiaaRows
import Derived.Test.YtmdijgcaffpgiaaVLib
import Derived.KernelRfl
namespace Go.Proofs.Ytmdijgcaffpgiaa
open Go.RowKit
noncomputable section
def r_impl_CheapestPlan_0 : List GI := [⟨.mov 4 (.k (.v (.int .i64 0))), some 4, none, false⟩]
def r_impl_CheapestPlan_1 : List GI := [⟨.mov 10 (.t 0), some 10, none, false⟩, ⟨.len 11 (.t 10), some 11, none, false⟩, ⟨.bin 12 .gtr (.t 11) (.k (.v (.int .i64 20))), some 12, none, false⟩]
def r_impl_CheapestPlan_2 : List GI := [⟨.mov 4 (.k (.v (.int .i64 (-1)))), some 4, none, false⟩]
def r_impl_CheapestPlan_3 : List GI := [⟨.mov 5 (.k (.v (.int .i64 (-1)))), some 5, none, false⟩, ⟨.mov 6 (.k (.v (.int .i64 (-1)))), some 6, none, false⟩]
def r_impl_CheapestPlan_4 : List GI := [⟨.mov 13 (.t 0), some 13, none, false⟩, ⟨.len 14 (.t 13), some 14, none, false⟩, ⟨.mov 15 (.k (.v (.int .i64 0))), some 15, none, false⟩]
def r_impl_CheapestPlan_5 : List GI := [⟨.bin 16 .lss (.t 15) (.t 14), some 16, none, false⟩]
def r_impl_CheapestPlan_6 : List GI := [⟨.mov 17 (.t 15), some 17, none, false⟩, ⟨.iad 18 13 (.t 15) 5, some 18, none, false⟩, ⟨.lod 19 18 (some 5), some 19, none, false⟩, ⟨.alloc 8 2000008 [.v (.int .i64 0), .v (.int .i64 0), .nul, .nul, .nul], some 8, none, false⟩, ⟨.mov 7 (.t 17), some 7, none, false⟩, ⟨.sto 8 (.t 19) (some 5), none, none, false⟩]
def r_impl_CheapestPlan_7 : List GI := [⟨.lod 20 8 (some 5), some 20, none, false⟩, ⟨.mov 21 (.t 1), some 21, none, false⟩, ⟨.call 22 28 [.t 20, .t 21], some 22, none, true⟩, ⟨.mov 9 (.t 22), some 9, none, false⟩]
def r_impl_CheapestPlan_8 : List GI := [⟨.mov 23 (.t 9), some 23, none, false⟩, ⟨.bin 24 .neq (.t 23) (.k (.v (.int .i64 (-1)))), some 24, none, false⟩, ⟨.mov 25 (.t 24), some 25, none, false⟩, ⟨.mov 26 (.t 5), some 26, some (25, true), false⟩, ⟨.bin 27 .eql (.t 26) (.k (.v (.int .i64 (-1)))), some 27, some (25, true), false⟩, ⟨.mov 28 (.t 27), some 28, some (25, true), false⟩, ⟨.mov 29 (.t 9), some 29, some (28, false), false⟩, ⟨.mov 30 (.t 6), some 30, some (28, false), false⟩, ⟨.bin 31 .lss (.t 29) (.t 30), some 31, some (28, false), false⟩, ⟨.pick 32 (.t 28) (.k (.v (.bool true))) (.t 31), some 32, some (25, true), false⟩, ⟨.pick 33 (.t 25) (.t 32) (.k (.v (.bool false))), some 33, none, false⟩]
def r_impl_CheapestPlan_9 : List GI := [⟨.mov 34 (.t 7), some 34, none, false⟩, ⟨.mov 35 (.t 9), some 35, none, false⟩, ⟨.mov 5 (.t 34), some 5, none, false⟩, ⟨.mov 6 (.t 35), some 6, none, false⟩]
def r_impl_CheapestPlan_10 : List GI := [⟨.bin 36 .add (.t 15) (.k (.v (.int .i64 1))), some 36, none, false⟩, ⟨.mov 15 (.t 36), some 15, none, false⟩]
def r_impl_CheapestPlan_11 : List GI := [⟨.mov 37 (.t 5), some 37, none, false⟩, ⟨.mov 4 (.t 37), some 4, none, false⟩]
def dc_impl_CheapestPlan : DC := .seq (.reg r_impl_CheapestPlan_0 none) (.seq (.seq (.reg r_impl_CheapestPlan_1 none) (.cond (.t 12) (.seq (.reg r_impl_CheapestPlan_2 none) .ret) .skip)) (.seq (.reg r_impl_CheapestPlan_3 none) (.seq (.seq (.reg r_impl_CheapestPlan_4 none) (.block 0 (.loop (.seq (.reg r_impl_CheapestPlan_5 none) (.seq (.cond (.t 16) .skip (.exit 0)) (.seq (.block 1 (.seq (.reg r_impl_CheapestPlan_6 none) (.seq (.reg r_impl_CheapestPlan_7 none) (.seq (.reg r_impl_CheapestPlan_8 none) (.cond (.t 33) (.reg r_impl_CheapestPlan_9 none) .skip))))) (.reg r_impl_CheapestPlan_10 none))))))) (.seq (.reg r_impl_CheapestPlan_11 none) .ret))))
theorem c_impl_CheapestPlan : cfun Try.prog [] 33 = some (38, dc_impl_CheapestPlan, [(Res.tmp 4)]) := by kernel_rfl
def r_spec_CheapestPlan_0 : List GI := [⟨.mov 4 (.k (.v (.int .i64 0))), some 4, none, false⟩]
def r_spec_CheapestPlan_1 : List GI := [⟨.mov 5 (.k (.v (.int .i64 (-1)))), some 5, none, false⟩]
def r_spec_CheapestPlan_2 : List GI := [⟨.mov 6 (.k (.v (.int .i64 0))), some 6, none, false⟩]
def r_spec_CheapestPlan_3 : List GI := [⟨.mov 9 (.t 0), some 9, none, false⟩, ⟨.len 10 (.t 9), some 10, none, false⟩, ⟨.bin 11 .gtr (.t 10) (.k (.v (.int .i64 20))), some 11, none, false⟩]
def r_spec_CheapestPlan_4 : List GI := [⟨.mov 4 (.k (.v (.int .i64 (-1)))), some 4, none, false⟩]
def r_spec_CheapestPlan_5 : List GI := [⟨.mov 7 (.k (.v (.int .i64 0))), some 7, none, false⟩]
def r_spec_CheapestPlan_6 : List GI := [⟨.mov 12 (.t 7), some 12, none, false⟩, ⟨.mov 13 (.t 0), some 13, none, false⟩, ⟨.len 14 (.t 13), some 14, none, false⟩, ⟨.bin 15 .lss (.t 12) (.t 14), some 15, none, false⟩]
def r_spec_CheapestPlan_7 : List GI := [⟨.mov 18 (.t 0), some 18, none, false⟩, ⟨.mov 19 (.t 7), some 19, none, false⟩, ⟨.iad 20 18 (.t 19) 5, some 20, none, false⟩, ⟨.lod 21 20 (some 5), some 21, none, false⟩, ⟨.mov 22 (.t 1), some 22, none, false⟩, ⟨.call 23 26 [.t 21, .t 22], some 23, none, true⟩, ⟨.mov 8 (.t 23), some 8, none, false⟩]
def r_spec_CheapestPlan_8 : List GI := [⟨.mov 24 (.t 8), some 24, none, false⟩, ⟨.bin 25 .geq (.t 24) (.k (.v (.int .i64 0))), some 25, none, false⟩, ⟨.mov 26 (.t 25), some 26, none, false⟩, ⟨.mov 27 (.t 5), some 27, some (26, true), false⟩, ⟨.bin 28 .lss (.t 27) (.k (.v (.int .i64 0))), some 28, some (26, true), false⟩, ⟨.mov 29 (.t 28), some 29, some (26, true), false⟩, ⟨.mov 30 (.t 8), some 30, some (29, false), false⟩, ⟨.mov 31 (.t 6), some 31, some (29, false), false⟩, ⟨.bin 32 .lss (.t 30) (.t 31), some 32, some (29, false), false⟩, ⟨.pick 33 (.t 29) (.k (.v (.bool true))) (.t 32), some 33, some (26, true), false⟩, ⟨.pick 34 (.t 26) (.t 33) (.k (.v (.bool false))), some 34, none, false⟩]
def r_spec_CheapestPlan_9 : List GI := [⟨.mov 35 (.t 7), some 35, none, false⟩, ⟨.mov 5 (.t 35), some 5, none, false⟩]
def r_spec_CheapestPlan_10 : List GI := [⟨.mov 36 (.t 8), some 36, none, false⟩, ⟨.mov 6 (.t 36), some 6, none, false⟩]
def r_spec_CheapestPlan_11 : List GI := [⟨.mov 16 (.t 7), some 16, none, false⟩, ⟨.bin 17 .add (.t 16) (.k (.v (.int .i64 1))), some 17, none, false⟩, ⟨.mov 7 (.t 17), some 7, none, false⟩]
def r_spec_CheapestPlan_12 : List GI := [⟨.mov 37 (.t 5), some 37, none, false⟩, ⟨.mov 4 (.t 37), some 4, none, false⟩]
def dc_spec_CheapestPlan : DC := .seq (.reg r_spec_CheapestPlan_0 none) (.seq (.reg r_spec_CheapestPlan_1 none) (.seq (.reg r_spec_CheapestPlan_2 none) (.seq (.seq (.reg r_spec_CheapestPlan_3 none) (.cond (.t 11) (.seq (.reg r_spec_CheapestPlan_4 none) .ret) .skip)) (.seq (.seq (.reg r_spec_CheapestPlan_5 none) (.block 0 (.loop (.seq (.seq (.reg r_spec_CheapestPlan_6 none) (.cond (.t 15) .skip (.exit 0))) (.seq (.block 1 (.seq (.reg r_spec_CheapestPlan_7 none) (.seq (.reg r_spec_CheapestPlan_8 none) (.cond (.t 34) (.seq (.reg r_spec_CheapestPlan_9 none) (.reg r_spec_CheapestPlan_10 none)) .skip)))) (.reg r_spec_CheapestPlan_11 none)))))) (.seq (.reg r_spec_CheapestPlan_12 none) .ret)))))
theorem c_spec_CheapestPlan : cfun Try.prog [] 31 = some (38, dc_spec_CheapestPlan, [(Res.tmp 4)]) := by kernel_rfl
def r_laws_eqStatsS_0 : List GI := [⟨.mov 4 (.k (.v (.bool false))), some 4, none, false⟩]
def r_laws_eqStatsS_1 : List GI := [⟨.mov 6 (.t 0), some 6, none, false⟩, ⟨.len 7 (.t 6), some 7, none, false⟩, ⟨.mov 8 (.t 1), some 8, none, false⟩, ⟨.len 9 (.t 8), some 9, none, false⟩, ⟨.bin 10 .neq (.t 7) (.t 9), some 10, none, false⟩]
def r_laws_eqStatsS_2 : List GI := [⟨.mov 4 (.k (.v (.bool false))), some 4, none, false⟩]
def r_laws_eqStatsS_3 : List GI := [⟨.mov 5 (.k (.v (.int .i64 0))), some 5, none, false⟩]
def r_laws_eqStatsS_4 : List GI := [⟨.mov 11 (.t 5), some 11, none, false⟩, ⟨.mov 12 (.t 0), some 12, none, false⟩, ⟨.len 13 (.t 12), some 13, none, false⟩, ⟨.bin 14 .lss (.t 11) (.t 13), some 14, none, false⟩]
def r_laws_eqStatsS_5 : List GI := [⟨.mov 17 (.t 0), some 17, none, false⟩, ⟨.mov 18 (.t 5), some 18, none, false⟩, ⟨.iad 19 17 (.t 18) 3, some 19, none, false⟩, ⟨.lod 20 19 (some 3), some 20, none, false⟩, ⟨.mov 21 (.t 1), some 21, none, false⟩, ⟨.mov 22 (.t 5), some 22, none, false⟩, ⟨.iad 23 21 (.t 22) 3, some 23, none, false⟩, ⟨.lod 24 23 (some 3), some 24, none, false⟩, ⟨.call 25 24 [.t 20, .t 24], some 25, none, true⟩, ⟨.un 26 UnOp.not (.t 25), some 26, none, false⟩]
def r_laws_eqStatsS_6 : List GI := [⟨.mov 4 (.k (.v (.bool false))), some 4, none, false⟩]
def r_laws_eqStatsS_7 : List GI := [⟨.mov 15 (.t 5), some 15, none, false⟩, ⟨.bin 16 .add (.t 15) (.k (.v (.int .i64 1))), some 16, none, false⟩, ⟨.mov 5 (.t 16), some 5, none, false⟩]
def r_laws_eqStatsS_8 : List GI := [⟨.mov 4 (.k (.v (.bool true))), some 4, none, false⟩]
def dc_laws_eqStatsS : DC := .seq (.reg r_laws_eqStatsS_0 none) (.seq (.seq (.reg r_laws_eqStatsS_1 none) (.cond (.t 10) (.seq (.reg r_laws_eqStatsS_2 none) .ret) .skip)) (.seq (.seq (.reg r_laws_eqStatsS_3 none) (.block 0 (.loop (.seq (.seq (.reg r_laws_eqStatsS_4 none) (.cond (.t 14) .skip (.exit 0))) (.seq (.block 1 (.seq (.reg r_laws_eqStatsS_5 (some [0, 0, 3, 7, 0, 0, 48, 112, 255, 511])) (.cond (.t 26) (.seq (.reg r_laws_eqStatsS_6 none) .ret) .skip))) (.reg r_laws_eqStatsS_7 none)))))) (.seq (.reg r_laws_eqStatsS_8 none) .ret)))
theorem c_laws_eqStatsS : cfun Try.prog [] 29 = some (27, dc_laws_eqStatsS, [(Res.tmp 4)]) := by kernel_rfl
def r_laws_szStatsS_0 : List GI := [⟨.mov 4 (.k (.v (.int .i64 0))), some 4, none, false⟩]
def r_laws_szStatsS_1 : List GI := [⟨.mov 6 (.t 1), some 6, none, false⟩, ⟨.mov 7 (.t 0), some 7, none, false⟩, ⟨.len 8 (.t 7), some 8, none, false⟩, ⟨.bin 9 .sub (.t 6) (.t 8), some 9, none, false⟩, ⟨.mov 1 (.t 9), some 1, none, false⟩]
def r_laws_szStatsS_2 : List GI := [⟨.mov 10 (.t 1), some 10, none, false⟩, ⟨.bin 11 .lss (.t 10) (.k (.v (.int .i64 0))), some 11, none, false⟩]
def r_laws_szStatsS_3 : List GI := [⟨.mov 4 (.k (.v (.int .i64 (-1)))), some 4, none, false⟩]
def r_laws_szStatsS_4 : List GI := [⟨.mov 5 (.k (.v (.int .i64 0))), some 5, none, false⟩]
def r_laws_szStatsS_5 : List GI := [⟨.mov 12 (.t 5), some 12, none, false⟩, ⟨.mov 13 (.t 0), some 13, none, false⟩, ⟨.len 14 (.t 13), some 14, none, false⟩, ⟨.bin 15 .lss (.t 12) (.t 14), some 15, none, false⟩]
def r_laws_szStatsS_6 : List GI := [⟨.mov 18 (.t 0), some 18, none, false⟩, ⟨.mov 19 (.t 5), some 19, none, false⟩, ⟨.iad 20 18 (.t 19) 3, some 20, none, false⟩, ⟨.lod 21 20 (some 3), some 21, none, false⟩, ⟨.mov 22 (.t 1), some 22, none, false⟩, ⟨.call 23 18 [.t 21, .t 22], some 23, none, true⟩, ⟨.mov 1 (.t 23), some 1, none, false⟩]
def r_laws_szStatsS_7 : List GI := [⟨.mov 24 (.t 1), some 24, none, false⟩, ⟨.bin 25 .lss (.t 24) (.k (.v (.int .i64 0))), some 25, none, false⟩]
def r_laws_szStatsS_8 : List GI := [⟨.mov 4 (.k (.v (.int .i64 (-1)))), some 4, none, false⟩]
def r_laws_szStatsS_9 : List GI := [⟨.mov 16 (.t 5), some 16, none, false⟩, ⟨.bin 17 .add (.t 16) (.k (.v (.int .i64 1))), some 17, none, false⟩, ⟨.mov 5 (.t 17), some 5, none, false⟩]
def r_laws_szStatsS_10 : List GI := [⟨.mov 26 (.t 1), some 26, none, false⟩, ⟨.mov 4 (.t 26), some 4, none, false⟩]
def dc_laws_szStatsS : DC := .seq (.reg r_laws_szStatsS_0 none) (.seq (.reg r_laws_szStatsS_1 none) (.seq (.seq (.reg r_laws_szStatsS_2 none) (.cond (.t 11) (.seq (.reg r_laws_szStatsS_3 none) .ret) .skip)) (.seq (.seq (.reg r_laws_szStatsS_4 none) (.block 0 (.loop (.seq (.seq (.reg r_laws_szStatsS_5 none) (.cond (.t 15) .skip (.exit 0))) (.seq (.block 1 (.seq (.reg r_laws_szStatsS_6 none) (.seq (.reg r_laws_szStatsS_7 none) (.cond (.t 25) (.seq (.reg r_laws_szStatsS_8 none) .ret) .skip)))) (.reg r_laws_szStatsS_9 none)))))) (.seq (.reg r_laws_szStatsS_10 none) .ret))))
theorem c_laws_szStatsS : cfun Try.prog [] 25 = some (27, dc_laws_szStatsS, [(Res.tmp 4)]) := by kernel_rfl
def r_laws_toStatsS_0 : List GI := [⟨.mov 2 (.k .nul), some 2, none, false⟩]
def r_laws_toStatsS_1 : List GI := [⟨.mov 5 (.t 0), some 5, none, false⟩, ⟨.len 6 (.t 5), some 6, none, false⟩, ⟨.mks 7 2000007 (.t 6) 3 56 (.agg [.v (.int .i64 0), .nul, .nul]), some 7, none, false⟩, ⟨.mov 3 (.t 7), some 3, none, false⟩]
def r_laws_toStatsS_2 : List GI := [⟨.mov 4 (.k (.v (.int .i64 0))), some 4, none, false⟩]
def r_laws_toStatsS_3 : List GI := [⟨.mov 8 (.t 4), some 8, none, false⟩, ⟨.mov 9 (.t 0), some 9, none, false⟩, ⟨.len 10 (.t 9), some 10, none, false⟩, ⟨.bin 11 .lss (.t 8) (.t 10), some 11, none, false⟩]
def r_laws_toStatsS_4 : List GI := [⟨.mov 14 (.t 3), some 14, none, false⟩, ⟨.mov 15 (.t 4), some 15, none, false⟩, ⟨.mov 16 (.t 0), some 16, none, false⟩, ⟨.mov 17 (.t 4), some 17, none, false⟩, ⟨.iad 18 16 (.t 17) 3, some 18, none, false⟩, ⟨.lod 19 18 (some 3), some 19, none, false⟩, ⟨.call 20 21 [.t 19], some 20, none, true⟩, ⟨.iad 21 14 (.t 15) 3, some 21, none, false⟩, ⟨.sto 21 (.t 20) (some 3), none, none, false⟩]
def r_laws_toStatsS_5 : List GI := [⟨.mov 12 (.t 4), some 12, none, false⟩, ⟨.bin 13 .add (.t 12) (.k (.v (.int .i64 1))), some 13, none, false⟩, ⟨.mov 4 (.t 13), some 4, none, false⟩]
def r_laws_toStatsS_6 : List GI := [⟨.mov 22 (.t 3), some 22, none, false⟩, ⟨.mov 2 (.t 22), some 2, none, false⟩]
def dc_laws_toStatsS : DC := .seq (.reg r_laws_toStatsS_0 none) (.seq (.reg r_laws_toStatsS_1 none) (.seq (.seq (.reg r_laws_toStatsS_2 none) (.block 0 (.loop (.seq (.seq (.reg r_laws_toStatsS_3 none) (.cond (.t 11) .skip (.exit 0))) (.seq (.block 1 (.reg r_laws_toStatsS_4 none)) (.reg r_laws_toStatsS_5 none)))))) (.seq (.reg r_laws_toStatsS_6 none) .ret)))
theorem c_laws_toStatsS : cfun Try.prog [] 27 = some (23, dc_laws_toStatsS, [(Res.tmp 2)]) := by kernel_rfl
end
end Go.Proofs.Ytmdijgcaffpgiaa
