/-
  Functions of the program read as code on plain data. Closed facts of the program alone.
-/
import Derived.Test.YtmdijgcaffpgiaaRows
import Derived.Test.YtmdijgcaffpgiaaVLib
import Derived.KernelRfl
namespace Go.Proofs.Ytmdijgcaffpgiaa
open Go.RowKit
noncomputable section
def r_impl_Selectivity_0 : List GI := [⟨.box 2 2000002 (.t 0) (some 5), some 2, none, false⟩, ⟨.box 3 2000003 (.t 1) (some 3), some 3, none, false⟩, ⟨.mov 4 (.k (.v (.int .i64 0))), some 4, none, false⟩]
def r_impl_Selectivity_1 : List GI := [⟨.fad 6 3 1, some 6, none, false⟩, ⟨.lod 7 6 none, some 7, none, false⟩, ⟨.len 8 (.t 7), some 8, none, false⟩, ⟨.mov 5 (.t 8), some 5, none, false⟩]
def r_impl_Selectivity_2 : List GI := [⟨.lod 9 3 (some 3), some 9, none, false⟩, ⟨.mov 10 (.t 5), some 10, none, false⟩, ⟨.call 11 48 [.t 9, .t 10], some 11, none, true⟩, ⟨.un 12 UnOp.not (.t 11), some 12, none, false⟩, ⟨.mov 13 (.t 12), some 13, none, false⟩, ⟨.lod 14 2 (some 5), some 14, some (13, false), false⟩, ⟨.mov 15 (.t 5), some 15, some (13, false), false⟩, ⟨.call 16 49 [.t 14, .t 15], some 16, some (13, false), true⟩, ⟨.un 17 UnOp.not (.t 16), some 17, some (13, false), false⟩, ⟨.pick 18 (.t 13) (.k (.v (.bool true))) (.t 17), some 18, none, false⟩]
def r_impl_Selectivity_3 : List GI := [⟨.mov 4 (.k (.v (.int .i64 (-1)))), some 4, none, false⟩]
def r_impl_Selectivity_4 : List GI := [⟨.lod 19 3 (some 3), some 19, none, false⟩, ⟨.lod 20 2 (some 5), some 20, none, false⟩, ⟨.call 21 50 [.t 19, .t 20], some 21, none, true⟩, ⟨.mov 4 (.t 21), some 4, none, false⟩]
def dc_impl_Selectivity : DC := .seq (.reg r_impl_Selectivity_0 none) (.seq (.reg r_impl_Selectivity_1 none) (.seq (.seq (.reg r_impl_Selectivity_2 none) (.cond (.t 18) (.seq (.reg r_impl_Selectivity_3 none) .ret) .skip)) (.seq (.reg r_impl_Selectivity_4 none) .ret)))
theorem c_impl_Selectivity : cfun Try.prog [] 22 = some (22, dc_impl_Selectivity, [(Res.tmp 4)]) := by kernel_rfl
def r_laws_FnExactSelectivity_0 : List GI := [⟨.box 2 2000002 (.t 0) (some 5), some 2, none, false⟩, ⟨.box 3 2000003 (.t 1) (some 3), some 3, none, false⟩, ⟨.mov 4 (.k (.v (.bool false))), some 4, none, false⟩]
def r_laws_FnExactSelectivity_1 : List GI := [⟨.mov 5 (.k (.v (.int .i64 1048576))), some 5, none, false⟩]
def r_laws_FnExactSelectivity_2 : List GI := [⟨.lod 10 2 (some 5), some 10, none, false⟩, ⟨.mov 11 (.t 5), some 11, none, false⟩, ⟨.call 12 17 [.t 10, .t 11], some 12, none, true⟩, ⟨.mov 5 (.t 12), some 5, none, false⟩]
def r_laws_FnExactSelectivity_3 : List GI := [⟨.mov 13 (.t 5), some 13, none, false⟩, ⟨.bin 14 .lss (.t 13) (.k (.v (.int .i64 0))), some 14, none, false⟩]
def r_laws_FnExactSelectivity_4 : List GI := [⟨.mov 4 (.k (.v (.bool true))), some 4, none, false⟩]
def r_laws_FnExactSelectivity_5 : List GI := [⟨.lod 15 3 (some 3), some 15, none, false⟩, ⟨.mov 16 (.t 5), some 16, none, false⟩, ⟨.call 17 18 [.t 15, .t 16], some 17, none, true⟩, ⟨.mov 5 (.t 17), some 5, none, false⟩]
def r_laws_FnExactSelectivity_6 : List GI := [⟨.mov 18 (.t 5), some 18, none, false⟩, ⟨.bin 19 .lss (.t 18) (.k (.v (.int .i64 0))), some 19, none, false⟩]
def r_laws_FnExactSelectivity_7 : List GI := [⟨.mov 4 (.k (.v (.bool true))), some 4, none, false⟩]
def r_laws_FnExactSelectivity_8 : List GI := [⟨.lod 20 2 (some 5), some 20, none, false⟩, ⟨.call 21 20 [.t 20], some 21, none, true⟩, ⟨.lod 22 3 (some 3), some 22, none, false⟩, ⟨.call 23 21 [.t 22], some 23, none, true⟩, ⟨.call 24 19 [.t 21, .t 23], some 24, none, true⟩, ⟨.mov 6 (.t 24), some 6, none, false⟩]
def r_laws_FnExactSelectivity_9 : List GI := [⟨.lod 25 2 (some 5), some 25, none, false⟩, ⟨.call 26 20 [.t 25], some 26, none, true⟩, ⟨.alloc 7 2000007 [.v (.int .i64 0), .v (.int .i64 0), .v (.bool false), .v (.int .i64 0), .nul], some 7, none, false⟩, ⟨.sto 7 (.t 26) (some 5), none, none, false⟩]
def r_laws_FnExactSelectivity_10 : List GI := [⟨.lod 27 3 (some 3), some 27, none, false⟩, ⟨.call 28 21 [.t 27], some 28, none, true⟩, ⟨.alloc 8 2000008 [.v (.int .i64 0), .nul, .nul], some 8, none, false⟩, ⟨.sto 8 (.t 28) (some 3), none, none, false⟩]
def r_laws_FnExactSelectivity_11 : List GI := [⟨.lod 29 7 (some 5), some 29, none, false⟩, ⟨.lod 30 8 (some 3), some 30, none, false⟩, ⟨.call 31 22 [.t 29, .t 30], some 31, none, true⟩, ⟨.mov 9 (.t 31), some 9, none, false⟩]
def r_laws_FnExactSelectivity_12 : List GI := [⟨.mov 32 (.t 9), some 32, none, false⟩, ⟨.mov 33 (.t 6), some 33, none, false⟩, ⟨.bin 34 .neq (.t 32) (.t 33), some 34, none, false⟩]
def r_laws_FnExactSelectivity_13 : List GI := [⟨.mov 4 (.k (.v (.bool false))), some 4, none, false⟩]
def r_laws_FnExactSelectivity_14 : List GI := [⟨.lod 35 7 (some 5), some 35, none, false⟩, ⟨.lod 36 2 (some 5), some 36, none, false⟩, ⟨.call 37 20 [.t 36], some 37, none, true⟩, ⟨.call 38 23 [.t 35, .t 37], some 38, none, true⟩, ⟨.un 39 UnOp.not (.t 38), some 39, none, false⟩]
def r_laws_FnExactSelectivity_15 : List GI := [⟨.mov 4 (.k (.v (.bool false))), some 4, none, false⟩]
def r_laws_FnExactSelectivity_16 : List GI := [⟨.lod 40 8 (some 3), some 40, none, false⟩, ⟨.lod 41 3 (some 3), some 41, none, false⟩, ⟨.call 42 21 [.t 41], some 42, none, true⟩, ⟨.call 43 24 [.t 40, .t 42], some 43, none, true⟩, ⟨.un 44 UnOp.not (.t 43), some 44, none, false⟩]
def r_laws_FnExactSelectivity_17 : List GI := [⟨.mov 4 (.k (.v (.bool false))), some 4, none, false⟩]
def r_laws_FnExactSelectivity_18 : List GI := [⟨.mov 4 (.k (.v (.bool true))), some 4, none, false⟩]
def dc_laws_FnExactSelectivity : DC := .seq (.reg r_laws_FnExactSelectivity_0 none) (.seq (.reg r_laws_FnExactSelectivity_1 none) (.seq (.reg r_laws_FnExactSelectivity_2 none) (.seq (.seq (.reg r_laws_FnExactSelectivity_3 none) (.cond (.t 14) (.seq (.reg r_laws_FnExactSelectivity_4 none) .ret) .skip)) (.seq (.reg r_laws_FnExactSelectivity_5 none) (.seq (.seq (.reg r_laws_FnExactSelectivity_6 none) (.cond (.t 19) (.seq (.reg r_laws_FnExactSelectivity_7 none) .ret) .skip)) (.seq (.reg r_laws_FnExactSelectivity_8 (some [0, 1, 0, 7, 15, 31])) (.seq (.reg r_laws_FnExactSelectivity_9 none) (.seq (.reg r_laws_FnExactSelectivity_10 none) (.seq (.reg r_laws_FnExactSelectivity_11 none) (.seq (.seq (.reg r_laws_FnExactSelectivity_12 none) (.cond (.t 34) (.seq (.reg r_laws_FnExactSelectivity_13 none) .ret) .skip)) (.seq (.seq (.reg r_laws_FnExactSelectivity_14 (some [0, 0, 2, 7, 15])) (.cond (.t 39) (.seq (.reg r_laws_FnExactSelectivity_15 none) .ret) .skip)) (.seq (.seq (.reg r_laws_FnExactSelectivity_16 (some [0, 0, 2, 7, 15])) (.cond (.t 44) (.seq (.reg r_laws_FnExactSelectivity_17 none) .ret) .skip)) (.seq (.reg r_laws_FnExactSelectivity_18 none) .ret)))))))))))))
theorem c_laws_FnExactSelectivity : cfun Try.prog [] 5 = some (45, dc_laws_FnExactSelectivity, [(Res.tmp 4)]) := by kernel_rfl
def r_spec_Selectivity_0 : List GI := [⟨.box 2 2000002 (.t 0) (some 5), some 2, none, false⟩, ⟨.box 3 2000003 (.t 1) (some 3), some 3, none, false⟩, ⟨.mov 4 (.k (.v (.int .i64 0))), some 4, none, false⟩]
def r_spec_Selectivity_1 : List GI := [⟨.lod 5 3 (some 3), some 5, none, false⟩, ⟨.fad 6 3 1, some 6, none, false⟩, ⟨.lod 7 6 none, some 7, none, false⟩, ⟨.len 8 (.t 7), some 8, none, false⟩, ⟨.call 9 44 [.t 5, .t 8], some 9, none, true⟩, ⟨.un 10 UnOp.not (.t 9), some 10, none, false⟩, ⟨.mov 11 (.t 10), some 11, none, false⟩, ⟨.lod 12 2 (some 5), some 12, some (11, false), false⟩, ⟨.fad 13 3 1, some 13, some (11, false), false⟩, ⟨.lod 14 13 none, some 14, some (11, false), false⟩, ⟨.len 15 (.t 14), some 15, some (11, false), false⟩, ⟨.call 16 45 [.t 12, .t 15], some 16, some (11, false), true⟩, ⟨.un 17 UnOp.not (.t 16), some 17, some (11, false), false⟩, ⟨.pick 18 (.t 11) (.k (.v (.bool true))) (.t 17), some 18, none, false⟩]
def r_spec_Selectivity_2 : List GI := [⟨.mov 4 (.k (.v (.int .i64 (-1)))), some 4, none, false⟩]
def r_spec_Selectivity_3 : List GI := [⟨.lod 19 2 (some 5), some 19, none, false⟩, ⟨.lod 20 3 (some 3), some 20, none, false⟩, ⟨.call 21 46 [.t 19, .t 20], some 21, none, true⟩, ⟨.mov 4 (.t 21), some 4, none, false⟩]
def dc_spec_Selectivity : DC := .seq (.reg r_spec_Selectivity_0 none) (.seq (.seq (.reg r_spec_Selectivity_1 none) (.cond (.t 18) (.seq (.reg r_spec_Selectivity_2 none) .ret) .skip)) (.seq (.reg r_spec_Selectivity_3 none) .ret))
theorem c_spec_Selectivity : cfun Try.prog [] 19 = some (22, dc_spec_Selectivity, [(Res.tmp 4)]) := by kernel_rfl
end
end Go.Proofs.Ytmdijgcaffpgiaa
