/-
  Functions of the program read as code on plain data. Closed facts of the program alone.
-/
import Derived.Test.YtnakdmodegfibaaRows
import Derived.Test.YtnakdmodegfibaaVLib
import Derived.KernelRfl
namespace Go.Proofs.Ytnakdmodegfibaa
open Go.RowKit
noncomputable section
def r_impl_Bind_0 : List GI := [⟨.box 3 2000003 (.t 0) (some 5), some 3, none, false⟩, ⟨.alloc 6 2000006 [.v (.int .i64 0), .v (.int .i64 0), .v (.bool false), .v (.int .i64 0), .nul], some 6, none, false⟩, ⟨.mov 7 (.k (.v (.bool false))), some 7, none, false⟩]
def r_impl_Bind_1 : List GI := [⟨.mov 8 (.t 1), some 8, none, false⟩, ⟨.bin 9 .lss (.t 8) (.k (.v (.int .i64 1))), some 9, none, false⟩, ⟨.mov 10 (.t 9), some 10, none, false⟩, ⟨.mov 11 (.t 2), some 11, some (10, false), false⟩, ⟨.call 12 55 [.t 11], some 12, some (10, false), true⟩, ⟨.un 13 UnOp.not (.t 12), some 13, some (10, false), false⟩, ⟨.pick 14 (.t 10) (.k (.v (.bool true))) (.t 13), some 14, none, false⟩, ⟨.mov 15 (.t 14), some 15, none, false⟩, ⟨.lod 16 3 (some 5), some 16, some (15, false), false⟩, ⟨.mov 17 (.t 1), some 17, some (15, false), false⟩, ⟨.mov 18 (.t 2), some 18, some (15, false), false⟩, ⟨.len 19 (.t 18), some 19, some (15, false), false⟩, ⟨.bin 20 .add (.t 17) (.t 19), some 20, some (15, false), false⟩, ⟨.call 21 19 [.t 16, .t 20], some 21, some (15, false), true⟩, ⟨.un 22 UnOp.not (.t 21), some 22, some (15, false), false⟩, ⟨.pick 23 (.t 15) (.k (.v (.bool true))) (.t 22), some 23, none, false⟩]
def r_impl_Bind_2 : List GI := [⟨.build 24 [.v (.int .i64 0), .v (.int .i64 0), .v (.bool false), .v (.int .i64 0), .nul] [], some 24, none, false⟩, ⟨.sto 6 (.t 24) (some 5), none, none, false⟩, ⟨.mov 7 (.k (.v (.bool false))), some 7, none, false⟩]
def r_impl_Bind_3 : List GI := [⟨.lod 25 3 (some 5), some 25, none, false⟩, ⟨.mov 26 (.t 1), some 26, none, false⟩, ⟨.mov 27 (.t 2), some 27, none, false⟩, ⟨.build 28 [.v (.int .i64 0), .nul] [(0, (none, .t 26)), (1, (none, .t 27))], some 28, none, false⟩, ⟨.ifc 29 81 (.t 28), some 29, none, false⟩, ⟨.call 30 49 [.t 25, .t 29], some 30, none, true⟩, ⟨.sto 6 (.t 30) (some 5), none, none, false⟩, ⟨.mov 7 (.k (.v (.bool true))), some 7, none, false⟩]
def dc_impl_Bind : DC := .seq (.reg r_impl_Bind_0 none) (.seq (.seq (.reg r_impl_Bind_1 none) (.cond (.t 23) (.seq (.reg r_impl_Bind_2 none) .ret) .skip)) (.seq (.reg r_impl_Bind_3 none) .ret))
theorem c_impl_Bind : cfun Try.prog [] 28 = some (31, dc_impl_Bind, [(Res.cell 6 (some 5)), (Res.tmp 7)]) := by kernel_rfl
def r_impl_binder_visit_0 : List GI := [⟨.box 2 2000002 (.t 0) (some 2), some 2, none, false⟩, ⟨.box 3 2000003 (.t 1) (some 5), some 3, none, false⟩, ⟨.alloc 4 2000004 [.v (.int .i64 0), .v (.int .i64 0), .v (.bool false), .v (.int .i64 0), .nul], some 4, none, false⟩]
def r_impl_binder_visit_1 : List GI := [⟨.fad 5 3 0, some 5, none, false⟩, ⟨.lod 6 5 none, some 6, none, false⟩, ⟨.bin 7 .eql (.t 6) (.k (.v (.int .i64 1))), some 7, none, false⟩, ⟨.mov 8 (.t 7), some 8, none, false⟩, ⟨.fad 9 3 1, some 9, some (8, true), false⟩, ⟨.lod 10 9 none, some 10, some (8, true), false⟩, ⟨.fad 11 2 0, some 11, some (8, true), false⟩, ⟨.lod 12 11 none, some 12, some (8, true), false⟩, ⟨.bin 13 .geq (.t 10) (.t 12), some 13, some (8, true), false⟩, ⟨.pick 14 (.t 8) (.t 13) (.k (.v (.bool false))), some 14, none, false⟩]
def r_impl_binder_visit_2 : List GI := [⟨.fad 15 2 1, some 15, none, false⟩, ⟨.lod 16 15 none, some 16, none, false⟩, ⟨.fad 17 3 1, some 17, none, false⟩, ⟨.lod 18 17 none, some 18, none, false⟩, ⟨.fad 19 2 0, some 19, none, false⟩, ⟨.lod 20 19 none, some 20, none, false⟩, ⟨.bin 21 .sub (.t 18) (.t 20), some 21, none, false⟩, ⟨.iad 22 16 (.t 21) 2, some 22, none, false⟩, ⟨.lod 23 22 (some 2), some 23, none, false⟩, ⟨.call 24 99 [.t 23], some 24, none, true⟩, ⟨.sto 4 (.t 24) (some 5), none, none, false⟩]
def r_impl_binder_visit_3 : List GI := [⟨.lod 25 3 (some 5), some 25, none, false⟩, ⟨.sto 4 (.t 25) (some 5), none, none, false⟩]
def dc_impl_binder_visit : DC := .seq (.reg r_impl_binder_visit_0 none) (.seq (.seq (.reg r_impl_binder_visit_1 none) (.cond (.t 14) (.seq (.reg r_impl_binder_visit_2 none) .ret) .skip)) (.seq (.reg r_impl_binder_visit_3 none) .ret))
theorem c_impl_binder_visit : cfun Try.prog [] 106 = some (26, dc_impl_binder_visit, [(Res.cell 4 (some 5))]) := by kernel_rfl
def r_spec_columnsFrom_0 : List GI := [⟨.mov 4 (.k .nul), some 4, none, false⟩]
def r_spec_columnsFrom_1 : List GI := [⟨.mov 7 (.k .nul), some 7, none, false⟩, ⟨.mov 5 (.t 7), some 5, none, false⟩]
def r_spec_columnsFrom_2 : List GI := [⟨.mov 6 (.k (.v (.int .i64 0))), some 6, none, false⟩]
def r_spec_columnsFrom_3 : List GI := [⟨.mov 8 (.t 6), some 8, none, false⟩, ⟨.mov 9 (.t 1), some 9, none, false⟩, ⟨.bin 10 .lss (.t 8) (.t 9), some 10, none, false⟩]
def r_spec_columnsFrom_4 : List GI := [⟨.mov 13 (.t 5), some 13, none, false⟩, ⟨.mov 14 (.t 0), some 14, none, false⟩, ⟨.mov 15 (.t 6), some 15, none, false⟩, ⟨.bin 16 .add (.t 14) (.t 15), some 16, none, false⟩, ⟨.build 17 [.v (.int .i64 0), .v (.int .i64 0), .v (.bool false), .v (.int .i64 0), .nul] [(0, (none, .k (.v (.int .i64 1)))), (1, (none, .t 16))], some 17, none, false⟩, ⟨.bsl 18 5 (some 5) [.agg [.v (.int .i64 0), .v (.int .i64 0), .v (.bool false), .v (.int .i64 0), .nul]] [(0, .t 17)], some 18, none, false⟩, ⟨.app 19 2000019 (.t 13) (.t 18) 5 56, some 19, none, false⟩, ⟨.mov 5 (.t 19), some 5, none, false⟩]
def r_spec_columnsFrom_5 : List GI := [⟨.mov 11 (.t 6), some 11, none, false⟩, ⟨.bin 12 .add (.t 11) (.k (.v (.int .i64 1))), some 12, none, false⟩, ⟨.mov 6 (.t 12), some 6, none, false⟩]
def r_spec_columnsFrom_6 : List GI := [⟨.mov 20 (.t 5), some 20, none, false⟩, ⟨.mov 4 (.t 20), some 4, none, false⟩]
def dc_spec_columnsFrom : DC := .seq (.reg r_spec_columnsFrom_0 none) (.seq (.reg r_spec_columnsFrom_1 none) (.seq (.seq (.reg r_spec_columnsFrom_2 none) (.block 0 (.loop (.seq (.seq (.reg r_spec_columnsFrom_3 none) (.cond (.t 10) .skip (.exit 0))) (.seq (.block 1 (.reg r_spec_columnsFrom_4 none)) (.reg r_spec_columnsFrom_5 none)))))) (.seq (.reg r_spec_columnsFrom_6 none) .ret)))
theorem c_spec_columnsFrom : cfun Try.prog [] 58 = some (21, dc_spec_columnsFrom, [(Res.tmp 4)]) := by kernel_rfl
end
end Go.Proofs.Ytnakdmodegfibaa
