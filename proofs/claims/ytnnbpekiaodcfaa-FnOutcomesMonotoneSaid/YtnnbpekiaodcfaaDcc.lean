/-
  Functions of the program read as code on plain data. Closed facts of the program alone.
-/
import Derived.Test.YtnnbpekiaodcfaaRows
import Derived.Test.YtnnbpekiaodcfaaVLib
import Derived.KernelRfl
namespace Go.Proofs.Ytnnbpekiaodcfaa
open Go.RowKit
noncomputable section
def r_impl_sumTerm_value_0 : List GI := [⟨.box 2 2000002 (.t 0) (some 2), some 2, none, false⟩, ⟨.alloc 4 2000004 [.v (.bool false), .v (.int .i64 0)], some 4, none, false⟩]
def r_impl_sumTerm_value_1 : List GI := [⟨.fad 5 2 0, some 5, none, false⟩, ⟨.lod 6 5 (some 2), some 6, none, false⟩, ⟨.mov 7 (.t 1), some 7, none, false⟩, ⟨.call 8 104 [.t 6, .t 7, .k (.fn 105 [])], some 8, none, true⟩, ⟨.sto 4 (.t 8) (some 2), none, none, false⟩]
def dc_impl_sumTerm_value : DC := .seq (.reg r_impl_sumTerm_value_0 none) (.seq (.reg r_impl_sumTerm_value_1 none) .ret)
theorem c_impl_sumTerm_value : cfun Try.prog [] 103 = some (9, dc_impl_sumTerm_value, [(Res.cell 4 (some 2))]) := by kernel_rfl
def r_impl_sumTerm_value_1_0 : List GI := [⟨.mov 4 (.k (.v (.int .i64 0))), some 4, none, false⟩]
def r_impl_sumTerm_value_1_1 : List GI := [⟨.mov 5 (.t 0), some 5, none, false⟩, ⟨.mov 6 (.t 1), some 6, none, false⟩, ⟨.bin 7 .add (.t 5) (.t 6), some 7, none, false⟩, ⟨.mov 4 (.t 7), some 4, none, false⟩]
def dc_impl_sumTerm_value_1 : DC := .seq (.reg r_impl_sumTerm_value_1_0 none) (.seq (.reg r_impl_sumTerm_value_1_1 none) .ret)
theorem c_impl_sumTerm_value_1 : cfun Try.prog [] 105 = some (8, dc_impl_sumTerm_value_1, [(Res.tmp 4)]) := by kernel_rfl
def r_impl_termOf_0 : List GI := [⟨.box 1 2000001 (.t 0) (some 5), some 1, none, false⟩, ⟨.mov 2 (.k (.v .nilIface)), some 2, none, false⟩]
def r_impl_termOf_1 : List GI := [⟨.fad 3 1 0, some 3, none, false⟩, ⟨.lod 4 3 none, some 4, none, false⟩]
def r_impl_termOf_2 : List GI := [⟨.bin 6 .eql (.t 4) (.k (.v (.int .i64 1))), some 6, none, false⟩, ⟨.mov 5 (.t 6), some 5, none, false⟩]
def r_impl_termOf_3 : List GI := [⟨.fad 7 1 1, some 7, none, false⟩, ⟨.lod 8 7 none, some 8, none, false⟩, ⟨.build 9 [.v (.int .i64 0)] [(0, (none, .t 8))], some 9, none, false⟩, ⟨.ifc 10 84 (.t 9), some 10, none, false⟩, ⟨.mov 2 (.t 10), some 2, none, false⟩]
def r_impl_termOf_4 : List GI := [⟨.bin 12 .eql (.t 4) (.k (.v (.int .i64 2))), some 12, none, false⟩, ⟨.mov 11 (.t 12), some 11, none, false⟩]
def r_impl_termOf_5 : List GI := [⟨.fad 13 1 2, some 13, none, false⟩, ⟨.lod 14 13 (some 2), some 14, none, false⟩, ⟨.build 15 [.v (.bool false), .v (.int .i64 0)] [(0, (some 2, .t 14))], some 15, none, false⟩, ⟨.ifc 16 86 (.t 15), some 16, none, false⟩, ⟨.mov 2 (.t 16), some 2, none, false⟩]
def r_impl_termOf_6 : List GI := [⟨.bin 18 .eql (.t 4) (.k (.v (.int .i64 10))), some 18, none, false⟩, ⟨.mov 17 (.t 18), some 17, none, false⟩]
def r_impl_termOf_7 : List GI := [⟨.fad 19 1 4, some 19, none, false⟩, ⟨.lod 20 19 none, some 20, none, false⟩, ⟨.iad 21 20 (.k (.v (.int .i64 0))) 5, some 21, none, false⟩, ⟨.lod 22 21 (some 5), some 22, none, false⟩, ⟨.call 23 33 [.t 22], some 23, none, true⟩, ⟨.build 24 [.v .nilIface] [(0, (none, .t 23))], some 24, none, false⟩, ⟨.ifc 25 88 (.t 24), some 25, none, false⟩, ⟨.mov 2 (.t 25), some 2, none, false⟩]
def r_impl_termOf_8 : List GI := [⟨.bin 27 .eql (.t 4) (.k (.v (.int .i64 11))), some 27, none, false⟩, ⟨.mov 26 (.t 27), some 26, none, false⟩]
def r_impl_termOf_9 : List GI := [⟨.fad 28 1 4, some 28, none, false⟩, ⟨.lod 29 28 none, some 29, none, false⟩, ⟨.iad 30 29 (.k (.v (.int .i64 0))) 5, some 30, none, false⟩, ⟨.lod 31 30 (some 5), some 31, none, false⟩, ⟨.call 32 33 [.t 31], some 32, none, true⟩, ⟨.build 33 [.v .nilIface] [(0, (none, .t 32))], some 33, none, false⟩, ⟨.ifc 34 89 (.t 33), some 34, none, false⟩, ⟨.mov 2 (.t 34), some 2, none, false⟩]
def r_impl_termOf_10 : List GI := [⟨.fad 35 1 0, some 35, none, false⟩, ⟨.lod 36 35 none, some 36, none, false⟩, ⟨.fad 37 1 4, some 37, none, false⟩, ⟨.lod 38 37 none, some 38, none, false⟩, ⟨.iad 39 38 (.k (.v (.int .i64 0))) 5, some 39, none, false⟩, ⟨.lod 40 39 (some 5), some 40, none, false⟩, ⟨.call 41 33 [.t 40], some 41, none, true⟩, ⟨.fad 42 1 4, some 42, none, false⟩, ⟨.lod 43 42 none, some 43, none, false⟩, ⟨.iad 44 43 (.k (.v (.int .i64 1))) 5, some 44, none, false⟩, ⟨.lod 45 44 (some 5), some 45, none, false⟩, ⟨.call 46 33 [.t 45], some 46, none, true⟩, ⟨.build 47 [.v .nilIface, .v .nilIface] [(0, (none, .t 41)), (1, (none, .t 46))], some 47, none, false⟩, ⟨.call 48 59 [.t 36, .t 47], some 48, none, true⟩, ⟨.mov 2 (.t 48), some 2, none, false⟩]
def dc_impl_termOf : DC := .seq (.reg r_impl_termOf_0 none) (.seq (.seq (.reg r_impl_termOf_1 none) (.block 0 (.seq (.reg r_impl_termOf_2 none) (.cond (.t 5) (.seq (.reg r_impl_termOf_3 none) .ret) (.seq (.reg r_impl_termOf_4 none) (.cond (.t 11) (.seq (.reg r_impl_termOf_5 none) .ret) (.seq (.reg r_impl_termOf_6 none) (.cond (.t 17) (.seq (.reg r_impl_termOf_7 none) .ret) (.seq (.reg r_impl_termOf_8 none) (.cond (.t 26) (.seq (.reg r_impl_termOf_9 none) .ret) .skip)))))))))) (.seq (.reg r_impl_termOf_10 (some [0, 1, 0, 4, 12, 28, 60, 0, 128, 384, 896, 2044, 4092, 8191, 16383])) .ret))
theorem c_impl_termOf : cfun Try.prog [] 33 = some (49, dc_impl_termOf, [(Res.tmp 2)]) := by kernel_rfl
def r_impl_truthOf_0 : List GI := [⟨.mov 2 (.k (.v (.int .i64 0))), some 2, none, false⟩]
def r_impl_truthOf_1 : List GI := [⟨.mov 3 (.t 0), some 3, none, false⟩]
def r_impl_truthOf_2 : List GI := [⟨.mov 2 (.k (.v (.int .i64 2))), some 2, none, false⟩]
def r_impl_truthOf_3 : List GI := [⟨.mov 2 (.k (.v (.int .i64 0))), some 2, none, false⟩]
def dc_impl_truthOf : DC := .seq (.reg r_impl_truthOf_0 none) (.seq (.seq (.reg r_impl_truthOf_1 none) (.cond (.t 3) (.seq (.reg r_impl_truthOf_2 none) .ret) .skip)) (.seq (.reg r_impl_truthOf_3 none) .ret))
theorem c_impl_truthOf : cfun Try.prog [] 101 = some (4, dc_impl_truthOf, [(Res.tmp 2)]) := by kernel_rfl
def r_impl_truth_not_0 : List GI := [⟨.mov 2 (.k (.v (.int .i64 0))), some 2, none, false⟩]
def r_impl_truth_not_1 : List GI := [⟨.mov 3 (.t 0), some 3, none, false⟩, ⟨.bin 4 .sub (.k (.v (.int .i64 2))) (.t 3), some 4, none, false⟩, ⟨.mov 2 (.t 4), some 2, none, false⟩]
def dc_impl_truth_not : DC := .seq (.reg r_impl_truth_not_0 none) (.seq (.reg r_impl_truth_not_1 none) .ret)
theorem c_impl_truth_not : cfun Try.prog [] 71 = some (5, dc_impl_truth_not, [(Res.tmp 2)]) := by kernel_rfl
def r_impl_truth_value_0 : List GI := [⟨.alloc 2 2000002 [.v (.bool false), .v (.int .i64 0)], some 2, none, false⟩]
def r_impl_truth_value_1 : List GI := [⟨.mov 3 (.t 0), some 3, none, false⟩]
def r_impl_truth_value_2 : List GI := [⟨.bin 5 .eql (.t 3) (.k (.v (.int .i64 0))), some 5, none, false⟩, ⟨.mov 4 (.t 5), some 4, none, false⟩]
def r_impl_truth_value_3 : List GI := [⟨.build 6 [.v (.bool false), .v (.int .i64 0)] [(1, (none, .k (.v (.int .i64 0))))], some 6, none, false⟩, ⟨.sto 2 (.t 6) (some 2), none, none, false⟩]
def r_impl_truth_value_4 : List GI := [⟨.bin 8 .eql (.t 3) (.k (.v (.int .i64 2))), some 8, none, false⟩, ⟨.mov 7 (.t 8), some 7, none, false⟩]
def r_impl_truth_value_5 : List GI := [⟨.build 9 [.v (.bool false), .v (.int .i64 0)] [(1, (none, .k (.v (.int .i64 1))))], some 9, none, false⟩, ⟨.sto 2 (.t 9) (some 2), none, none, false⟩]
def r_impl_truth_value_6 : List GI := [⟨.build 10 [.v (.bool false), .v (.int .i64 0)] [(0, (none, .k (.v (.bool true))))], some 10, none, false⟩, ⟨.sto 2 (.t 10) (some 2), none, none, false⟩]
def dc_impl_truth_value : DC := .seq (.reg r_impl_truth_value_0 none) (.seq (.seq (.reg r_impl_truth_value_1 none) (.block 0 (.seq (.reg r_impl_truth_value_2 none) (.cond (.t 4) (.seq (.reg r_impl_truth_value_3 none) .ret) (.seq (.reg r_impl_truth_value_4 none) (.cond (.t 7) (.seq (.reg r_impl_truth_value_5 none) .ret) .skip)))))) (.seq (.reg r_impl_truth_value_6 none) .ret))
theorem c_impl_truth_value : cfun Try.prog [] 72 = some (11, dc_impl_truth_value, [(Res.cell 2 (some 2))]) := by kernel_rfl
def r_impl_negatedStates_0 : List GI := [⟨.mov 2 (.k (.v (.int .i64 0))), some 2, none, false⟩]
def r_impl_negatedStates_1 : List GI := [⟨.mov 3 (.k (.v (.int .i64 0))), some 3, none, false⟩]
def r_impl_negatedStates_2 : List GI := [⟨.mov 6 (.t 0), some 6, none, false⟩, ⟨.call 7 70 [.t 6], some 7, none, true⟩, ⟨.len 8 (.t 7), some 8, none, false⟩, ⟨.mov 9 (.k (.v (.int .i64 0))), some 9, none, false⟩]
def r_impl_negatedStates_3 : List GI := [⟨.bin 10 .lss (.t 9) (.t 8), some 10, none, false⟩]
def r_impl_negatedStates_4 : List GI := [⟨.iad 11 7 (.t 9) 1, some 11, none, false⟩, ⟨.lod 12 11 none, some 12, none, false⟩, ⟨.mov 5 (.t 12), some 5, none, false⟩]
def r_impl_negatedStates_5 : List GI := [⟨.mov 13 (.t 3), some 13, none, false⟩, ⟨.mov 14 (.t 5), some 14, none, false⟩, ⟨.call 15 71 [.t 14], some 15, none, true⟩, ⟨.call 16 72 [.t 15], some 16, none, true⟩, ⟨.call 17 46 [.t 16], some 17, none, true⟩, ⟨.bin 18 .or (.t 13) (.t 17), some 18, none, false⟩, ⟨.mov 3 (.t 18), some 3, none, false⟩]
def r_impl_negatedStates_6 : List GI := [⟨.bin 19 .add (.t 9) (.k (.v (.int .i64 1))), some 19, none, false⟩, ⟨.mov 9 (.t 19), some 9, none, false⟩]
def r_impl_negatedStates_7 : List GI := [⟨.mov 20 (.t 3), some 20, none, false⟩, ⟨.mov 2 (.t 20), some 2, none, false⟩]
def dc_impl_negatedStates : DC := .seq (.reg r_impl_negatedStates_0 none) (.seq (.reg r_impl_negatedStates_1 none) (.seq (.seq (.reg r_impl_negatedStates_2 none) (.block 0 (.loop (.seq (.reg r_impl_negatedStates_3 none) (.seq (.cond (.t 10) .skip (.exit 0)) (.seq (.block 1 (.seq (.reg r_impl_negatedStates_4 none) (.reg r_impl_negatedStates_5 none))) (.reg r_impl_negatedStates_6 none))))))) (.seq (.reg r_impl_negatedStates_7 none) .ret)))
theorem c_impl_negatedStates : cfun Try.prog [] 47 = some (21, dc_impl_negatedStates, [(Res.tmp 2)]) := by kernel_rfl
def r_impl_stateOf_0 : List GI := [⟨.box 1 2000001 (.t 0) (some 2), some 1, none, false⟩, ⟨.mov 2 (.k (.v (.int .i64 0))), some 2, none, false⟩]
def r_impl_stateOf_1 : List GI := [⟨.lod 3 1 (some 2), some 3, none, false⟩, ⟨.call 4 69 [.t 3], some 4, none, true⟩]
def r_impl_stateOf_2 : List GI := [⟨.bin 6 .eql (.t 4) (.k (.v (.int .i64 0))), some 6, none, false⟩, ⟨.mov 5 (.t 6), some 5, none, false⟩]
def r_impl_stateOf_3 : List GI := [⟨.mov 2 (.k (.v (.int .i64 1))), some 2, none, false⟩]
def r_impl_stateOf_4 : List GI := [⟨.bin 8 .eql (.t 4) (.k (.v (.int .i64 2))), some 8, none, false⟩, ⟨.mov 7 (.t 8), some 7, none, false⟩]
def r_impl_stateOf_5 : List GI := [⟨.mov 2 (.k (.v (.int .i64 2))), some 2, none, false⟩]
def r_impl_stateOf_6 : List GI := [⟨.mov 2 (.k (.v (.int .i64 4))), some 2, none, false⟩]
def dc_impl_stateOf : DC := .seq (.reg r_impl_stateOf_0 none) (.seq (.seq (.reg r_impl_stateOf_1 none) (.block 0 (.seq (.reg r_impl_stateOf_2 none) (.cond (.t 5) (.seq (.reg r_impl_stateOf_3 none) .ret) (.seq (.reg r_impl_stateOf_4 none) (.cond (.t 7) (.seq (.reg r_impl_stateOf_5 none) .ret) .skip)))))) (.seq (.reg r_impl_stateOf_6 none) .ret))
theorem c_impl_stateOf : cfun Try.prog [] 46 = some (9, dc_impl_stateOf, [(Res.tmp 2)]) := by kernel_rfl
def r_impl_truthsOf_0 : List GI := [⟨.mov 2 (.k .nul), some 2, none, false⟩]
def r_impl_truthsOf_1 : List GI := [⟨.mov 3 (.k .nul), some 3, none, false⟩]
def r_impl_truthsOf_2 : List GI := [⟨.bsl 6 1 none [.v (.int .i64 0), .v (.int .i64 0), .v (.int .i64 0)] [(0, .k (.v (.int .i64 0))), (1, .k (.v (.int .i64 1))), (2, .k (.v (.int .i64 2)))], some 6, none, false⟩, ⟨.len 7 (.t 6), some 7, none, false⟩, ⟨.mov 8 (.k (.v (.int .i64 0))), some 8, none, false⟩]
def r_impl_truthsOf_3 : List GI := [⟨.bin 9 .lss (.t 8) (.t 7), some 9, none, false⟩]
def r_impl_truthsOf_4 : List GI := [⟨.iad 10 6 (.t 8) 1, some 10, none, false⟩, ⟨.lod 11 10 none, some 11, none, false⟩, ⟨.mov 5 (.t 11), some 5, none, false⟩]
def r_impl_truthsOf_5 : List GI := [⟨.mov 12 (.t 0), some 12, none, false⟩, ⟨.mov 13 (.t 5), some 13, none, false⟩, ⟨.call 14 72 [.t 13], some 14, none, true⟩, ⟨.call 15 46 [.t 14], some 15, none, true⟩, ⟨.bin 16 .and (.t 12) (.t 15), some 16, none, false⟩, ⟨.bin 17 .neq (.t 16) (.k (.v (.int .i64 0))), some 17, none, false⟩]
def r_impl_truthsOf_6 : List GI := [⟨.mov 18 (.t 3), some 18, none, false⟩, ⟨.mov 19 (.t 5), some 19, none, false⟩, ⟨.bsl 20 1 none [.v (.int .i64 0)] [(0, .t 19)], some 20, none, false⟩, ⟨.app 21 2000021 (.t 18) (.t 20) 1 8, some 21, none, false⟩, ⟨.mov 3 (.t 21), some 3, none, false⟩]
def r_impl_truthsOf_7 : List GI := [⟨.bin 22 .add (.t 8) (.k (.v (.int .i64 1))), some 22, none, false⟩, ⟨.mov 8 (.t 22), some 8, none, false⟩]
def r_impl_truthsOf_8 : List GI := [⟨.mov 23 (.t 3), some 23, none, false⟩, ⟨.mov 2 (.t 23), some 2, none, false⟩]
def dc_impl_truthsOf : DC := .seq (.reg r_impl_truthsOf_0 none) (.seq (.reg r_impl_truthsOf_1 none) (.seq (.seq (.reg r_impl_truthsOf_2 none) (.block 0 (.loop (.seq (.reg r_impl_truthsOf_3 none) (.seq (.cond (.t 9) .skip (.exit 0)) (.seq (.block 1 (.seq (.reg r_impl_truthsOf_4 none) (.seq (.reg r_impl_truthsOf_5 none) (.cond (.t 17) (.reg r_impl_truthsOf_6 none) .skip)))) (.reg r_impl_truthsOf_7 none))))))) (.seq (.reg r_impl_truthsOf_8 none) .ret)))
theorem c_impl_truthsOf : cfun Try.prog [] 70 = some (24, dc_impl_truthsOf, [(Res.tmp 2)]) := by kernel_rfl
def r_spec_stateOf_0 : List GI := [⟨.box 1 2000001 (.t 0) (some 2), some 1, none, false⟩, ⟨.mov 2 (.k (.v (.int .i64 0))), some 2, none, false⟩]
def r_spec_stateOf_1 : List GI := [⟨.fad 4 1 0, some 4, none, false⟩, ⟨.lod 5 4 none, some 5, none, false⟩, ⟨.mov 3 (.t 5), some 3, none, false⟩]
def r_spec_stateOf_2 : List GI := [⟨.mov 2 (.k (.v (.int .i64 4))), some 2, none, false⟩]
def r_spec_stateOf_3 : List GI := [⟨.fad 7 1 1, some 7, none, false⟩, ⟨.lod 8 7 none, some 8, none, false⟩, ⟨.bin 9 .eql (.t 8) (.k (.v (.int .i64 0))), some 9, none, false⟩, ⟨.mov 6 (.t 9), some 6, none, false⟩]
def r_spec_stateOf_4 : List GI := [⟨.mov 2 (.k (.v (.int .i64 1))), some 2, none, false⟩]
def r_spec_stateOf_5 : List GI := [⟨.mov 2 (.k (.v (.int .i64 2))), some 2, none, false⟩]
def dc_spec_stateOf : DC := .seq (.reg r_spec_stateOf_0 none) (.seq (.block 0 (.seq (.reg r_spec_stateOf_1 none) (.cond (.t 3) (.seq (.reg r_spec_stateOf_2 none) .ret) (.seq (.reg r_spec_stateOf_3 none) (.cond (.t 6) (.seq (.reg r_spec_stateOf_4 none) .ret) .skip))))) (.seq (.reg r_spec_stateOf_5 none) .ret))
theorem c_spec_stateOf : cfun Try.prog [] 56 = some (10, dc_spec_stateOf, [(Res.tmp 2)]) := by kernel_rfl
def r_spec_valueOf_0 : List GI := [⟨.alloc 2 2000002 [.v (.bool false), .v (.int .i64 0)], some 2, none, false⟩]
def r_spec_valueOf_1 : List GI := [⟨.mov 3 (.t 0), some 3, none, false⟩]
def r_spec_valueOf_2 : List GI := [⟨.bin 5 .eql (.t 3) (.k (.v (.int .i64 4))), some 5, none, false⟩, ⟨.mov 4 (.t 5), some 4, none, false⟩]
def r_spec_valueOf_3 : List GI := [⟨.build 6 [.v (.bool false), .v (.int .i64 0)] [(0, (none, .k (.v (.bool true))))], some 6, none, false⟩, ⟨.sto 2 (.t 6) (some 2), none, none, false⟩]
def r_spec_valueOf_4 : List GI := [⟨.bin 8 .eql (.t 3) (.k (.v (.int .i64 2))), some 8, none, false⟩, ⟨.mov 7 (.t 8), some 7, none, false⟩]
def r_spec_valueOf_5 : List GI := [⟨.build 9 [.v (.bool false), .v (.int .i64 0)] [(1, (none, .k (.v (.int .i64 1))))], some 9, none, false⟩, ⟨.sto 2 (.t 9) (some 2), none, none, false⟩]
def r_spec_valueOf_6 : List GI := [⟨.build 10 [.v (.bool false), .v (.int .i64 0)] [], some 10, none, false⟩, ⟨.sto 2 (.t 10) (some 2), none, none, false⟩]
def dc_spec_valueOf : DC := .seq (.reg r_spec_valueOf_0 none) (.seq (.seq (.reg r_spec_valueOf_1 none) (.block 0 (.seq (.reg r_spec_valueOf_2 none) (.cond (.t 4) (.seq (.reg r_spec_valueOf_3 none) .ret) (.seq (.reg r_spec_valueOf_4 none) (.cond (.t 7) (.seq (.reg r_spec_valueOf_5 none) .ret) .skip)))))) (.seq (.reg r_spec_valueOf_6 none) .ret))
theorem c_spec_valueOf : cfun Try.prog [] 75 = some (11, dc_spec_valueOf, [(Res.cell 2 (some 2))]) := by kernel_rfl
def r_impl_truthStates_0 : List GI := [⟨.mov 6 (.k (.v (.int .i64 0))), some 6, none, false⟩]
def r_impl_truthStates_1 : List GI := [⟨.mov 7 (.k (.v (.int .i64 0))), some 7, none, false⟩]
def r_impl_truthStates_2 : List GI := [⟨.mov 12 (.t 0), some 12, none, false⟩, ⟨.call 13 70 [.t 12], some 13, none, true⟩, ⟨.len 14 (.t 13), some 14, none, false⟩, ⟨.mov 15 (.k (.v (.int .i64 0))), some 15, none, false⟩]
def r_impl_truthStates_3 : List GI := [⟨.bin 16 .lss (.t 15) (.t 14), some 16, none, false⟩]
def r_impl_truthStates_4 : List GI := [⟨.iad 17 13 (.t 15) 1, some 17, none, false⟩, ⟨.lod 18 17 none, some 18, none, false⟩, ⟨.mov 9 (.t 18), some 9, none, false⟩]
def r_impl_truthStates_5 : List GI := [⟨.mov 19 (.t 1), some 19, none, false⟩, ⟨.call 20 70 [.t 19], some 20, none, true⟩, ⟨.len 21 (.t 20), some 21, none, false⟩, ⟨.mov 22 (.k (.v (.int .i64 0))), some 22, none, false⟩]
def r_impl_truthStates_6 : List GI := [⟨.bin 23 .lss (.t 22) (.t 21), some 23, none, false⟩]
def r_impl_truthStates_7 : List GI := [⟨.iad 24 20 (.t 22) 1, some 24, none, false⟩, ⟨.lod 25 24 none, some 25, none, false⟩, ⟨.mov 11 (.t 25), some 11, none, false⟩]
def r_impl_truthStates_8 : List GI := [⟨.mov 26 (.t 7), some 26, none, false⟩, ⟨.mov 27 (.t 2), some 27, none, false⟩, ⟨.mov 28 (.t 9), some 28, none, false⟩, ⟨.mov 29 (.t 11), some 29, none, false⟩, ⟨.cal 30 (.t 27) [.t 28, .t 29], some 30, none, true⟩, ⟨.call 31 72 [.t 30], some 31, none, true⟩, ⟨.call 32 46 [.t 31], some 32, none, true⟩, ⟨.bin 33 .or (.t 26) (.t 32), some 33, none, false⟩, ⟨.mov 7 (.t 33), some 7, none, false⟩]
def r_impl_truthStates_9 : List GI := [⟨.bin 34 .add (.t 22) (.k (.v (.int .i64 1))), some 34, none, false⟩, ⟨.mov 22 (.t 34), some 22, none, false⟩]
def r_impl_truthStates_10 : List GI := [⟨.bin 35 .add (.t 15) (.k (.v (.int .i64 1))), some 35, none, false⟩, ⟨.mov 15 (.t 35), some 15, none, false⟩]
def r_impl_truthStates_11 : List GI := [⟨.mov 36 (.t 7), some 36, none, false⟩, ⟨.mov 6 (.t 36), some 6, none, false⟩]
def dc_impl_truthStates : DC := .seq (.reg r_impl_truthStates_0 none) (.seq (.reg r_impl_truthStates_1 none) (.seq (.seq (.reg r_impl_truthStates_2 none) (.block 0 (.loop (.seq (.reg r_impl_truthStates_3 none) (.seq (.cond (.t 16) .skip (.exit 0)) (.seq (.block 1 (.seq (.reg r_impl_truthStates_4 none) (.seq (.reg r_impl_truthStates_5 none) (.block 2 (.loop (.seq (.reg r_impl_truthStates_6 none) (.seq (.cond (.t 23) .skip (.exit 2)) (.seq (.block 3 (.seq (.reg r_impl_truthStates_7 none) (.reg r_impl_truthStates_8 none))) (.reg r_impl_truthStates_9 none))))))))) (.reg r_impl_truthStates_10 none))))))) (.seq (.reg r_impl_truthStates_11 none) .ret)))
theorem c_impl_truthStates : cfun Try.prog [] 49 = some (37, dc_impl_truthStates, [(Res.tmp 6)]) := by kernel_rfl
def r_spec_truthStates_0 : List GI := [⟨.mov 6 (.k (.v (.int .i64 0))), some 6, none, false⟩]
def r_spec_truthStates_1 : List GI := [⟨.mov 7 (.k (.v (.int .i64 0))), some 7, none, false⟩]
def r_spec_truthStates_2 : List GI := [⟨.mov 8 (.k (.v (.int .i64 1))), some 8, none, false⟩]
def r_spec_truthStates_3 : List GI := [⟨.mov 10 (.t 8), some 10, none, false⟩, ⟨.bin 11 .leq (.t 10) (.k (.v (.int .i64 4))), some 11, none, false⟩]
def r_spec_truthStates_4 : List GI := [⟨.mov 9 (.k (.v (.int .i64 1))), some 9, none, false⟩]
def r_spec_truthStates_5 : List GI := [⟨.mov 14 (.t 9), some 14, none, false⟩, ⟨.bin 15 .leq (.t 14) (.k (.v (.int .i64 4))), some 15, none, false⟩]
def r_spec_truthStates_6 : List GI := [⟨.mov 18 (.t 1), some 18, none, false⟩, ⟨.mov 19 (.t 8), some 19, none, false⟩, ⟨.bin 20 .quo (.t 18) (.t 19), some 20, none, false⟩, ⟨.bin 21 .rem (.t 20) (.k (.v (.int .i64 2))), some 21, none, false⟩, ⟨.bin 22 .eql (.t 21) (.k (.v (.int .i64 1))), some 22, none, false⟩, ⟨.mov 23 (.t 22), some 23, none, false⟩, ⟨.mov 24 (.t 2), some 24, some (23, true), false⟩, ⟨.mov 25 (.t 9), some 25, some (23, true), false⟩, ⟨.bin 26 .quo (.t 24) (.t 25), some 26, some (23, true), false⟩, ⟨.bin 27 .rem (.t 26) (.k (.v (.int .i64 2))), some 27, some (23, true), false⟩, ⟨.bin 28 .eql (.t 27) (.k (.v (.int .i64 1))), some 28, some (23, true), false⟩, ⟨.pick 29 (.t 23) (.t 28) (.k (.v (.bool false))), some 29, none, false⟩]
def r_spec_truthStates_7 : List GI := [⟨.mov 30 (.t 7), some 30, none, false⟩, ⟨.mov 31 (.t 0), some 31, none, false⟩, ⟨.mov 32 (.t 8), some 32, none, false⟩, ⟨.call 33 75 [.t 32], some 33, none, true⟩, ⟨.mov 34 (.t 9), some 34, none, false⟩, ⟨.call 35 75 [.t 34], some 35, none, true⟩, ⟨.call 36 74 [.t 31, .t 33, .t 35], some 36, none, true⟩, ⟨.call 37 56 [.t 36], some 37, none, true⟩, ⟨.bin 38 .or (.t 30) (.t 37), some 38, none, false⟩, ⟨.mov 7 (.t 38), some 7, none, false⟩]
def r_spec_truthStates_8 : List GI := [⟨.mov 16 (.t 9), some 16, none, false⟩, ⟨.bin 17 .mul (.k (.v (.int .i64 2))) (.t 16), some 17, none, false⟩, ⟨.mov 9 (.t 17), some 9, none, false⟩]
def r_spec_truthStates_9 : List GI := [⟨.mov 12 (.t 8), some 12, none, false⟩, ⟨.bin 13 .mul (.k (.v (.int .i64 2))) (.t 12), some 13, none, false⟩, ⟨.mov 8 (.t 13), some 8, none, false⟩]
def r_spec_truthStates_10 : List GI := [⟨.mov 39 (.t 7), some 39, none, false⟩, ⟨.mov 6 (.t 39), some 6, none, false⟩]
def dc_spec_truthStates : DC := .seq (.reg r_spec_truthStates_0 none) (.seq (.reg r_spec_truthStates_1 none) (.seq (.seq (.reg r_spec_truthStates_2 none) (.block 0 (.loop (.seq (.seq (.reg r_spec_truthStates_3 none) (.cond (.t 11) .skip (.exit 0))) (.seq (.block 1 (.seq (.reg r_spec_truthStates_4 none) (.block 2 (.loop (.seq (.seq (.reg r_spec_truthStates_5 none) (.cond (.t 15) .skip (.exit 2))) (.seq (.block 3 (.seq (.reg r_spec_truthStates_6 none) (.cond (.t 29) (.reg r_spec_truthStates_7 none) .skip))) (.reg r_spec_truthStates_8 none))))))) (.reg r_spec_truthStates_9 none)))))) (.seq (.reg r_spec_truthStates_10 none) .ret)))
theorem c_spec_truthStates : cfun Try.prog [] 57 = some (40, dc_spec_truthStates, [(Res.tmp 6)]) := by kernel_rfl
def r_impl_arithmeticStates_0 : List GI := [⟨.mov 4 (.k (.v (.int .i64 0))), some 4, none, false⟩]
def r_impl_arithmeticStates_1 : List GI := [⟨.mov 6 (.t 0), some 6, none, false⟩, ⟨.mov 7 (.t 1), some 7, none, false⟩, ⟨.call 8 52 [.t 6, .t 7], some 8, none, true⟩, ⟨.mov 5 (.t 8), some 5, none, false⟩]
def r_impl_arithmeticStates_2 : List GI := [⟨.mov 9 (.t 5), some 9, none, false⟩, ⟨.bin 10 .and (.t 9) (.k (.v (.int .i64 3))), some 10, none, false⟩, ⟨.bin 11 .neq (.t 10) (.k (.v (.int .i64 0))), some 11, none, false⟩]
def r_impl_arithmeticStates_3 : List GI := [⟨.mov 12 (.t 5), some 12, none, false⟩, ⟨.bin 13 .or (.t 12) (.k (.v (.int .i64 4))), some 13, none, false⟩, ⟨.mov 5 (.t 13), some 5, none, false⟩]
def r_impl_arithmeticStates_4 : List GI := [⟨.mov 14 (.t 5), some 14, none, false⟩, ⟨.mov 4 (.t 14), some 4, none, false⟩]
def dc_impl_arithmeticStates : DC := .seq (.reg r_impl_arithmeticStates_0 none) (.seq (.reg r_impl_arithmeticStates_1 none) (.seq (.seq (.reg r_impl_arithmeticStates_2 none) (.cond (.t 11) (.reg r_impl_arithmeticStates_3 none) .skip)) (.seq (.reg r_impl_arithmeticStates_4 none) .ret)))
theorem c_impl_arithmeticStates : cfun Try.prog [] 53 = some (15, dc_impl_arithmeticStates, [(Res.tmp 4)]) := by kernel_rfl
def r_impl_comparisonStates_0 : List GI := [⟨.mov 4 (.k (.v (.int .i64 0))), some 4, none, false⟩]
def r_impl_comparisonStates_1 : List GI := [⟨.mov 6 (.t 0), some 6, none, false⟩, ⟨.mov 7 (.t 1), some 7, none, false⟩, ⟨.bin 8 .or (.t 6) (.t 7), some 8, none, false⟩, ⟨.bin 9 .and (.t 8) (.k (.v (.int .i64 4))), some 9, none, false⟩, ⟨.mov 5 (.t 9), some 5, none, false⟩]
def r_impl_comparisonStates_2 : List GI := [⟨.mov 10 (.t 0), some 10, none, false⟩, ⟨.bin 11 .and (.t 10) (.k (.v (.int .i64 3))), some 11, none, false⟩, ⟨.bin 12 .neq (.t 11) (.k (.v (.int .i64 0))), some 12, none, false⟩, ⟨.mov 13 (.t 12), some 13, none, false⟩, ⟨.mov 14 (.t 1), some 14, some (13, true), false⟩, ⟨.bin 15 .and (.t 14) (.k (.v (.int .i64 3))), some 15, some (13, true), false⟩, ⟨.bin 16 .neq (.t 15) (.k (.v (.int .i64 0))), some 16, some (13, true), false⟩, ⟨.pick 17 (.t 13) (.t 16) (.k (.v (.bool false))), some 17, none, false⟩]
def r_impl_comparisonStates_3 : List GI := [⟨.mov 18 (.t 5), some 18, none, false⟩, ⟨.bin 19 .or (.t 18) (.k (.v (.int .i64 3))), some 19, none, false⟩, ⟨.mov 5 (.t 19), some 5, none, false⟩]
def r_impl_comparisonStates_4 : List GI := [⟨.mov 20 (.t 5), some 20, none, false⟩, ⟨.mov 4 (.t 20), some 4, none, false⟩]
def dc_impl_comparisonStates : DC := .seq (.reg r_impl_comparisonStates_0 none) (.seq (.reg r_impl_comparisonStates_1 none) (.seq (.seq (.reg r_impl_comparisonStates_2 none) (.cond (.t 17) (.reg r_impl_comparisonStates_3 none) .skip)) (.seq (.reg r_impl_comparisonStates_4 none) .ret)))
theorem c_impl_comparisonStates : cfun Try.prog [] 52 = some (21, dc_impl_comparisonStates, [(Res.tmp 4)]) := by kernel_rfl
def r_impl_nullTestStates_0 : List GI := [⟨.mov 2 (.k (.v (.int .i64 0))), some 2, none, false⟩]
def r_impl_nullTestStates_1 : List GI := [⟨.mov 3 (.k (.v (.int .i64 0))), some 3, none, false⟩]
def r_impl_nullTestStates_2 : List GI := [⟨.mov 4 (.t 0), some 4, none, false⟩, ⟨.bin 5 .and (.t 4) (.k (.v (.int .i64 4))), some 5, none, false⟩, ⟨.bin 6 .neq (.t 5) (.k (.v (.int .i64 0))), some 6, none, false⟩]
def r_impl_nullTestStates_3 : List GI := [⟨.mov 7 (.t 3), some 7, none, false⟩, ⟨.bin 8 .or (.t 7) (.k (.v (.int .i64 2))), some 8, none, false⟩, ⟨.mov 3 (.t 8), some 3, none, false⟩]
def r_impl_nullTestStates_4 : List GI := [⟨.mov 9 (.t 0), some 9, none, false⟩, ⟨.bin 10 .and (.t 9) (.k (.v (.int .i64 3))), some 10, none, false⟩, ⟨.bin 11 .neq (.t 10) (.k (.v (.int .i64 0))), some 11, none, false⟩]
def r_impl_nullTestStates_5 : List GI := [⟨.mov 12 (.t 3), some 12, none, false⟩, ⟨.bin 13 .or (.t 12) (.k (.v (.int .i64 1))), some 13, none, false⟩, ⟨.mov 3 (.t 13), some 3, none, false⟩]
def r_impl_nullTestStates_6 : List GI := [⟨.mov 14 (.t 3), some 14, none, false⟩, ⟨.mov 2 (.t 14), some 2, none, false⟩]
def dc_impl_nullTestStates : DC := .seq (.reg r_impl_nullTestStates_0 none) (.seq (.reg r_impl_nullTestStates_1 none) (.seq (.seq (.reg r_impl_nullTestStates_2 none) (.cond (.t 6) (.reg r_impl_nullTestStates_3 none) .skip)) (.seq (.seq (.reg r_impl_nullTestStates_4 none) (.cond (.t 11) (.reg r_impl_nullTestStates_5 none) .skip)) (.seq (.reg r_impl_nullTestStates_6 none) .ret))))
theorem c_impl_nullTestStates : cfun Try.prog [] 48 = some (15, dc_impl_nullTestStates, [(Res.tmp 2)]) := by kernel_rfl
def r_impl_outcomes_1_0 : List GI := [⟨.mov 4 (.k (.v (.int .i64 0))), some 4, none, false⟩]
def r_impl_outcomes_1_1 : List GI := [⟨.mov 5 (.t 0), some 5, none, false⟩, ⟨.mov 6 (.t 1), some 6, none, false⟩, ⟨.mm 7 false (.t 5) (.t 6), some 7, none, false⟩, ⟨.mov 4 (.t 7), some 4, none, false⟩]
def dc_impl_outcomes_1 : DC := .seq (.reg r_impl_outcomes_1_0 none) (.seq (.reg r_impl_outcomes_1_1 none) .ret)
theorem c_impl_outcomes_1 : cfun Try.prog [] 50 = some (8, dc_impl_outcomes_1, [(Res.tmp 4)]) := by kernel_rfl
def r_impl_outcomes_2_0 : List GI := [⟨.mov 4 (.k (.v (.int .i64 0))), some 4, none, false⟩]
def r_impl_outcomes_2_1 : List GI := [⟨.mov 5 (.t 0), some 5, none, false⟩, ⟨.mov 6 (.t 1), some 6, none, false⟩, ⟨.mm 7 true (.t 5) (.t 6), some 7, none, false⟩, ⟨.mov 4 (.t 7), some 4, none, false⟩]
def dc_impl_outcomes_2 : DC := .seq (.reg r_impl_outcomes_2_0 none) (.seq (.reg r_impl_outcomes_2_1 none) .ret)
theorem c_impl_outcomes_2 : cfun Try.prog [] 51 = some (8, dc_impl_outcomes_2, [(Res.tmp 4)]) := by kernel_rfl
def r_impl_outcomes_0 : List GI := [⟨.box 2 2000002 (.t 0) (some 5), some 2, none, false⟩, ⟨.mov 4 (.k (.v (.int .i64 0))), some 4, none, false⟩]
def r_impl_outcomes_1 : List GI := [⟨.fad 7 2 0, some 7, none, false⟩, ⟨.lod 8 7 none, some 8, none, false⟩]
def r_impl_outcomes_2 : List GI := [⟨.bin 10 .eql (.t 8) (.k (.v (.int .i64 1))), some 10, none, false⟩, ⟨.mov 9 (.t 10), some 9, none, false⟩]
def r_impl_outcomes_3 : List GI := [⟨.mov 11 (.t 1), some 11, none, false⟩, ⟨.fad 12 2 1, some 12, none, false⟩, ⟨.lod 13 12 none, some 13, none, false⟩, ⟨.iad 14 11 (.t 13) 1, some 14, none, false⟩, ⟨.lod 15 14 none, some 15, none, false⟩, ⟨.mov 4 (.t 15), some 4, none, false⟩]
def r_impl_outcomes_4 : List GI := [⟨.bin 17 .eql (.t 8) (.k (.v (.int .i64 2))), some 17, none, false⟩, ⟨.mov 16 (.t 17), some 16, none, false⟩]
def r_impl_outcomes_5 : List GI := [⟨.fad 18 2 2, some 18, none, false⟩, ⟨.lod 19 18 (some 2), some 19, none, false⟩, ⟨.call 20 46 [.t 19], some 20, none, true⟩, ⟨.mov 4 (.t 20), some 4, none, false⟩]
def r_impl_outcomes_6 : List GI := [⟨.fad 21 2 4, some 21, none, false⟩, ⟨.lod 22 21 none, some 22, none, false⟩, ⟨.iad 23 22 (.k (.v (.int .i64 0))) 5, some 23, none, false⟩, ⟨.lod 24 23 (some 5), some 24, none, false⟩, ⟨.mov 25 (.t 1), some 25, none, false⟩, ⟨.call 26 28 [.t 24, .t 25], some 26, none, true⟩, ⟨.mov 5 (.t 26), some 5, none, false⟩]
def r_impl_outcomes_7 : List GI := [⟨.fad 27 2 0, some 27, none, false⟩, ⟨.lod 28 27 none, some 28, none, false⟩]
def r_impl_outcomes_8 : List GI := [⟨.bin 30 .eql (.t 28) (.k (.v (.int .i64 10))), some 30, none, false⟩, ⟨.mov 29 (.t 30), some 29, none, false⟩]
def r_impl_outcomes_9 : List GI := [⟨.mov 31 (.t 5), some 31, none, false⟩, ⟨.call 32 47 [.t 31], some 32, none, true⟩, ⟨.mov 4 (.t 32), some 4, none, false⟩]
def r_impl_outcomes_10 : List GI := [⟨.bin 34 .eql (.t 28) (.k (.v (.int .i64 11))), some 34, none, false⟩, ⟨.mov 33 (.t 34), some 33, none, false⟩]
def r_impl_outcomes_11 : List GI := [⟨.mov 35 (.t 5), some 35, none, false⟩, ⟨.call 36 48 [.t 35], some 36, none, true⟩, ⟨.mov 4 (.t 36), some 4, none, false⟩]
def r_impl_outcomes_12 : List GI := [⟨.fad 37 2 4, some 37, none, false⟩, ⟨.lod 38 37 none, some 38, none, false⟩, ⟨.iad 39 38 (.k (.v (.int .i64 1))) 5, some 39, none, false⟩, ⟨.lod 40 39 (some 5), some 40, none, false⟩, ⟨.mov 41 (.t 1), some 41, none, false⟩, ⟨.call 42 28 [.t 40, .t 41], some 42, none, true⟩, ⟨.mov 6 (.t 42), some 6, none, false⟩]
def r_impl_outcomes_13 : List GI := [⟨.fad 43 2 0, some 43, none, false⟩, ⟨.lod 44 43 none, some 44, none, false⟩]
def r_impl_outcomes_14 : List GI := [⟨.bin 46 .eql (.t 44) (.k (.v (.int .i64 8))), some 46, none, false⟩, ⟨.mov 45 (.t 46), some 45, none, false⟩]
def r_impl_outcomes_15 : List GI := [⟨.mov 47 (.t 5), some 47, none, false⟩, ⟨.mov 48 (.t 6), some 48, none, false⟩, ⟨.call 49 49 [.t 47, .t 48, .k (.fn 50 [])], some 49, none, true⟩, ⟨.mov 4 (.t 49), some 4, none, false⟩]
def r_impl_outcomes_16 : List GI := [⟨.bin 51 .eql (.t 44) (.k (.v (.int .i64 9))), some 51, none, false⟩, ⟨.mov 50 (.t 51), some 50, none, false⟩]
def r_impl_outcomes_17 : List GI := [⟨.mov 52 (.t 5), some 52, none, false⟩, ⟨.mov 53 (.t 6), some 53, none, false⟩, ⟨.call 54 49 [.t 52, .t 53, .k (.fn 51 [])], some 54, none, true⟩, ⟨.mov 4 (.t 54), some 4, none, false⟩]
def r_impl_outcomes_18 : List GI := [⟨.bin 56 .eql (.t 44) (.k (.v (.int .i64 6))), some 56, none, false⟩, ⟨.mov 55 (.t 56), some 55, none, false⟩]
def r_impl_outcomes_19 : List GI := [⟨.bin 57 .eql (.t 44) (.k (.v (.int .i64 7))), some 57, none, false⟩, ⟨.mov 55 (.t 57), some 55, none, false⟩]
def r_impl_outcomes_20 : List GI := [⟨.mov 58 (.t 5), some 58, none, false⟩, ⟨.mov 59 (.t 6), some 59, none, false⟩, ⟨.call 60 52 [.t 58, .t 59], some 60, none, true⟩, ⟨.mov 4 (.t 60), some 4, none, false⟩]
def r_impl_outcomes_21 : List GI := [⟨.mov 61 (.t 5), some 61, none, false⟩, ⟨.mov 62 (.t 6), some 62, none, false⟩, ⟨.call 63 53 [.t 61, .t 62], some 63, none, true⟩, ⟨.mov 4 (.t 63), some 4, none, false⟩]
def dc_impl_outcomes : DC := .seq (.reg r_impl_outcomes_0 none) (.seq (.seq (.reg r_impl_outcomes_1 none) (.block 0 (.seq (.reg r_impl_outcomes_2 none) (.cond (.t 9) (.seq (.reg r_impl_outcomes_3 none) .ret) (.seq (.reg r_impl_outcomes_4 none) (.cond (.t 16) (.seq (.reg r_impl_outcomes_5 none) .ret) .skip)))))) (.seq (.reg r_impl_outcomes_6 none) (.seq (.seq (.reg r_impl_outcomes_7 none) (.block 1 (.seq (.reg r_impl_outcomes_8 none) (.cond (.t 29) (.seq (.reg r_impl_outcomes_9 none) .ret) (.seq (.reg r_impl_outcomes_10 none) (.cond (.t 33) (.seq (.reg r_impl_outcomes_11 none) .ret) .skip)))))) (.seq (.reg r_impl_outcomes_12 none) (.seq (.seq (.reg r_impl_outcomes_13 none) (.block 2 (.seq (.reg r_impl_outcomes_14 none) (.cond (.t 45) (.seq (.reg r_impl_outcomes_15 none) .ret) (.seq (.reg r_impl_outcomes_16 none) (.cond (.t 50) (.seq (.reg r_impl_outcomes_17 none) .ret) (.seq (.seq (.reg r_impl_outcomes_18 none) (.cond (.t 55) .skip (.reg r_impl_outcomes_19 none))) (.cond (.t 55) (.seq (.reg r_impl_outcomes_20 none) .ret) .skip)))))))) (.seq (.reg r_impl_outcomes_21 none) .ret))))))
theorem c_impl_outcomes : cfun Try.prog [] 28 = some (64, dc_impl_outcomes, [(Res.tmp 4)]) := by kernel_rfl
def r_spec_outcomes_0 : List GI := [⟨.box 2 2000002 (.t 0) (some 5), some 2, none, false⟩, ⟨.mov 4 (.k (.v (.int .i64 0))), some 4, none, false⟩]
def r_spec_outcomes_1 : List GI := [⟨.fad 8 2 0, some 8, none, false⟩, ⟨.lod 9 8 none, some 9, none, false⟩]
def r_spec_outcomes_2 : List GI := [⟨.bin 11 .eql (.t 9) (.k (.v (.int .i64 1))), some 11, none, false⟩, ⟨.mov 10 (.t 11), some 10, none, false⟩]
def r_spec_outcomes_3 : List GI := [⟨.mov 12 (.t 1), some 12, none, false⟩, ⟨.fad 13 2 1, some 13, none, false⟩, ⟨.lod 14 13 none, some 14, none, false⟩, ⟨.iad 15 12 (.t 14) 1, some 15, none, false⟩, ⟨.lod 16 15 none, some 16, none, false⟩, ⟨.mov 4 (.t 16), some 4, none, false⟩]
def r_spec_outcomes_4 : List GI := [⟨.bin 18 .eql (.t 9) (.k (.v (.int .i64 2))), some 18, none, false⟩, ⟨.mov 17 (.t 18), some 17, none, false⟩]
def r_spec_outcomes_5 : List GI := [⟨.fad 19 2 2, some 19, none, false⟩, ⟨.lod 20 19 (some 2), some 20, none, false⟩, ⟨.call 21 56 [.t 20], some 21, none, true⟩, ⟨.mov 4 (.t 21), some 4, none, false⟩]
def r_spec_outcomes_6 : List GI := [⟨.fad 22 2 4, some 22, none, false⟩, ⟨.lod 23 22 none, some 23, none, false⟩, ⟨.iad 24 23 (.k (.v (.int .i64 0))) 5, some 24, none, false⟩, ⟨.lod 25 24 (some 5), some 25, none, false⟩, ⟨.mov 26 (.t 1), some 26, none, false⟩, ⟨.call 27 31 [.t 25, .t 26], some 27, none, true⟩, ⟨.mov 5 (.t 27), some 5, none, false⟩]
def r_spec_outcomes_7 : List GI := [⟨.mov 6 (.k (.v (.int .i64 0))), some 6, none, false⟩]
def r_spec_outcomes_8 : List GI := [⟨.fad 28 2 0, some 28, none, false⟩, ⟨.lod 29 28 none, some 29, none, false⟩]
def r_spec_outcomes_9 : List GI := [⟨.bin 31 .eql (.t 29) (.k (.v (.int .i64 10))), some 31, none, false⟩, ⟨.mov 30 (.t 31), some 30, none, false⟩]
def r_spec_outcomes_10 : List GI := [⟨.mov 32 (.t 5), some 32, none, false⟩, ⟨.bin 33 .and (.t 32) (.k (.v (.int .i64 4))), some 33, none, false⟩, ⟨.mov 34 (.t 5), some 34, none, false⟩, ⟨.bin 35 .and (.t 34) (.k (.v (.int .i64 1))), some 35, none, false⟩, ⟨.bin 36 .shl (.t 35) (.k (.v (.int .u64 1))), some 36, none, false⟩, ⟨.bin 37 .or (.t 33) (.t 36), some 37, none, false⟩, ⟨.mov 38 (.t 5), some 38, none, false⟩, ⟨.bin 39 .and (.t 38) (.k (.v (.int .i64 2))), some 39, none, false⟩, ⟨.bin 40 .shr (.t 39) (.k (.v (.int .u64 1))), some 40, none, false⟩, ⟨.bin 41 .or (.t 37) (.t 40), some 41, none, false⟩, ⟨.mov 4 (.t 41), some 4, none, false⟩]
def r_spec_outcomes_11 : List GI := [⟨.bin 43 .eql (.t 29) (.k (.v (.int .i64 11))), some 43, none, false⟩, ⟨.mov 42 (.t 43), some 42, none, false⟩]
def r_spec_outcomes_12 : List GI := [⟨.mov 44 (.t 5), some 44, none, false⟩, ⟨.bin 45 .and (.t 44) (.k (.v (.int .i64 4))), some 45, none, false⟩, ⟨.bin 46 .neq (.t 45) (.k (.v (.int .i64 0))), some 46, none, false⟩]
def r_spec_outcomes_13 : List GI := [⟨.mov 6 (.k (.v (.int .i64 2))), some 6, none, false⟩]
def r_spec_outcomes_14 : List GI := [⟨.mov 47 (.t 5), some 47, none, false⟩, ⟨.bin 48 .and (.t 47) (.k (.v (.int .i64 3))), some 48, none, false⟩, ⟨.bin 49 .neq (.t 48) (.k (.v (.int .i64 0))), some 49, none, false⟩]
def r_spec_outcomes_15 : List GI := [⟨.mov 50 (.t 6), some 50, none, false⟩, ⟨.bin 51 .or (.t 50) (.k (.v (.int .i64 1))), some 51, none, false⟩, ⟨.mov 6 (.t 51), some 6, none, false⟩]
def r_spec_outcomes_16 : List GI := [⟨.mov 52 (.t 6), some 52, none, false⟩, ⟨.mov 4 (.t 52), some 4, none, false⟩]
def r_spec_outcomes_17 : List GI := [⟨.fad 53 2 4, some 53, none, false⟩, ⟨.lod 54 53 none, some 54, none, false⟩, ⟨.iad 55 54 (.k (.v (.int .i64 1))) 5, some 55, none, false⟩, ⟨.lod 56 55 (some 5), some 56, none, false⟩, ⟨.mov 57 (.t 1), some 57, none, false⟩, ⟨.call 58 31 [.t 56, .t 57], some 58, none, true⟩, ⟨.mov 7 (.t 58), some 7, none, false⟩]
def r_spec_outcomes_18 : List GI := [⟨.fad 59 2 0, some 59, none, false⟩, ⟨.lod 60 59 none, some 60, none, false⟩, ⟨.bin 61 .eql (.t 60) (.k (.v (.int .i64 8))), some 61, none, false⟩, ⟨.mov 62 (.t 61), some 62, none, false⟩, ⟨.fad 63 2 0, some 63, some (62, false), false⟩, ⟨.lod 64 63 none, some 64, some (62, false), false⟩, ⟨.bin 65 .eql (.t 64) (.k (.v (.int .i64 9))), some 65, some (62, false), false⟩, ⟨.pick 66 (.t 62) (.k (.v (.bool true))) (.t 65), some 66, none, false⟩]
def r_spec_outcomes_19 : List GI := [⟨.fad 67 2 0, some 67, none, false⟩, ⟨.lod 68 67 none, some 68, none, false⟩, ⟨.mov 69 (.t 5), some 69, none, false⟩, ⟨.mov 70 (.t 7), some 70, none, false⟩, ⟨.call 71 57 [.t 68, .t 69, .t 70], some 71, none, true⟩, ⟨.mov 4 (.t 71), some 4, none, false⟩]
def r_spec_outcomes_20 : List GI := [⟨.mov 72 (.t 5), some 72, none, false⟩, ⟨.mov 73 (.t 7), some 73, none, false⟩, ⟨.bin 74 .or (.t 72) (.t 73), some 74, none, false⟩, ⟨.bin 75 .and (.t 74) (.k (.v (.int .i64 4))), some 75, none, false⟩, ⟨.bin 76 .neq (.t 75) (.k (.v (.int .i64 0))), some 76, none, false⟩]
def r_spec_outcomes_21 : List GI := [⟨.mov 6 (.k (.v (.int .i64 4))), some 6, none, false⟩]
def r_spec_outcomes_22 : List GI := [⟨.mov 77 (.t 5), some 77, none, false⟩, ⟨.bin 78 .and (.t 77) (.k (.v (.int .i64 3))), some 78, none, false⟩, ⟨.bin 79 .neq (.t 78) (.k (.v (.int .i64 0))), some 79, none, false⟩, ⟨.mov 80 (.t 79), some 80, none, false⟩, ⟨.mov 81 (.t 7), some 81, some (80, true), false⟩, ⟨.bin 82 .and (.t 81) (.k (.v (.int .i64 3))), some 82, some (80, true), false⟩, ⟨.bin 83 .neq (.t 82) (.k (.v (.int .i64 0))), some 83, some (80, true), false⟩, ⟨.pick 84 (.t 80) (.t 83) (.k (.v (.bool false))), some 84, none, false⟩]
def r_spec_outcomes_23 : List GI := [⟨.mov 85 (.t 6), some 85, none, false⟩, ⟨.bin 86 .or (.t 85) (.k (.v (.int .i64 3))), some 86, none, false⟩, ⟨.mov 6 (.t 86), some 6, none, false⟩]
def r_spec_outcomes_24 : List GI := [⟨.fad 87 2 0, some 87, none, false⟩, ⟨.lod 88 87 none, some 88, none, false⟩, ⟨.bin 89 .lss (.t 88) (.k (.v (.int .i64 6))), some 89, none, false⟩]
def r_spec_outcomes_25 : List GI := [⟨.mov 90 (.t 6), some 90, none, false⟩, ⟨.bin 91 .or (.t 90) (.k (.v (.int .i64 4))), some 91, none, false⟩, ⟨.mov 6 (.t 91), some 6, none, false⟩]
def r_spec_outcomes_26 : List GI := [⟨.mov 92 (.t 6), some 92, none, false⟩, ⟨.mov 4 (.t 92), some 4, none, false⟩]
def dc_spec_outcomes : DC := .seq (.reg r_spec_outcomes_0 none) (.seq (.seq (.reg r_spec_outcomes_1 none) (.block 0 (.seq (.reg r_spec_outcomes_2 none) (.cond (.t 10) (.seq (.reg r_spec_outcomes_3 none) .ret) (.seq (.reg r_spec_outcomes_4 none) (.cond (.t 17) (.seq (.reg r_spec_outcomes_5 none) .ret) .skip)))))) (.seq (.reg r_spec_outcomes_6 none) (.seq (.reg r_spec_outcomes_7 none) (.seq (.seq (.reg r_spec_outcomes_8 none) (.block 1 (.seq (.reg r_spec_outcomes_9 none) (.cond (.t 30) (.seq (.reg r_spec_outcomes_10 none) .ret) (.seq (.reg r_spec_outcomes_11 none) (.cond (.t 42) (.seq (.seq (.reg r_spec_outcomes_12 none) (.cond (.t 46) (.reg r_spec_outcomes_13 none) .skip)) (.seq (.seq (.reg r_spec_outcomes_14 none) (.cond (.t 49) (.reg r_spec_outcomes_15 none) .skip)) (.seq (.reg r_spec_outcomes_16 none) .ret))) .skip)))))) (.seq (.reg r_spec_outcomes_17 none) (.seq (.seq (.reg r_spec_outcomes_18 none) (.cond (.t 66) (.seq (.reg r_spec_outcomes_19 none) .ret) .skip)) (.seq (.seq (.reg r_spec_outcomes_20 none) (.cond (.t 76) (.reg r_spec_outcomes_21 none) .skip)) (.seq (.seq (.reg r_spec_outcomes_22 none) (.cond (.t 84) (.seq (.reg r_spec_outcomes_23 none) (.seq (.reg r_spec_outcomes_24 none) (.cond (.t 89) (.reg r_spec_outcomes_25 none) .skip))) .skip)) (.seq (.reg r_spec_outcomes_26 none) .ret)))))))))
theorem c_spec_outcomes : cfun Try.prog [] 31 = some (93, dc_spec_outcomes, [(Res.tmp 4)]) := by kernel_rfl
def r_impl_Outcomes_0 : List GI := [⟨.box 2 2000002 (.t 0) (some 5), some 2, none, false⟩, ⟨.mov 4 (.k (.v (.int .i64 0))), some 4, none, false⟩]
def r_impl_Outcomes_1 : List GI := [⟨.lod 7 2 (some 5), some 7, none, false⟩, ⟨.mov 8 (.t 1), some 8, none, false⟩, ⟨.len 9 (.t 8), some 9, none, false⟩, ⟨.call 10 27 [.t 7, .t 9], some 10, none, true⟩, ⟨.un 11 UnOp.not (.t 10), some 11, none, false⟩]
def r_impl_Outcomes_2 : List GI := [⟨.mov 4 (.k (.v (.int .i64 0))), some 4, none, false⟩]
def r_impl_Outcomes_3 : List GI := [⟨.mov 12 (.t 1), some 12, none, false⟩, ⟨.len 13 (.t 12), some 13, none, false⟩, ⟨.mov 14 (.k (.v (.int .i64 0))), some 14, none, false⟩]
def r_impl_Outcomes_4 : List GI := [⟨.bin 15 .lss (.t 14) (.t 13), some 15, none, false⟩]
def r_impl_Outcomes_5 : List GI := [⟨.iad 16 12 (.t 14) 1, some 16, none, false⟩, ⟨.lod 17 16 none, some 17, none, false⟩, ⟨.mov 6 (.t 17), some 6, none, false⟩]
def r_impl_Outcomes_6 : List GI := [⟨.mov 18 (.t 6), some 18, none, false⟩, ⟨.bin 19 .lss (.t 18) (.k (.v (.int .i64 1))), some 19, none, false⟩, ⟨.mov 20 (.t 19), some 20, none, false⟩, ⟨.mov 21 (.t 6), some 21, some (20, false), false⟩, ⟨.bin 22 .gtr (.t 21) (.k (.v (.int .i64 7))), some 22, some (20, false), false⟩, ⟨.pick 23 (.t 20) (.k (.v (.bool true))) (.t 22), some 23, none, false⟩]
def r_impl_Outcomes_7 : List GI := [⟨.mov 4 (.k (.v (.int .i64 0))), some 4, none, false⟩]
def r_impl_Outcomes_8 : List GI := [⟨.bin 24 .add (.t 14) (.k (.v (.int .i64 1))), some 24, none, false⟩, ⟨.mov 14 (.t 24), some 14, none, false⟩]
def r_impl_Outcomes_9 : List GI := [⟨.lod 25 2 (some 5), some 25, none, false⟩, ⟨.mov 26 (.t 1), some 26, none, false⟩, ⟨.call 27 28 [.t 25, .t 26], some 27, none, true⟩, ⟨.mov 4 (.t 27), some 4, none, false⟩]
def dc_impl_Outcomes : DC := .seq (.reg r_impl_Outcomes_0 none) (.seq (.seq (.reg r_impl_Outcomes_1 none) (.cond (.t 11) (.seq (.reg r_impl_Outcomes_2 none) .ret) .skip)) (.seq (.seq (.reg r_impl_Outcomes_3 none) (.block 0 (.loop (.seq (.reg r_impl_Outcomes_4 none) (.seq (.cond (.t 15) .skip (.exit 0)) (.seq (.block 1 (.seq (.reg r_impl_Outcomes_5 none) (.seq (.reg r_impl_Outcomes_6 none) (.cond (.t 23) (.seq (.reg r_impl_Outcomes_7 none) .ret) .skip)))) (.reg r_impl_Outcomes_8 none))))))) (.seq (.reg r_impl_Outcomes_9 none) .ret)))
theorem c_impl_Outcomes : cfun Try.prog [] 10 = some (28, dc_impl_Outcomes, [(Res.tmp 4)]) := by kernel_rfl
end
end Go.Proofs.Ytnnbpekiaodcfaa
