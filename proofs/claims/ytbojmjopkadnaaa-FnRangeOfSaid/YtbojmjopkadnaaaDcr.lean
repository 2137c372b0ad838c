/-
  Functions of the program read as code on plain data. Closed facts of the program alone.
-/
import Derived.Test.YtbojmjopkadnaaaRows
import Derived.Test.YtbojmjopkadnaaaVLib
import Derived.KernelRfl
namespace Go.Proofs.Ytbojmjopkadnaaa
open Go.RowKit
noncomputable section
def r_impl_RangeOf_0 : List GI := [⟨.box 3 2000003 (.t 0) (some 5), some 3, none, false⟩, ⟨.alloc 6 2000006 [.v (.int .i64 0), .v (.int .i64 0)], some 6, none, false⟩, ⟨.mov 7 (.k (.v (.bool false))), some 7, none, false⟩]
def r_impl_RangeOf_1 : List GI := [⟨.lod 14 3 (some 5), some 14, none, false⟩, ⟨.mov 15 (.t 1), some 15, none, false⟩, ⟨.call 16 13 [.t 14, .t 15], some 16, none, true⟩, ⟨.un 17 UnOp.not (.t 16), some 17, none, false⟩, ⟨.mov 18 (.t 17), some 18, none, false⟩, ⟨.mov 19 (.t 2), some 19, some (18, false), false⟩, ⟨.mov 20 (.t 1), some 20, some (18, false), false⟩, ⟨.call 21 45 [.t 19, .t 20], some 21, some (18, false), true⟩, ⟨.un 22 UnOp.not (.t 21), some 22, some (18, false), false⟩, ⟨.pick 23 (.t 18) (.k (.v (.bool true))) (.t 22), some 23, none, false⟩]
def r_impl_RangeOf_2 : List GI := [⟨.build 24 [.v (.int .i64 0), .v (.int .i64 0)] [], some 24, none, false⟩, ⟨.sto 6 (.t 24) (some 2), none, none, false⟩, ⟨.mov 7 (.k (.v (.bool false))), some 7, none, false⟩]
def r_impl_RangeOf_3 : List GI := [⟨.build 25 [.v (.int .i64 0), .v (.int .i64 0)] [(0, (none, .k (.v (.int .i64 (-9999))))), (1, (none, .k (.v (.int .i64 9999))))], some 25, none, false⟩, ⟨.alloc 8 2000008 [.v (.int .i64 0), .v (.int .i64 0)], some 8, none, false⟩, ⟨.sto 8 (.t 25) (some 2), none, none, false⟩, ⟨.mov 9 (.k (.v (.bool false))), some 9, none, false⟩]
def r_impl_RangeOf_4 : List GI := [⟨.lod 26 3 (some 5), some 26, none, false⟩, ⟨.call 27 15 [.t 26], some 27, none, true⟩, ⟨.len 28 (.t 27), some 28, none, false⟩, ⟨.mov 29 (.k (.v (.int .i64 0))), some 29, none, false⟩]
def r_impl_RangeOf_5 : List GI := [⟨.bin 30 .lss (.t 29) (.t 28), some 30, none, false⟩]
def r_impl_RangeOf_6 : List GI := [⟨.iad 31 27 (.t 29) 5, some 31, none, false⟩, ⟨.lod 32 31 (some 5), some 32, none, false⟩, ⟨.alloc 11 2000011 [.v (.int .i64 0), .v (.int .i64 0), .v (.bool false), .v (.int .i64 0), .nul], some 11, none, false⟩, ⟨.sto 11 (.t 32) (some 5), none, none, false⟩]
def r_impl_RangeOf_7 : List GI := [⟨.lod 34 11 (some 5), some 34, none, false⟩, ⟨.mov 35 (.t 2), some 35, none, false⟩, ⟨.call 36 46 [.t 34, .t 35], some 36, none, true⟩, ⟨.mov 33 (.t 36), some 33, none, false⟩, ⟨.ext 37 33 0, some 37, none, false⟩, ⟨.ext 38 33 1, some 38, none, false⟩, ⟨.alloc 12 2000012 [.v (.int .i64 0), .v (.int .i64 0)], some 12, none, false⟩, ⟨.sto 12 (.t 37) (some 2), none, none, false⟩, ⟨.mov 13 (.t 38), some 13, none, false⟩]
def r_impl_RangeOf_8 : List GI := [⟨.mov 39 (.t 13), some 39, none, false⟩]
def r_impl_RangeOf_9 : List GI := [⟨.lod 40 8 (some 2), some 40, none, false⟩, ⟨.lod 41 12 (some 2), some 41, none, false⟩, ⟨.call 42 47 [.t 40, .t 41], some 42, none, true⟩, ⟨.sto 8 (.t 42) (some 2), none, none, false⟩, ⟨.mov 9 (.k (.v (.bool true))), some 9, none, false⟩]
def r_impl_RangeOf_10 : List GI := [⟨.bin 43 .add (.t 29) (.k (.v (.int .i64 1))), some 43, none, false⟩, ⟨.mov 29 (.t 43), some 29, none, false⟩]
def r_impl_RangeOf_11 : List GI := [⟨.mov 44 (.t 9), some 44, none, false⟩, ⟨.un 45 UnOp.not (.t 44), some 45, none, false⟩]
def r_impl_RangeOf_12 : List GI := [⟨.build 46 [.v (.int .i64 0), .v (.int .i64 0)] [], some 46, none, false⟩, ⟨.sto 6 (.t 46) (some 2), none, none, false⟩, ⟨.mov 7 (.k (.v (.bool false))), some 7, none, false⟩]
def r_impl_RangeOf_13 : List GI := [⟨.fad 47 8 0, some 47, none, false⟩, ⟨.lod 48 47 none, some 48, none, false⟩, ⟨.fad 49 8 1, some 49, none, false⟩, ⟨.lod 50 49 none, some 50, none, false⟩, ⟨.build 51 [.v (.int .i64 0), .v (.int .i64 0)] [(0, (none, .t 48)), (1, (none, .t 50))], some 51, none, false⟩, ⟨.sto 6 (.t 51) (some 2), none, none, false⟩, ⟨.mov 7 (.k (.v (.bool true))), some 7, none, false⟩]
def dc_impl_RangeOf : DC := .seq (.reg r_impl_RangeOf_0 none) (.seq (.seq (.reg r_impl_RangeOf_1 none) (.cond (.t 23) (.seq (.reg r_impl_RangeOf_2 none) .ret) .skip)) (.seq (.reg r_impl_RangeOf_3 none) (.seq (.seq (.reg r_impl_RangeOf_4 none) (.block 0 (.loop (.seq (.reg r_impl_RangeOf_5 none) (.seq (.cond (.t 30) .skip (.exit 0)) (.seq (.block 1 (.seq (.reg r_impl_RangeOf_6 none) (.seq (.reg r_impl_RangeOf_7 none) (.seq (.reg r_impl_RangeOf_8 none) (.cond (.t 39) (.reg r_impl_RangeOf_9 none) .skip))))) (.reg r_impl_RangeOf_10 none))))))) (.seq (.seq (.reg r_impl_RangeOf_11 none) (.cond (.t 45) (.seq (.reg r_impl_RangeOf_12 none) .ret) .skip)) (.seq (.reg r_impl_RangeOf_13 none) .ret)))))
theorem c_impl_RangeOf : cfun Try.prog [] 23 = some (52, dc_impl_RangeOf, [(Res.cell 6 (some 2)), (Res.tmp 7)]) := by kernel_rfl
def r_impl_interval_int__intersection_0 : List GI := [⟨.box 2 2000002 (.t 0) (some 2), some 2, none, false⟩, ⟨.box 3 2000003 (.t 1) (some 2), some 3, none, false⟩, ⟨.alloc 4 2000004 [.v (.int .i64 0), .v (.int .i64 0)], some 4, none, false⟩]
def r_impl_interval_int__intersection_1 : List GI := [⟨.fad 5 2 0, some 5, none, false⟩, ⟨.lod 6 5 none, some 6, none, false⟩, ⟨.fad 7 3 0, some 7, none, false⟩, ⟨.lod 8 7 none, some 8, none, false⟩, ⟨.mm 9 true (.t 6) (.t 8), some 9, none, false⟩, ⟨.fad 10 2 1, some 10, none, false⟩, ⟨.lod 11 10 none, some 11, none, false⟩, ⟨.fad 12 3 1, some 12, none, false⟩, ⟨.lod 13 12 none, some 13, none, false⟩, ⟨.mm 14 false (.t 11) (.t 13), some 14, none, false⟩, ⟨.build 15 [.v (.int .i64 0), .v (.int .i64 0)] [(0, (none, .t 9)), (1, (none, .t 14))], some 15, none, false⟩, ⟨.sto 4 (.t 15) (some 2), none, none, false⟩]
def dc_impl_interval_int__intersection : DC := .seq (.reg r_impl_interval_int__intersection_0 none) (.seq (.reg r_impl_interval_int__intersection_1 none) .ret)
theorem c_impl_interval_int__intersection : cfun Try.prog [] 47 = some (16, dc_impl_interval_int__intersection, [(Res.cell 4 (some 2))]) := by kernel_rfl
end
end Go.Proofs.Ytbojmjopkadnaaa
