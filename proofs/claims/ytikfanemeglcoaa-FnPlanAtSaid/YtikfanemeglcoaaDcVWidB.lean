/-
  Functions of the program read as code on plain data. Closed facts of the program alone.
-/
import Derived.Test.YtikfanemeglcoaaRows
import Derived.Test.YtikfanemeglcoaaVLib
import Derived.KernelRfl
namespace Go.Proofs.Ytikfanemeglcoaa
open Go.RowKit
noncomputable section
def r_impl_fitsKids_0 : List GI := [⟨.box 2 2000002 (.t 0) (some 5), some 2, none, false⟩, ⟨.mov 4 (.k (.v (.bool false))), some 4, none, false⟩]
def r_impl_fitsKids_1 : List GI := [⟨.fad 7 2 0, some 7, none, false⟩, ⟨.lod 8 7 none, some 8, none, false⟩]
def r_impl_fitsKids_2 : List GI := [⟨.bin 10 .eql (.t 8) (.k (.v (.int .i64 6))), some 10, none, false⟩, ⟨.mov 9 (.t 10), some 9, none, false⟩]
def r_impl_fitsKids_3 : List GI := [⟨.mov 11 (.t 1), some 11, none, false⟩, ⟨.iad 12 11 (.k (.v (.int .i64 0))) 1, some 12, none, false⟩, ⟨.lod 13 12 none, some 13, none, false⟩, ⟨.mov 14 (.t 1), some 14, none, false⟩, ⟨.iad 15 14 (.k (.v (.int .i64 1))) 1, some 15, none, false⟩, ⟨.lod 16 15 none, some 16, none, false⟩, ⟨.bin 17 .eql (.t 13) (.t 16), some 17, none, false⟩, ⟨.mov 4 (.t 17), some 4, none, false⟩]
def r_impl_fitsKids_4 : List GI := [⟨.bin 19 .eql (.t 8) (.k (.v (.int .i64 8))), some 19, none, false⟩, ⟨.mov 18 (.t 19), some 18, none, false⟩]
def r_impl_fitsKids_5 : List GI := [⟨.fad 20 2 3, some 20, none, false⟩, ⟨.lod 21 20 none, some 21, none, false⟩, ⟨.mov 22 (.t 1), some 22, none, false⟩, ⟨.iad 23 22 (.k (.v (.int .i64 0))) 1, some 23, none, false⟩, ⟨.lod 24 23 none, some 24, none, false⟩, ⟨.call 25 59 [.t 21, .t 24], some 25, none, true⟩, ⟨.mov 4 (.t 25), some 4, none, false⟩]
def r_impl_fitsKids_6 : List GI := [⟨.fad 26 2 2, some 26, none, false⟩, ⟨.lod 27 26 none, some 27, none, false⟩, ⟨.len 28 (.t 27), some 28, none, false⟩, ⟨.mov 29 (.k (.v (.int .i64 0))), some 29, none, false⟩]
def r_impl_fitsKids_7 : List GI := [⟨.bin 30 .lss (.t 29) (.t 28), some 30, none, false⟩]
def r_impl_fitsKids_8 : List GI := [⟨.iad 31 27 (.t 29) 5, some 31, none, false⟩, ⟨.lod 32 31 (some 5), some 32, none, false⟩, ⟨.alloc 6 2000006 [.v (.int .i64 0), .v (.int .i64 0), .v (.bool false), .v (.int .i64 0), .nul], some 6, none, false⟩, ⟨.sto 6 (.t 32) (some 5), none, none, false⟩]
def r_impl_fitsKids_9 : List GI := [⟨.lod 33 6 (some 5), some 33, none, false⟩, ⟨.mov 34 (.t 1), some 34, none, false⟩, ⟨.call 35 61 [.t 34], some 35, none, true⟩, ⟨.call 36 60 [.t 33, .t 35], some 36, none, true⟩, ⟨.un 37 UnOp.not (.t 36), some 37, none, false⟩]
def r_impl_fitsKids_10 : List GI := [⟨.mov 4 (.k (.v (.bool false))), some 4, none, false⟩]
def r_impl_fitsKids_11 : List GI := [⟨.bin 38 .add (.t 29) (.k (.v (.int .i64 1))), some 38, none, false⟩, ⟨.mov 29 (.t 38), some 29, none, false⟩]
def r_impl_fitsKids_12 : List GI := [⟨.mov 4 (.k (.v (.bool true))), some 4, none, false⟩]
def dc_impl_fitsKids : DC := .seq (.reg r_impl_fitsKids_0 none) (.seq (.seq (.reg r_impl_fitsKids_1 none) (.block 0 (.seq (.reg r_impl_fitsKids_2 none) (.cond (.t 9) (.seq (.reg r_impl_fitsKids_3 (some [0, 1, 3, 0, 8, 24, 63, 127])) .ret) (.seq (.reg r_impl_fitsKids_4 none) (.cond (.t 18) (.seq (.reg r_impl_fitsKids_5 (some [0, 1, 0, 4, 12, 31, 63])) .ret) .skip)))))) (.seq (.seq (.reg r_impl_fitsKids_6 none) (.block 1 (.loop (.seq (.reg r_impl_fitsKids_7 none) (.seq (.cond (.t 30) .skip (.exit 1)) (.seq (.block 2 (.seq (.reg r_impl_fitsKids_8 none) (.seq (.reg r_impl_fitsKids_9 (some [0, 0, 2, 7, 15])) (.cond (.t 37) (.seq (.reg r_impl_fitsKids_10 none) .ret) .skip)))) (.reg r_impl_fitsKids_11 none))))))) (.seq (.reg r_impl_fitsKids_12 none) .ret)))
theorem c_impl_fitsKids : cfun Try.prog [] 46 = some (39, dc_impl_fitsKids, [(Res.tmp 4)]) := by kernel_rfl
def r_impl_sumOf_0 : List GI := [⟨.mov 2 (.k (.v (.int .i64 0))), some 2, none, false⟩]
def r_impl_sumOf_1 : List GI := [⟨.mov 3 (.k (.v (.int .i64 0))), some 3, none, false⟩]
def r_impl_sumOf_2 : List GI := [⟨.mov 6 (.t 0), some 6, none, false⟩, ⟨.len 7 (.t 6), some 7, none, false⟩, ⟨.mov 8 (.k (.v (.int .i64 0))), some 8, none, false⟩]
def r_impl_sumOf_3 : List GI := [⟨.bin 9 .lss (.t 8) (.t 7), some 9, none, false⟩]
def r_impl_sumOf_4 : List GI := [⟨.iad 10 6 (.t 8) 1, some 10, none, false⟩, ⟨.lod 11 10 none, some 11, none, false⟩, ⟨.mov 5 (.t 11), some 5, none, false⟩]
def r_impl_sumOf_5 : List GI := [⟨.mov 12 (.t 3), some 12, none, false⟩, ⟨.mov 13 (.t 5), some 13, none, false⟩, ⟨.bin 14 .add (.t 12) (.t 13), some 14, none, false⟩, ⟨.mov 3 (.t 14), some 3, none, false⟩]
def r_impl_sumOf_6 : List GI := [⟨.bin 15 .add (.t 8) (.k (.v (.int .i64 1))), some 15, none, false⟩, ⟨.mov 8 (.t 15), some 8, none, false⟩]
def r_impl_sumOf_7 : List GI := [⟨.mov 16 (.t 3), some 16, none, false⟩, ⟨.mov 2 (.t 16), some 2, none, false⟩]
def dc_impl_sumOf : DC := .seq (.reg r_impl_sumOf_0 none) (.seq (.reg r_impl_sumOf_1 none) (.seq (.seq (.reg r_impl_sumOf_2 none) (.block 0 (.loop (.seq (.reg r_impl_sumOf_3 none) (.seq (.cond (.t 9) .skip (.exit 0)) (.seq (.block 1 (.seq (.reg r_impl_sumOf_4 none) (.reg r_impl_sumOf_5 none))) (.reg r_impl_sumOf_6 none))))))) (.seq (.reg r_impl_sumOf_7 none) .ret)))
theorem c_impl_sumOf : cfun Try.prog [] 61 = some (17, dc_impl_sumOf, [(Res.tmp 2)]) := by kernel_rfl
def r_impl_widthFrom_0 : List GI := [⟨.box 2 2000002 (.t 0) (some 5), some 2, none, false⟩, ⟨.mov 4 (.k (.v (.int .i64 0))), some 4, none, false⟩]
def r_impl_widthFrom_1 : List GI := [⟨.fad 5 2 0, some 5, none, false⟩, ⟨.lod 6 5 none, some 6, none, false⟩]
def r_impl_widthFrom_2 : List GI := [⟨.bin 8 .eql (.t 6) (.k (.v (.int .i64 3))), some 8, none, false⟩, ⟨.mov 7 (.t 8), some 7, none, false⟩]
def r_impl_widthFrom_3 : List GI := [⟨.fad 9 2 2, some 9, none, false⟩, ⟨.lod 10 9 none, some 10, none, false⟩, ⟨.len 11 (.t 10), some 11, none, false⟩, ⟨.mov 4 (.t 11), some 4, none, false⟩]
def r_impl_widthFrom_4 : List GI := [⟨.bin 13 .eql (.t 6) (.k (.v (.int .i64 4))), some 13, none, false⟩, ⟨.mov 12 (.t 13), some 12, none, false⟩]
def r_impl_widthFrom_5 : List GI := [⟨.bin 14 .eql (.t 6) (.k (.v (.int .i64 5))), some 14, none, false⟩, ⟨.mov 12 (.t 14), some 12, none, false⟩]
def r_impl_widthFrom_6 : List GI := [⟨.mov 15 (.t 1), some 15, none, false⟩, ⟨.call 16 61 [.t 15], some 16, none, true⟩, ⟨.mov 4 (.t 16), some 4, none, false⟩]
def r_impl_widthFrom_7 : List GI := [⟨.bin 18 .eql (.t 6) (.k (.v (.int .i64 8))), some 18, none, false⟩, ⟨.mov 17 (.t 18), some 17, none, false⟩]
def r_impl_widthFrom_8 : List GI := [⟨.fad 19 2 3, some 19, none, false⟩, ⟨.lod 20 19 none, some 20, none, false⟩, ⟨.len 21 (.t 20), some 21, none, false⟩, ⟨.bin 22 .add (.t 21) (.k (.v (.int .i64 1))), some 22, none, false⟩, ⟨.mov 4 (.t 22), some 4, none, false⟩]
def r_impl_widthFrom_9 : List GI := [⟨.mov 23 (.t 1), some 23, none, false⟩, ⟨.iad 24 23 (.k (.v (.int .i64 0))) 1, some 24, none, false⟩, ⟨.lod 25 24 none, some 25, none, false⟩, ⟨.mov 4 (.t 25), some 4, none, false⟩]
def dc_impl_widthFrom : DC := .seq (.reg r_impl_widthFrom_0 none) (.seq (.seq (.reg r_impl_widthFrom_1 none) (.block 0 (.seq (.reg r_impl_widthFrom_2 none) (.cond (.t 7) (.seq (.reg r_impl_widthFrom_3 none) .ret) (.seq (.seq (.reg r_impl_widthFrom_4 none) (.cond (.t 12) .skip (.reg r_impl_widthFrom_5 none))) (.cond (.t 12) (.seq (.reg r_impl_widthFrom_6 none) .ret) (.seq (.reg r_impl_widthFrom_7 none) (.cond (.t 17) (.seq (.reg r_impl_widthFrom_8 none) .ret) .skip)))))))) (.seq (.reg r_impl_widthFrom_9 none) .ret))
theorem c_impl_widthFrom : cfun Try.prog [] 47 = some (26, dc_impl_widthFrom, [(Res.tmp 4)]) := by kernel_rfl
end
end Go.Proofs.Ytikfanemeglcoaa
