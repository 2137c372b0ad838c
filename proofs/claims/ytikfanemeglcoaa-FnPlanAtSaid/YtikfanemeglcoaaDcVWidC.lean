/-
  Functions of the program read as code on plain data. Closed facts of the program alone.
-/
import Derived.Test.YtikfanemeglcoaaRows
import Derived.Test.YtikfanemeglcoaaVLib
import Derived.KernelRfl
namespace Go.Proofs.Ytikfanemeglcoaa
open Go.RowKit
noncomputable section
def r_impl_widthWithin_0 : List GI := [⟨.box 3 2000003 (.t 0) (some 5), some 3, none, false⟩, ⟨.mov 6 (.k (.v (.int .i64 0))), some 6, none, false⟩]
def r_impl_widthWithin_1 : List GI := [⟨.mov 11 (.t 2), some 11, none, false⟩, ⟨.bin 12 .lss (.t 11) (.k (.v (.int .i64 0))), some 12, none, false⟩, ⟨.mov 13 (.t 12), some 13, none, false⟩, ⟨.lod 14 3 (some 5), some 14, some (13, false), false⟩, ⟨.call 15 45 [.t 14], some 15, some (13, false), true⟩, ⟨.un 16 UnOp.not (.t 15), some 16, some (13, false), false⟩, ⟨.pick 17 (.t 13) (.k (.v (.bool true))) (.t 16), some 17, none, false⟩]
def r_impl_widthWithin_2 : List GI := [⟨.mov 6 (.k (.v (.int .i64 0))), some 6, none, false⟩]
def r_impl_widthWithin_3 : List GI := [⟨.fad 18 3 0, some 18, none, false⟩, ⟨.lod 19 18 none, some 19, none, false⟩, ⟨.bin 20 .eql (.t 19) (.k (.v (.int .i64 1))), some 20, none, false⟩]
def r_impl_widthWithin_4 : List GI := [⟨.fad 21 3 1, some 21, none, false⟩, ⟨.lod 22 21 none, some 22, none, false⟩, ⟨.bin 23 .lss (.t 22) (.k (.v (.int .i64 0))), some 23, none, false⟩, ⟨.mov 24 (.t 23), some 24, none, false⟩, ⟨.fad 25 3 1, some 25, some (24, false), false⟩, ⟨.lod 26 25 none, some 26, some (24, false), false⟩, ⟨.mov 27 (.t 1), some 27, some (24, false), false⟩, ⟨.len 28 (.t 27), some 28, some (24, false), false⟩, ⟨.bin 29 .geq (.t 26) (.t 28), some 29, some (24, false), false⟩, ⟨.pick 30 (.t 24) (.k (.v (.bool true))) (.t 29), some 30, none, false⟩]
def r_impl_widthWithin_5 : List GI := [⟨.mov 6 (.k (.v (.int .i64 0))), some 6, none, false⟩]
def r_impl_widthWithin_6 : List GI := [⟨.mov 31 (.t 1), some 31, none, false⟩, ⟨.fad 32 3 1, some 32, none, false⟩, ⟨.lod 33 32 none, some 33, none, false⟩, ⟨.iad 34 31 (.t 33) 1, some 34, none, false⟩, ⟨.lod 35 34 none, some 35, none, false⟩, ⟨.mov 6 (.t 35), some 6, none, false⟩]
def r_impl_widthWithin_7 : List GI := [⟨.mov 7 (.k .nul), some 7, none, false⟩]
def r_impl_widthWithin_8 : List GI := [⟨.fad 36 3 4, some 36, none, false⟩, ⟨.lod 37 36 none, some 37, none, false⟩, ⟨.len 38 (.t 37), some 38, none, false⟩, ⟨.mov 39 (.k (.v (.int .i64 0))), some 39, none, false⟩]
def r_impl_widthWithin_9 : List GI := [⟨.bin 40 .lss (.t 39) (.t 38), some 40, none, false⟩]
def r_impl_widthWithin_10 : List GI := [⟨.iad 41 37 (.t 39) 5, some 41, none, false⟩, ⟨.lod 42 41 (some 5), some 42, none, false⟩, ⟨.alloc 9 2000009 [.v (.int .i64 0), .v (.int .i64 0), .nul, .nul, .nul], some 9, none, false⟩, ⟨.sto 9 (.t 42) (some 5), none, none, false⟩]
def r_impl_widthWithin_11 : List GI := [⟨.lod 43 9 (some 5), some 43, none, false⟩, ⟨.mov 44 (.t 1), some 44, none, false⟩, ⟨.mov 45 (.t 2), some 45, none, false⟩, ⟨.bin 46 .sub (.t 45) (.k (.v (.int .i64 1))), some 46, none, false⟩, ⟨.call 47 27 [.t 43, .t 44, .t 46], some 47, none, true⟩, ⟨.mov 10 (.t 47), some 10, none, false⟩]
def r_impl_widthWithin_12 : List GI := [⟨.mov 48 (.t 10), some 48, none, false⟩, ⟨.bin 49 .eql (.t 48) (.k (.v (.int .i64 0))), some 49, none, false⟩]
def r_impl_widthWithin_13 : List GI := [⟨.mov 6 (.k (.v (.int .i64 0))), some 6, none, false⟩]
def r_impl_widthWithin_14 : List GI := [⟨.mov 50 (.t 7), some 50, none, false⟩, ⟨.mov 51 (.t 10), some 51, none, false⟩, ⟨.bsl 52 1 none [.v (.int .i64 0)] [(0, .t 51)], some 52, none, false⟩, ⟨.app 53 2000053 (.t 50) (.t 52) 1 8, some 53, none, false⟩, ⟨.mov 7 (.t 53), some 7, none, false⟩]
def r_impl_widthWithin_15 : List GI := [⟨.bin 54 .add (.t 39) (.k (.v (.int .i64 1))), some 54, none, false⟩, ⟨.mov 39 (.t 54), some 39, none, false⟩]
def r_impl_widthWithin_16 : List GI := [⟨.lod 55 3 (some 5), some 55, none, false⟩, ⟨.mov 56 (.t 7), some 56, none, false⟩, ⟨.call 57 46 [.t 55, .t 56], some 57, none, true⟩, ⟨.un 58 UnOp.not (.t 57), some 58, none, false⟩]
def r_impl_widthWithin_17 : List GI := [⟨.mov 6 (.k (.v (.int .i64 0))), some 6, none, false⟩]
def r_impl_widthWithin_18 : List GI := [⟨.lod 59 3 (some 5), some 59, none, false⟩, ⟨.mov 60 (.t 7), some 60, none, false⟩, ⟨.call 61 47 [.t 59, .t 60], some 61, none, true⟩, ⟨.mov 6 (.t 61), some 6, none, false⟩]
def dc_impl_widthWithin : DC := .seq (.reg r_impl_widthWithin_0 none) (.seq (.seq (.reg r_impl_widthWithin_1 none) (.cond (.t 17) (.seq (.reg r_impl_widthWithin_2 none) .ret) .skip)) (.seq (.seq (.reg r_impl_widthWithin_3 none) (.cond (.t 20) (.seq (.seq (.reg r_impl_widthWithin_4 none) (.cond (.t 30) (.seq (.reg r_impl_widthWithin_5 none) .ret) .skip)) (.seq (.reg r_impl_widthWithin_6 none) .ret)) .skip)) (.seq (.reg r_impl_widthWithin_7 none) (.seq (.seq (.reg r_impl_widthWithin_8 none) (.block 0 (.loop (.seq (.reg r_impl_widthWithin_9 none) (.seq (.cond (.t 40) .skip (.exit 0)) (.seq (.block 1 (.seq (.reg r_impl_widthWithin_10 none) (.seq (.reg r_impl_widthWithin_11 none) (.seq (.seq (.reg r_impl_widthWithin_12 none) (.cond (.t 49) (.seq (.reg r_impl_widthWithin_13 none) .ret) .skip)) (.reg r_impl_widthWithin_14 none))))) (.reg r_impl_widthWithin_15 none))))))) (.seq (.seq (.reg r_impl_widthWithin_16 none) (.cond (.t 58) (.seq (.reg r_impl_widthWithin_17 none) .ret) .skip)) (.seq (.reg r_impl_widthWithin_18 none) .ret))))))
theorem c_impl_widthWithin : cfun Try.prog [] 27 = some (62, dc_impl_widthWithin, [(Res.tmp 6)]) := by kernel_rfl
end
end Go.Proofs.Ytikfanemeglcoaa
