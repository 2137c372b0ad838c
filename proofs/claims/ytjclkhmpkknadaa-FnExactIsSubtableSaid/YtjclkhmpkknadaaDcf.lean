/-
  Functions of the program read as code on plain data. Closed facts of the program alone.
-/
import Derived.Test.YtjclkhmpkknadaaRows
import Derived.Test.YtjclkhmpkknadaaVLib
import Derived.KernelRfl
namespace Go.Proofs.Ytjclkhmpkknadaa
open Go.RowKit
noncomputable section
def r_impl_ExceptAll_0 : List GI := [⟨.box 2 2000002 (.t 0) (some 2), some 2, none, false⟩, ⟨.box 3 2000003 (.t 1) (some 2), some 3, none, false⟩, ⟨.alloc 4 2000004 [.v (.int .i64 0), .nul], some 4, none, false⟩, ⟨.mov 5 (.k (.v (.bool false))), some 5, none, false⟩]
def r_impl_ExceptAll_1 : List GI := [⟨.lod 9 2 (some 2), some 9, none, false⟩, ⟨.lod 10 3 (some 2), some 10, none, false⟩, ⟨.call 11 33 [.t 9, .t 10], some 11, none, true⟩, ⟨.un 12 UnOp.not (.t 11), some 12, none, false⟩]
def r_impl_ExceptAll_2 : List GI := [⟨.build 13 [.v (.int .i64 0), .nul] [], some 13, none, false⟩, ⟨.sto 4 (.t 13) (some 2), none, none, false⟩, ⟨.mov 5 (.k (.v (.bool false))), some 5, none, false⟩]
def r_impl_ExceptAll_3 : List GI := [⟨.alloc 6 2000006 [.nul], some 6, none, false⟩]
def r_impl_ExceptAll_4 : List GI := [⟨.fad 14 2 1, some 14, none, false⟩, ⟨.lod 15 14 none, some 15, none, false⟩, ⟨.fad 16 3 1, some 16, none, false⟩, ⟨.lod 17 16 none, some 17, none, false⟩, ⟨.call 18 34 [.t 15, .t 17, .k (.fn 35 [])], some 18, none, true⟩]
def r_impl_ExceptAll_5 : List GI := [⟨.mov 7 (.t 19), some 7, none, false⟩]
def r_impl_ExceptAll_6 : List GI := [⟨.mov 8 (.t 20), some 8, none, false⟩]
def r_impl_ExceptAll_7 : List GI := [⟨.lod 21 6 none, some 21, none, false⟩, ⟨.mov 22 (.t 7), some 22, none, false⟩, ⟨.mov 23 (.t 7), some 23, none, false⟩, ⟨.len 24 (.t 23), some 24, none, false⟩, ⟨.mov 25 (.t 8), some 25, none, false⟩, ⟨.len 26 (.t 25), some 26, none, false⟩, ⟨.mm 27 false (.t 24) (.t 26), some 27, none, false⟩, ⟨.slc 28 (.t 22) (some (.t 27)) none 1, some 28, none, false⟩, ⟨.app 29 2000029 (.t 21) (.t 28) 1 24, some 29, none, false⟩, ⟨.sto 6 (.t 29) none, none, none, false⟩]
def r_impl_ExceptAll_8 : List GI := [⟨.fad 30 2 0, some 30, none, false⟩, ⟨.lod 31 30 none, some 31, none, false⟩, ⟨.lod 32 6 none, some 32, none, false⟩, ⟨.call 33 36 [.t 32], some 33, none, true⟩, ⟨.build 34 [.v (.int .i64 0), .nul] [(0, (none, .t 31)), (1, (none, .t 33))], some 34, none, false⟩, ⟨.sto 4 (.t 34) (some 2), none, none, false⟩, ⟨.mov 5 (.k (.v (.bool true))), some 5, none, false⟩]
def dc_impl_ExceptAll : DC := .seq (.reg r_impl_ExceptAll_0 none) (.seq (.seq (.reg r_impl_ExceptAll_1 none) (.cond (.t 12) (.seq (.reg r_impl_ExceptAll_2 none) .ret) .skip)) (.seq (.reg r_impl_ExceptAll_3 none) (.seq (.seq (.reg r_impl_ExceptAll_4 none) (.block 0 (.rng (.t 18) [19, 20] (.seq (.reg r_impl_ExceptAll_5 none) (.reg r_impl_ExceptAll_6 none)) (.block 1 (.reg r_impl_ExceptAll_7 (some [0, 0, 0, 4, 0, 16, 60, 126, 255, 511])))))) (.seq (.reg r_impl_ExceptAll_8 (some [0, 1, 0, 4, 15, 31, 63])) .ret))))
theorem c_impl_ExceptAll : cfun Try.prog [] 17 = some (35, dc_impl_ExceptAll, [(Res.cell 4 (some 2)), (Res.tmp 5)]) := by kernel_rfl
end
end Go.Proofs.Ytjclkhmpkknadaa
