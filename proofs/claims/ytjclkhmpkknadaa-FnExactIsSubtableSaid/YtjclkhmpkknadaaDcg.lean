/-
  Functions of the program read as code on plain data. Closed facts of the program alone.
-/
import Derived.Test.YtjclkhmpkknadaaRows
import Derived.Test.YtjclkhmpkknadaaVLib
import Derived.KernelRfl
namespace Go.Proofs.Ytjclkhmpkknadaa
open Go.RowKit
noncomputable section
def r_impl_IsSubtable_0 : List GI := [⟨.box 2 2000002 (.t 0) (some 2), some 2, none, false⟩, ⟨.box 3 2000003 (.t 1) (some 2), some 3, none, false⟩, ⟨.alloc 4 2000004 [.v (.bool false)], some 4, none, false⟩]
def r_impl_IsSubtable_1 : List GI := [⟨.lod 7 2 (some 2), some 7, none, false⟩, ⟨.lod 8 3 (some 2), some 8, none, false⟩, ⟨.call 9 33 [.t 7, .t 8], some 9, none, true⟩, ⟨.un 10 UnOp.not (.t 9), some 10, none, false⟩]
def r_impl_IsSubtable_2 : List GI := [⟨.sto 4 (.k (.v (.bool false))) none, none, none, false⟩]
def r_impl_IsSubtable_3 : List GI := [⟨.fad 11 2 1, some 11, none, false⟩, ⟨.lod 12 11 none, some 12, none, false⟩, ⟨.fad 13 3 1, some 13, none, false⟩, ⟨.lod 14 13 none, some 14, none, false⟩, ⟨.call 15 34 [.t 12, .t 14, .k (.fn 35 [])], some 15, none, true⟩]
def r_impl_IsSubtable_4 : List GI := [⟨.mov 5 (.t 16), some 5, none, false⟩]
def r_impl_IsSubtable_5 : List GI := [⟨.mov 6 (.t 17), some 6, none, false⟩]
def r_impl_IsSubtable_6 : List GI := [⟨.mov 18 (.t 5), some 18, none, false⟩, ⟨.len 19 (.t 18), some 19, none, false⟩, ⟨.mov 20 (.t 6), some 20, none, false⟩, ⟨.len 21 (.t 20), some 21, none, false⟩, ⟨.bin 22 .gtr (.t 19) (.t 21), some 22, none, false⟩]
def r_impl_IsSubtable_7 : List GI := [⟨.sto 4 (.k (.v (.bool false))) none, none, none, false⟩]
def r_impl_IsSubtable_8 : List GI := [⟨.sto 4 (.k (.v (.bool true))) none, none, none, false⟩]
def dc_impl_IsSubtable : DC := .seq (.reg r_impl_IsSubtable_0 none) (.seq (.seq (.reg r_impl_IsSubtable_1 none) (.cond (.t 10) (.seq (.reg r_impl_IsSubtable_2 none) .ret) .skip)) (.seq (.seq (.reg r_impl_IsSubtable_3 none) (.block 0 (.rng (.t 15) [16, 17] (.seq (.reg r_impl_IsSubtable_4 none) (.reg r_impl_IsSubtable_5 none)) (.block 1 (.seq (.reg r_impl_IsSubtable_6 none) (.cond (.t 22) (.seq (.reg r_impl_IsSubtable_7 none) .ret) .skip)))))) (.seq (.reg r_impl_IsSubtable_8 none) .ret)))
theorem c_impl_IsSubtable : cfun Try.prog [] 21 = some (23, dc_impl_IsSubtable, [(Res.cell 4 none)]) := by kernel_rfl
end
end Go.Proofs.Ytjclkhmpkknadaa
