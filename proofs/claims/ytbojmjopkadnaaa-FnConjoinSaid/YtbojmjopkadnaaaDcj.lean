/-
  Functions of the program read as code on plain data. Closed facts of the program alone.
-/
import Derived.Test.YtbojmjopkadnaaaRows
import Derived.Test.YtbojmjopkadnaaaVLib
import Derived.KernelRfl
namespace Go.Proofs.Ytbojmjopkadnaaa
open Go.RowKit
noncomputable section
def r_laws_equalExprs_0 : List GI := [⟨.box 2 2000002 (.t 0) (some 5), some 2, none, false⟩, ⟨.box 3 2000003 (.t 1) (some 5), some 3, none, false⟩, ⟨.mov 4 (.k (.v (.bool false))), some 4, none, false⟩]
def r_laws_equalExprs_1 : List GI := [⟨.fad 5 2 0, some 5, none, false⟩, ⟨.lod 6 5 none, some 6, none, false⟩, ⟨.fad 7 3 0, some 7, none, false⟩, ⟨.lod 8 7 none, some 8, none, false⟩, ⟨.bin 9 .eql (.t 6) (.t 8), some 9, none, false⟩, ⟨.mov 10 (.t 9), some 10, none, false⟩, ⟨.fad 11 2 1, some 11, some (10, true), false⟩, ⟨.lod 12 11 none, some 12, some (10, true), false⟩, ⟨.fad 13 3 1, some 13, some (10, true), false⟩, ⟨.lod 14 13 none, some 14, some (10, true), false⟩, ⟨.bin 15 .eql (.t 12) (.t 14), some 15, some (10, true), false⟩, ⟨.pick 16 (.t 10) (.t 15) (.k (.v (.bool false))), some 16, none, false⟩, ⟨.mov 17 (.t 16), some 17, none, false⟩, ⟨.fad 18 2 2, some 18, some (17, true), false⟩, ⟨.lod 19 18 (some 2), some 19, some (17, true), false⟩, ⟨.fad 20 3 2, some 20, some (17, true), false⟩, ⟨.lod 21 20 (some 2), some 21, some (17, true), false⟩, ⟨.eqs 22 false [false, true] (.t 19) (.t 21), some 22, some (17, true), false⟩, ⟨.pick 23 (.t 17) (.t 22) (.k (.v (.bool false))), some 23, none, false⟩, ⟨.mov 24 (.t 23), some 24, none, false⟩, ⟨.fad 25 2 4, some 25, some (24, true), false⟩, ⟨.lod 26 25 none, some 26, some (24, true), false⟩, ⟨.fad 27 3 4, some 27, some (24, true), false⟩, ⟨.lod 28 27 none, some 28, some (24, true), false⟩, ⟨.call 29 16 [.t 26, .t 28], some 29, some (24, true), true⟩, ⟨.pick 30 (.t 24) (.t 29) (.k (.v (.bool false))), some 30, none, false⟩, ⟨.mov 4 (.t 30), some 4, none, false⟩]
def dc_laws_equalExprs : DC := .seq (.reg r_laws_equalExprs_0 none) (.seq (.reg r_laws_equalExprs_1 none) .ret)
theorem c_laws_equalExprs : cfun Try.prog [] 11 = some (31, dc_laws_equalExprs, [(Res.tmp 4)]) := by kernel_rfl
def r_laws_equalLists_0 : List GI := [⟨.mov 4 (.k (.v (.bool false))), some 4, none, false⟩]
def r_laws_equalLists_1 : List GI := [⟨.mov 6 (.t 0), some 6, none, false⟩, ⟨.len 7 (.t 6), some 7, none, false⟩, ⟨.mov 8 (.t 1), some 8, none, false⟩, ⟨.len 9 (.t 8), some 9, none, false⟩, ⟨.bin 10 .neq (.t 7) (.t 9), some 10, none, false⟩]
def r_laws_equalLists_2 : List GI := [⟨.mov 4 (.k (.v (.bool false))), some 4, none, false⟩]
def r_laws_equalLists_3 : List GI := [⟨.mov 5 (.k (.v (.int .i64 0))), some 5, none, false⟩]
def r_laws_equalLists_4 : List GI := [⟨.mov 11 (.t 5), some 11, none, false⟩, ⟨.mov 12 (.t 0), some 12, none, false⟩, ⟨.len 13 (.t 12), some 13, none, false⟩, ⟨.bin 14 .lss (.t 11) (.t 13), some 14, none, false⟩]
def r_laws_equalLists_5 : List GI := [⟨.mov 17 (.t 0), some 17, none, false⟩, ⟨.mov 18 (.t 5), some 18, none, false⟩, ⟨.iad 19 17 (.t 18) 5, some 19, none, false⟩, ⟨.lod 20 19 (some 5), some 20, none, false⟩, ⟨.mov 21 (.t 1), some 21, none, false⟩, ⟨.mov 22 (.t 5), some 22, none, false⟩, ⟨.iad 23 21 (.t 22) 5, some 23, none, false⟩, ⟨.lod 24 23 (some 5), some 24, none, false⟩, ⟨.call 25 11 [.t 20, .t 24], some 25, none, true⟩, ⟨.un 26 UnOp.not (.t 25), some 26, none, false⟩]
def r_laws_equalLists_6 : List GI := [⟨.mov 4 (.k (.v (.bool false))), some 4, none, false⟩]
def r_laws_equalLists_7 : List GI := [⟨.mov 15 (.t 5), some 15, none, false⟩, ⟨.bin 16 .add (.t 15) (.k (.v (.int .i64 1))), some 16, none, false⟩, ⟨.mov 5 (.t 16), some 5, none, false⟩]
def r_laws_equalLists_8 : List GI := [⟨.mov 4 (.k (.v (.bool true))), some 4, none, false⟩]
def dc_laws_equalLists : DC := .seq (.reg r_laws_equalLists_0 none) (.seq (.seq (.reg r_laws_equalLists_1 none) (.cond (.t 10) (.seq (.reg r_laws_equalLists_2 none) .ret) .skip)) (.seq (.seq (.reg r_laws_equalLists_3 none) (.block 0 (.loop (.seq (.seq (.reg r_laws_equalLists_4 none) (.cond (.t 14) .skip (.exit 0))) (.seq (.block 1 (.seq (.reg r_laws_equalLists_5 (some [0, 0, 3, 7, 0, 0, 48, 112, 255, 511])) (.cond (.t 26) (.seq (.reg r_laws_equalLists_6 none) .ret) .skip))) (.reg r_laws_equalLists_7 none)))))) (.seq (.reg r_laws_equalLists_8 none) .ret)))
theorem c_laws_equalLists : cfun Try.prog [] 16 = some (27, dc_laws_equalLists, [(Res.tmp 4)]) := by kernel_rfl
end
end Go.Proofs.Ytbojmjopkadnaaa
