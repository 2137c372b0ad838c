/-
  Functions of the program read as code on plain data. Closed facts of the program alone.
-/
import Derived.Test.YtbojmjopkadnaaaRows
import Derived.Test.YtbojmjopkadnaaaVLib
import Derived.KernelRfl
namespace Go.Proofs.Ytbojmjopkadnaaa
open Go.RowKit
noncomputable section
def r_impl_Conjuncts_0 : List GI := [⟨.box 1 2000001 (.t 0) (some 5), some 1, none, false⟩, ⟨.mov 2 (.k .nul), some 2, none, false⟩]
def r_impl_Conjuncts_1 : List GI := [⟨.lod 3 1 (some 5), some 3, none, false⟩, ⟨.call 4 13 [.t 3, .k (.v (.int .i64 6))], some 4, none, true⟩, ⟨.un 5 UnOp.not (.t 4), some 5, none, false⟩]
def r_impl_Conjuncts_2 : List GI := [⟨.mov 2 (.k .nul), some 2, none, false⟩]
def r_impl_Conjuncts_3 : List GI := [⟨.lod 6 1 (some 5), some 6, none, false⟩, ⟨.call 7 38 [.k .nul, .t 6], some 7, none, true⟩, ⟨.mov 2 (.t 7), some 2, none, false⟩]
def dc_impl_Conjuncts : DC := .seq (.reg r_impl_Conjuncts_0 none) (.seq (.seq (.reg r_impl_Conjuncts_1 none) (.cond (.t 5) (.seq (.reg r_impl_Conjuncts_2 none) .ret) .skip)) (.seq (.reg r_impl_Conjuncts_3 none) .ret))
theorem c_impl_Conjuncts : cfun Try.prog [] 15 = some (8, dc_impl_Conjuncts, [(Res.tmp 2)]) := by kernel_rfl
def r_spec_Conjuncts_0 : List GI := [⟨.box 1 2000001 (.t 0) (some 5), some 1, none, false⟩, ⟨.mov 2 (.k .nul), some 2, none, false⟩]
def r_spec_Conjuncts_1 : List GI := [⟨.lod 3 1 (some 5), some 3, none, false⟩, ⟨.call 4 31 [.t 3, .k (.v (.int .i64 6))], some 4, none, true⟩, ⟨.un 5 UnOp.not (.t 4), some 5, none, false⟩]
def r_spec_Conjuncts_2 : List GI := [⟨.mov 2 (.k .nul), some 2, none, false⟩]
def r_spec_Conjuncts_3 : List GI := [⟨.lod 6 1 (some 5), some 6, none, false⟩, ⟨.call 7 39 [.t 6], some 7, none, true⟩, ⟨.mov 2 (.t 7), some 2, none, false⟩]
def dc_spec_Conjuncts : DC := .seq (.reg r_spec_Conjuncts_0 none) (.seq (.seq (.reg r_spec_Conjuncts_1 none) (.cond (.t 5) (.seq (.reg r_spec_Conjuncts_2 none) .ret) .skip)) (.seq (.reg r_spec_Conjuncts_3 none) .ret))
theorem c_spec_Conjuncts : cfun Try.prog [] 17 = some (8, dc_spec_Conjuncts, [(Res.tmp 2)]) := by kernel_rfl
def r_spec_conjunctsO_0 : List GI := [⟨.box 1 2000001 (.t 0) (some 5), some 1, none, false⟩, ⟨.mov 2 (.k .nul), some 2, none, false⟩]
def r_spec_conjunctsO_1 : List GI := [⟨.fad 3 1 0, some 3, none, false⟩, ⟨.lod 4 3 none, some 4, none, false⟩, ⟨.bin 5 .neq (.t 4) (.k (.v (.int .i64 8))), some 5, none, false⟩]
def r_spec_conjunctsO_2 : List GI := [⟨.lod 6 1 (some 5), some 6, none, false⟩, ⟨.call 7 60 [.t 6], some 7, none, true⟩, ⟨.bslx 8 2000008 5 (some 5) [.agg [.v (.int .i64 0), .v (.int .i64 0), .v (.bool false), .v (.int .i64 0), .nul]] [(0, .t 7)], some 8, none, false⟩, ⟨.mov 2 (.t 8), some 2, none, false⟩]
def r_spec_conjunctsO_3 : List GI := [⟨.fad 9 1 4, some 9, none, false⟩, ⟨.lod 10 9 none, some 10, none, false⟩, ⟨.iad 11 10 (.k (.v (.int .i64 0))) 5, some 11, none, false⟩, ⟨.lod 12 11 (some 5), some 12, none, false⟩, ⟨.call 13 39 [.t 12], some 13, none, true⟩, ⟨.fad 14 1 4, some 14, none, false⟩, ⟨.lod 15 14 none, some 15, none, false⟩, ⟨.iad 16 15 (.k (.v (.int .i64 1))) 5, some 16, none, false⟩, ⟨.lod 17 16 (some 5), some 17, none, false⟩, ⟨.call 18 39 [.t 17], some 18, none, true⟩, ⟨.app 19 2000019 (.t 13) (.t 18) 5 56, some 19, none, false⟩, ⟨.mov 2 (.t 19), some 2, none, false⟩]
def dc_spec_conjunctsO : DC := .seq (.reg r_spec_conjunctsO_0 none) (.seq (.seq (.reg r_spec_conjunctsO_1 none) (.cond (.t 5) (.seq (.reg r_spec_conjunctsO_2 none) .ret) .skip)) (.seq (.reg r_spec_conjunctsO_3 (some [0, 1, 3, 7, 15, 0, 32, 96, 224, 511, 1023, 2047])) .ret))
theorem c_spec_conjunctsO : cfun Try.prog [8] 39 = some (20, dc_spec_conjunctsO, [(Res.tmp 2)]) := by kernel_rfl
end
end Go.Proofs.Ytbojmjopkadnaaa
