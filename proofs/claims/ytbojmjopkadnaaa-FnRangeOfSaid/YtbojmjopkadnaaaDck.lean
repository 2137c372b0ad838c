/-
  Functions of the program read as code on plain data. Closed facts of the program alone.
-/
import Derived.Test.YtbojmjopkadnaaaRows
import Derived.Test.YtbojmjopkadnaaaVLib
import Derived.KernelRfl
namespace Go.Proofs.Ytbojmjopkadnaaa
open Go.RowKit
noncomputable section
def r_impl_appendConjuncts_0 : List GI := [⟨.box 3 2000003 (.t 1) (some 5), some 3, none, false⟩, ⟨.mov 4 (.k .nul), some 4, none, false⟩]
def r_impl_appendConjuncts_1 : List GI := [⟨.fad 5 3 0, some 5, none, false⟩, ⟨.lod 6 5 none, some 6, none, false⟩, ⟨.bin 7 .neq (.t 6) (.k (.v (.int .i64 8))), some 7, none, false⟩]
def r_impl_appendConjuncts_2 : List GI := [⟨.mov 8 (.t 0), some 8, none, false⟩, ⟨.lod 9 3 (some 5), some 9, none, false⟩, ⟨.call 10 42 [.t 9], some 10, none, true⟩, ⟨.bsl 11 5 (some 5) [.agg [.v (.int .i64 0), .v (.int .i64 0), .v (.bool false), .v (.int .i64 0), .nul]] [(0, .t 10)], some 11, none, false⟩, ⟨.app 12 2000012 (.t 8) (.t 11) 5 56, some 12, none, false⟩, ⟨.mov 4 (.t 12), some 4, none, false⟩]
def r_impl_appendConjuncts_3 : List GI := [⟨.mov 13 (.t 0), some 13, none, false⟩, ⟨.fad 14 3 4, some 14, none, false⟩, ⟨.lod 15 14 none, some 15, none, false⟩, ⟨.iad 16 15 (.k (.v (.int .i64 0))) 5, some 16, none, false⟩, ⟨.lod 17 16 (some 5), some 17, none, false⟩, ⟨.call 18 38 [.t 13, .t 17], some 18, none, true⟩, ⟨.fad 19 3 4, some 19, none, false⟩, ⟨.lod 20 19 none, some 20, none, false⟩, ⟨.iad 21 20 (.k (.v (.int .i64 1))) 5, some 21, none, false⟩, ⟨.lod 22 21 (some 5), some 22, none, false⟩, ⟨.call 23 38 [.t 18, .t 22], some 23, none, true⟩, ⟨.mov 4 (.t 23), some 4, none, false⟩]
def dc_impl_appendConjuncts : DC := .seq (.reg r_impl_appendConjuncts_0 none) (.seq (.seq (.reg r_impl_appendConjuncts_1 none) (.cond (.t 7) (.seq (.reg r_impl_appendConjuncts_2 none) .ret) .skip)) (.seq (.reg r_impl_appendConjuncts_3 (some [0, 0, 2, 6, 14, 31, 0, 64, 192, 448, 1023, 2047])) .ret))
theorem c_impl_appendConjuncts : cfun Try.prog [] 38 = some (24, dc_impl_appendConjuncts, [(Res.tmp 4)]) := by kernel_rfl
def r_laws_isTrue_0 : List GI := [⟨.box 2 2000002 (.t 0) (some 5), some 2, none, false⟩, ⟨.mov 4 (.k (.v (.bool false))), some 4, none, false⟩]
def r_laws_isTrue_1 : List GI := [⟨.lod 8 2 (some 5), some 8, none, false⟩, ⟨.mov 9 (.t 1), some 9, none, false⟩, ⟨.call 10 12 [.t 8, .t 9], some 10, none, true⟩, ⟨.mov 7 (.t 10), some 7, none, false⟩, ⟨.ext 11 7 0, some 11, none, false⟩, ⟨.ext 12 7 1, some 12, none, false⟩, ⟨.alloc 5 2000005 [.v (.bool false), .v (.int .i64 0)], some 5, none, false⟩, ⟨.sto 5 (.t 11) (some 2), none, none, false⟩, ⟨.mov 6 (.t 12), some 6, none, false⟩]
def r_laws_isTrue_2 : List GI := [⟨.mov 13 (.t 6), some 13, none, false⟩, ⟨.mov 14 (.t 13), some 14, none, false⟩, ⟨.fad 15 5 0, some 15, some (14, true), false⟩, ⟨.lod 16 15 none, some 16, some (14, true), false⟩, ⟨.un 17 UnOp.not (.t 16), some 17, some (14, true), false⟩, ⟨.pick 18 (.t 14) (.t 17) (.k (.v (.bool false))), some 18, none, false⟩, ⟨.mov 19 (.t 18), some 19, none, false⟩, ⟨.fad 20 5 1, some 20, some (19, true), false⟩, ⟨.lod 21 20 none, some 21, some (19, true), false⟩, ⟨.bin 22 .neq (.t 21) (.k (.v (.int .i64 0))), some 22, some (19, true), false⟩, ⟨.pick 23 (.t 19) (.t 22) (.k (.v (.bool false))), some 23, none, false⟩, ⟨.mov 4 (.t 23), some 4, none, false⟩]
def dc_laws_isTrue : DC := .seq (.reg r_laws_isTrue_0 none) (.seq (.reg r_laws_isTrue_1 none) (.seq (.reg r_laws_isTrue_2 none) .ret))
theorem c_laws_isTrue : cfun Try.prog [] 18 = some (24, dc_laws_isTrue, [(Res.tmp 4)]) := by kernel_rfl
end
end Go.Proofs.Ytbojmjopkadnaaa
