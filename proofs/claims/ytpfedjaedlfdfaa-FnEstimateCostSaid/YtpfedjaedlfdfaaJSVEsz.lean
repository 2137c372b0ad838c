/-
  Functions of the program read as code on plain data. Closed facts of the program alone.
-/
import Derived.KernelRfl
import Derived.Deep.Slices
import Derived.ChangeSame
import Derived.Test.YtpfedjaedlfdfaaRows
import Derived.Test.YtpfedjaedlfdfaaJSVCall
import Derived.Test.YtpfedjaedlfdfaaJSVTbD
import Derived.Test.YtpfedjaedlfdfaaJSFactsC
namespace Go.Proofs.Ytpfedjaedlfdfaa
open Go.RowKit
noncomputable section
def r_impl_validColumns_0 : List GI := [gi 4 (.mov 4 (.k (.v (.bool false))))]
def r_impl_validColumns_1 : List GI := [gi 8 (.mov 8 (.t 0)), gi 9 (.len 9 (.t 8)), gi 10 (.bin 10 .geq (.t 9) (.k (.v (.int .i64 6))))]
def r_impl_validColumns_2 : List GI := [gi 4 (.mov 4 (.k (.v (.bool false))))]
def r_impl_validColumns_3 : List GI := [gi 5 (.mov 5 (.k (.v (.int .i64 (-1)))))]
def r_impl_validColumns_4 : List GI := [gi 11 (.mov 11 (.t 0)), gi 12 (.len 12 (.t 11)), gi 13 (.mov 13 (.k (.v (.int .i64 0))))]
def r_impl_validColumns_5 : List GI := [gi 14 (.bin 14 .lss (.t 13) (.t 12))]
def r_impl_validColumns_6 : List GI := [gi 15 (.iad 15 11 (.t 13) 1), gi 16 (.lod 16 15 none), gi 7 (.mov 7 (.t 16))]
def r_impl_validColumns_7 : List GI := [gi 17 (.mov 17 (.t 7)), gi 18 (.mov 18 (.t 5)), gi 19 (.bin 19 .leq (.t 17) (.t 18)), gi 20 (.mov 20 (.t 19)), ⟨.mov 21 (.t 7), some 21, some (20, false), false⟩, ⟨.mov 22 (.t 1), some 22, some (20, false), false⟩, ⟨.bin 23 .geq (.t 21) (.t 22), some 23, some (20, false), false⟩, gi 24 (.pick 24 (.t 20) (.k (.v (.bool true))) (.t 23))]
def r_impl_validColumns_8 : List GI := [gi 4 (.mov 4 (.k (.v (.bool false))))]
def r_impl_validColumns_9 : List GI := [gi 25 (.mov 25 (.t 7)), gi 5 (.mov 5 (.t 25))]
def r_impl_validColumns_10 : List GI := [gi 26 (.bin 26 .add (.t 13) (.k (.v (.int .i64 1)))), gi 13 (.mov 13 (.t 26))]
def r_impl_validColumns_11 : List GI := [gi 4 (.mov 4 (.k (.v (.bool true))))]
def dc_impl_validColumns : DC := .seq (.reg r_impl_validColumns_0 none) (.seq (.seq (.reg r_impl_validColumns_1 none) (.cond (.t 10) (.seq (.reg r_impl_validColumns_2 none) .ret) .skip)) (.seq (.reg r_impl_validColumns_3 none) (.seq (.seq (.reg r_impl_validColumns_4 none) (.block 0 (.loop (.seq (.reg r_impl_validColumns_5 none) (.seq (.cond (.t 14) .skip (.exit 0)) (.seq (.block 1 (.seq (.reg r_impl_validColumns_6 none) (.seq (.seq (.reg r_impl_validColumns_7 none) (.cond (.t 24) (.seq (.reg r_impl_validColumns_8 none) .ret) .skip)) (.reg r_impl_validColumns_9 none)))) (.reg r_impl_validColumns_10 none))))))) (.seq (.reg r_impl_validColumns_11 none) .ret))))
theorem c_impl_validColumns : cfun Try.prog [] 85 = some (27, dc_impl_validColumns, [(Res.tmp 4)]) := by kernel_rfl
def r_impl_validWidths_0 : List GI := [gi 2 (.mov 2 (.k (.v (.bool false))))]
def r_impl_validWidths_1 : List GI := [gi 5 (.mov 5 (.t 0)), gi 6 (.len 6 (.t 5)), gi 7 (.bin 7 .lss (.t 6) (.k (.v (.int .i64 1)))), gi 8 (.mov 8 (.t 7)), ⟨.mov 9 (.t 0), some 9, some (8, false), false⟩, ⟨.len 10 (.t 9), some 10, some (8, false), false⟩, ⟨.bin 11 .gtr (.t 10) (.k (.v (.int .i64 4))), some 11, some (8, false), false⟩, gi 12 (.pick 12 (.t 8) (.k (.v (.bool true))) (.t 11))]
def r_impl_validWidths_2 : List GI := [gi 2 (.mov 2 (.k (.v (.bool false))))]
def r_impl_validWidths_3 : List GI := [gi 13 (.mov 13 (.t 0)), gi 14 (.len 14 (.t 13)), gi 15 (.mov 15 (.k (.v (.int .i64 0))))]
def r_impl_validWidths_4 : List GI := [gi 16 (.bin 16 .lss (.t 15) (.t 14))]
def r_impl_validWidths_5 : List GI := [gi 17 (.iad 17 13 (.t 15) 1), gi 18 (.lod 18 17 none), gi 4 (.mov 4 (.t 18))]
def r_impl_validWidths_6 : List GI := [gi 19 (.mov 19 (.t 4)), ⟨.call 20 55 [.t 19], some 20, none, true⟩, gi 21 (.un 21 UnOp.not (.t 20))]
def r_impl_validWidths_7 : List GI := [gi 2 (.mov 2 (.k (.v (.bool false))))]
def r_impl_validWidths_8 : List GI := [gi 22 (.bin 22 .add (.t 15) (.k (.v (.int .i64 1)))), gi 15 (.mov 15 (.t 22))]
def r_impl_validWidths_9 : List GI := [gi 2 (.mov 2 (.k (.v (.bool true))))]
def dc_impl_validWidths : DC := .seq (.reg r_impl_validWidths_0 none) (.seq (.seq (.reg r_impl_validWidths_1 none) (.cond (.t 12) (.seq (.reg r_impl_validWidths_2 none) .ret) .skip)) (.seq (.seq (.reg r_impl_validWidths_3 none) (.block 0 (.loop (.seq (.reg r_impl_validWidths_4 none) (.seq (.cond (.t 16) .skip (.exit 0)) (.seq (.block 1 (.seq (.reg r_impl_validWidths_5 none) (.seq (.reg r_impl_validWidths_6 none) (.cond (.t 21) (.seq (.reg r_impl_validWidths_7 none) .ret) .skip)))) (.reg r_impl_validWidths_8 none))))))) (.seq (.reg r_impl_validWidths_9 none) .ret)))
theorem c_impl_validWidths : cfun Try.prog [] 35 = some (23, dc_impl_validWidths, [(Res.tmp 2)]) := by kernel_rfl
def r_spec_projectWidth_0 : List GI := [gi 4 (.mov 4 (.k (.v (.int .i64 0))))]
def r_spec_projectWidth_1 : List GI := [gi 5 (.mov 5 (.k (.v (.int .i64 0))))]
def r_spec_projectWidth_2 : List GI := [gi 6 (.mov 6 (.t 5)), gi 7 (.mov 7 (.t 0)), gi 8 (.len 8 (.t 7)), gi 9 (.bin 9 .lss (.t 6) (.t 8))]
def r_spec_projectWidth_3 : List GI := [gi 12 (.mov 12 (.t 0)), gi 13 (.mov 13 (.t 5)), gi 14 (.iad 14 12 (.t 13) 5), gi 15 (.lod 15 14 (some 5)), gi 16 (.mov 16 (.t 1)), ⟨.call 17 81 [.t 15, .t 16], some 17, none, true⟩, gi 18 (.un 18 UnOp.not (.t 17))]
def r_spec_projectWidth_4 : List GI := [gi 4 (.mov 4 (.k (.v (.int .i64 0))))]
def r_spec_projectWidth_5 : List GI := [gi 10 (.mov 10 (.t 5)), gi 11 (.bin 11 .add (.t 10) (.k (.v (.int .i64 1)))), gi 5 (.mov 5 (.t 11))]
def r_spec_projectWidth_6 : List GI := [gi 19 (.mov 19 (.t 0)), gi 20 (.len 20 (.t 19)), gi 21 (.bin 21 .gtr (.t 20) (.k (.v (.int .i64 6))))]
def r_spec_projectWidth_7 : List GI := [gi 4 (.mov 4 (.k (.v (.int .i64 0))))]
def r_spec_projectWidth_8 : List GI := [gi 22 (.mov 22 (.t 0)), gi 23 (.len 23 (.t 22)), gi 4 (.mov 4 (.t 23))]
def dc_spec_projectWidth : DC := .seq (.reg r_spec_projectWidth_0 none) (.seq (.seq (.reg r_spec_projectWidth_1 none) (.block 0 (.loop (.seq (.seq (.reg r_spec_projectWidth_2 none) (.cond (.t 9) .skip (.exit 0))) (.seq (.block 1 (.seq (.reg r_spec_projectWidth_3 none) (.cond (.t 18) (.seq (.reg r_spec_projectWidth_4 none) .ret) .skip))) (.reg r_spec_projectWidth_5 none)))))) (.seq (.seq (.reg r_spec_projectWidth_6 none) (.cond (.t 21) (.seq (.reg r_spec_projectWidth_7 none) .ret) .skip)) (.seq (.reg r_spec_projectWidth_8 none) .ret)))
theorem c_spec_projectWidth : cfun Try.prog [] 82 = some (24, dc_spec_projectWidth, [(Res.tmp 4)]) := by kernel_rfl
def r_spec_validCols_0 : List GI := [gi 4 (.mov 4 (.k (.v (.bool false))))]
def r_spec_validCols_1 : List GI := [gi 5 (.mov 5 (.k (.v (.int .i64 0))))]
def r_spec_validCols_2 : List GI := [gi 6 (.mov 6 (.t 5)), gi 7 (.mov 7 (.t 0)), gi 8 (.len 8 (.t 7)), gi 9 (.bin 9 .lss (.t 6) (.t 8))]
def r_spec_validCols_3 : List GI := [gi 12 (.mov 12 (.t 0)), gi 13 (.mov 13 (.t 5)), gi 14 (.iad 14 12 (.t 13) 1), gi 15 (.lod 15 14 none), gi 16 (.mov 16 (.t 1)), gi 17 (.bin 17 .sub (.t 16) (.k (.v (.int .i64 1)))), ⟨.call 18 79 [.t 15, .k (.v (.int .i64 0)), .t 17], some 18, none, true⟩, gi 19 (.un 19 UnOp.not (.t 18)), gi 20 (.mov 20 (.t 19)), ⟨.mov 21 (.t 5), some 21, some (20, false), false⟩, ⟨.bin 22 .gtr (.t 21) (.k (.v (.int .i64 0))), some 22, some (20, false), false⟩, ⟨.mov 23 (.t 22), some 23, some (20, false), false⟩, ⟨.mov 24 (.t 0), some 24, some (23, true), false⟩, ⟨.mov 25 (.t 5), some 25, some (23, true), false⟩, ⟨.iad 26 24 (.t 25) 1, some 26, some (23, true), false⟩, ⟨.lod 27 26 none, some 27, some (23, true), false⟩, ⟨.mov 28 (.t 0), some 28, some (23, true), false⟩, ⟨.mov 29 (.t 5), some 29, some (23, true), false⟩, ⟨.bin 30 .sub (.t 29) (.k (.v (.int .i64 1))), some 30, some (23, true), false⟩, ⟨.iad 31 28 (.t 30) 1, some 31, some (23, true), false⟩, ⟨.lod 32 31 none, some 32, some (23, true), false⟩, ⟨.bin 33 .leq (.t 27) (.t 32), some 33, some (23, true), false⟩, ⟨.pick 34 (.t 23) (.t 33) (.k (.v (.bool false))), some 34, some (20, false), false⟩, gi 35 (.pick 35 (.t 20) (.k (.v (.bool true))) (.t 34))]
def r_spec_validCols_4 : List GI := [gi 4 (.mov 4 (.k (.v (.bool false))))]
def r_spec_validCols_5 : List GI := [gi 10 (.mov 10 (.t 5)), gi 11 (.bin 11 .add (.t 10) (.k (.v (.int .i64 1)))), gi 5 (.mov 5 (.t 11))]
def r_spec_validCols_6 : List GI := [gi 4 (.mov 4 (.k (.v (.bool true))))]
def dc_spec_validCols : DC := .seq (.reg r_spec_validCols_0 none) (.seq (.seq (.reg r_spec_validCols_1 none) (.block 0 (.loop (.seq (.seq (.reg r_spec_validCols_2 none) (.cond (.t 9) .skip (.exit 0))) (.seq (.block 1 (.seq (.reg r_spec_validCols_3 (some [0, 0, 3, 7, 0, 16, 63, 127, 255, 511, 1023, 2047, 4095, 4095, 16383, 32767, 4095, 4095, 135167, 462847, 987135, 2097151, 4194303, 8388607])) (.cond (.t 35) (.seq (.reg r_spec_validCols_4 none) .ret) .skip))) (.reg r_spec_validCols_5 none)))))) (.seq (.reg r_spec_validCols_6 none) .ret))
theorem c_spec_validCols : cfun Try.prog [] 83 = some (36, dc_spec_validCols, [(Res.tmp 4)]) := by kernel_rfl
def r_spec_validWidths_0 : List GI := [gi 2 (.mov 2 (.k (.v (.bool false))))]
def r_spec_validWidths_1 : List GI := [gi 3 (.mov 3 (.k (.v (.int .i64 0))))]
def r_spec_validWidths_2 : List GI := [gi 4 (.mov 4 (.t 3)), gi 5 (.mov 5 (.t 0)), gi 6 (.len 6 (.t 5)), gi 7 (.bin 7 .lss (.t 4) (.t 6))]
def r_spec_validWidths_3 : List GI := [gi 10 (.mov 10 (.t 0)), gi 11 (.mov 11 (.t 3)), gi 12 (.iad 12 10 (.t 11) 1), gi 13 (.lod 13 12 none), ⟨.call 14 79 [.t 13, .k (.v (.int .i64 1)), .k (.v (.int .i64 6))], some 14, none, true⟩, gi 15 (.un 15 UnOp.not (.t 14))]
def r_spec_validWidths_4 : List GI := [gi 2 (.mov 2 (.k (.v (.bool false))))]
def r_spec_validWidths_5 : List GI := [gi 8 (.mov 8 (.t 3)), gi 9 (.bin 9 .add (.t 8) (.k (.v (.int .i64 1)))), gi 3 (.mov 3 (.t 9))]
def r_spec_validWidths_6 : List GI := [gi 16 (.mov 16 (.t 0)), gi 17 (.len 17 (.t 16)), ⟨.call 18 79 [.t 17, .k (.v (.int .i64 1)), .k (.v (.int .i64 4))], some 18, none, true⟩, gi 2 (.mov 2 (.t 18))]
def dc_spec_validWidths : DC := .seq (.reg r_spec_validWidths_0 none) (.seq (.seq (.reg r_spec_validWidths_1 none) (.block 0 (.loop (.seq (.seq (.reg r_spec_validWidths_2 none) (.cond (.t 7) .skip (.exit 0))) (.seq (.block 1 (.seq (.reg r_spec_validWidths_3 none) (.cond (.t 15) (.seq (.reg r_spec_validWidths_4 none) .ret) .skip))) (.reg r_spec_validWidths_5 none)))))) (.seq (.reg r_spec_validWidths_6 none) .ret))
theorem c_spec_validWidths : cfun Try.prog [] 53 = some (19, dc_spec_validWidths, [(Res.tmp 2)]) := by kernel_rfl
end
end Go.Proofs.Ytpfedjaedlfdfaa
set_option maxHeartbeats 4000000
set_option maxRecDepth 100000
namespace Go.Proofs.Ytpfedjaedlfdfaa
open Go.ChangeShapes Go.WideShapes Go.ChangeAt Go.RowKit Go.Joins Go.Deep
def big : Nat := 9223372036854775807
section
variable {H : Type} {enc : TypeId × Value → H} {W : World} {base b0 : Nat} {held : Bool} {r : Reach} {v : Value} {d : DataW H} {p : List MemPlace}
theorem add_lit (b o j : Nat) : (⟨b, o, none⟩ : Addr).add j = ⟨b, o + j, none⟩ := by cases j <;> rfl
end
end Go.Proofs.Ytpfedjaedlfdfaa
set_option maxHeartbeats 4000000
set_option maxRecDepth 100000
namespace Go.Proofs.Ytpfedjaedlfdfaa
open Go.RowKit
mutual
/-- How many parts. -/
def esz : E → Nat
  | .mk _ _ _ ks => 1 + eszL ks
def eszL : List E → Nat
  | [] => 0
  | e :: l => esz e + eszL l
end
theorem esz_eq (e : E) : esz e = 1 + eszL e.ks := by cases e; rfl
theorem eszL_append : ∀ (l m : List E), eszL (l ++ m) = eszL l + eszL m
  | [], m => by rw [List.nil_append, eszL, Nat.zero_add]
  | e :: l, m => by rw [List.cons_append, eszL, eszL, eszL_append l m]; omega
theorem eszL_len : ∀ l : List E, l.length ≤ eszL l
  | [] => Nat.le_refl _
  | e :: l => by
    have := eszL_len l
    rw [eszL, esz_eq, List.length_cons]
    omega
theorem eszL_mem {e : E} {l : List E} (h : e ∈ l) : esz e ≤ eszL l := by
  induction l with
  | nil => cases h
  | cons x l ih =>
    rw [eszL]
    rcases List.mem_cons.1 h with rfl | h
    · omega
    · have := ih h; omega
end Go.Proofs.Ytpfedjaedlfdfaa
