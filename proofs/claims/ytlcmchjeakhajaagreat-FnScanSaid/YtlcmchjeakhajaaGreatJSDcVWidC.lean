/-
  Functions of the program read as code on plain data. Closed facts of the program alone.
-/
import Derived.KernelRfl
import Derived.Deep.Slices
import Derived.ChangeSame
import Derived.Test.YtlcmchjeakhajaaGreatRows
import Derived.Test.YtlcmchjeakhajaaGreatJSVGo
import Derived.Test.YtlcmchjeakhajaaGreatJSVTbD
import Derived.Test.YtlcmchjeakhajaaGreatJSDcWEpS
import Derived.Test.YtlcmchjeakhajaaGreatJSFactsC
namespace Go.Proofs.YtlcmchjeakhajaaGreat
open Go.RowKit
noncomputable section
def r_Z99_0 : List GI := [gi 4 (.box 4 2000004 (.t 0) (some 2)), gi 5 (.box 5 2000005 (.t 1) (some 2)), gi 6 (.box 6 2000006 (.t 2) (some 5)), gi 8 (.alloc 8 2000008 [I 0, .nul])]
def r_Z99_1 : List GI := [gi 14 (.mov 14 (.k .nul)), gt 9 14]
def r_Z99_2 : List GI := [gk 10 0]
def r_Z99_3 : List GI := [gt 15 10, gf 16 4 1, gl 17 16, gn 18 17, gb 19 .lss 15 18]
def r_Z99_4 : List GI := [gi 11 (.mov 11 (.k (.v (.bool false))))]
def r_Z99_5 : List GI := [gk 12 0]
def r_Z99_6 : List GI := [gt 22 12, gf 23 5 1, gl 24 23, gn 25 24, gb 26 .lss 22 25]
def r_Z99_7 : List GI := [gf 29 4 1, gl 30 29, gt 31 10, ga 32 30 31 1, gl 33 32, gf 34 5 1, gl 35 34, gt 36 12, ga 37 35 36 1, gl 38 37, gc 39 86 [.t 33, .t 38], gt 13 39]
def r_Z99_8 : List GI := [gs 40 6 5, gt 41 13, gc 42 84 [.t 40, .t 41]]
def r_Z99_9 : List GI := [gi 11 (.mov 11 (.k (.v (.bool true))))]
def r_Z99_10 : List GI := [gt 43 9, gt 44 13, gi 45 (.bsl 45 1 none [.nul] [(0, .t 44)]), gi 46 (.app 46 2000046 (.t 43) (.t 45) 1 24), gt 9 46]
def r_Z99_11 : List GI := [gt 27 12, gd 28 .add 27 1, gt 12 28]
def r_Z99_12 : List GI := [gt 47 3, gt 48 47, ⟨.mov 49 (.t 11), some 49, some (48, true), false⟩, ⟨.un 50 UnOp.not (.t 49), some 50, some (48, true), false⟩, gi 51 (.pick 51 (.t 48) (.t 50) (.k (.v (.bool false))))]
def r_Z99_13 : List GI := [gt 52 9, gf 53 4 1, gl 54 53, gt 55 10, ga 56 54 55 1, gl 57 56, gf 58 5 0, gl 59 58, gc 60 87 [.t 59], gc 61 86 [.t 57, .t 60], gi 62 (.bsl 62 1 none [.nul] [(0, .t 61)]), gi 63 (.app 63 2000063 (.t 52) (.t 62) 1 24), gt 9 63]
def r_Z99_14 : List GI := [gt 20 10, gd 21 .add 20 1, gt 10 21]
def r_Z99_15 : List GI := [gf 64 4 0, gl 65 64, gf 66 5 0, gl 67 66, gb 68 .add 65 67, gt 69 9, gc 70 40 [.t 68, .t 69], g0 (.sto 8 (.t 70) (some 2))]
def dc_Z99 : DC := .seq (.z r_Z99_0) (.seq (.z r_Z99_1) (.seq (.seq (.z r_Z99_2) (.block 0 (.loop (.seq (.seq (.z r_Z99_3) (.cond (.t 19) .skip (.exit 0))) (.seq (.block 1 (.seq (.z r_Z99_4) (.seq (.seq (.z r_Z99_5) (.block 2 (.loop (.seq (.seq (.z r_Z99_6) (.cond (.t 26) .skip (.exit 2))) (.seq (.block 3 (.seq (.reg r_Z99_7 (some [0, 1, 0, 7, 15, 0, 32, 0, 224, 480, 1023, 2047])) (.seq (.z r_Z99_8) (.cond (.t 42) (.seq (.z r_Z99_9) (.z r_Z99_10)) .skip)))) (.z r_Z99_11)))))) (.seq (.z r_Z99_12) (.cond (.t 51) (.reg r_Z99_13 (some [0, 0, 2, 0, 14, 30, 0, 64, 192, 510, 1022, 2047, 4095])) .skip))))) (.z r_Z99_14)))))) (.seq (.z r_Z99_15) .ret)))
theorem c_Z99 : cfun Tryz.prog [] 43 = some (71, dc_Z99, [(Res.cell 8 (some 2))]) := by kernel_rfl
end
end Go.Proofs.YtlcmchjeakhajaaGreat
namespace Go.Proofs.YtlcmchjeakhajaaGreat
open Go.RowKit
noncomputable section
def r_Z31_0 : List GI := [gi 2 (.box 2 2000002 (.t 0) (some 3)), gi 3 (.box 3 2000003 (.t 1) none), gi 4 (.mov 4 (.k (.v .nilFunc)))]
def r_Z31_1 : List GI := [gi 5 (.mkf 5 104 [.t 3, .t 2]), gt 4 5]
def dc_Z31 : DC := .seq (.z r_Z31_0) (.seq (.z r_Z31_1) .ret)
theorem c_Z31 : cfun Tryz.prog [] 66 = some (6, dc_Z31, [(Res.tmp 4)]) := by kernel_rfl
def r_Z21_0 : List GI := [gi 2 (.box 2 2000002 (.t 0) (some 3)), gi 3 (.box 3 2000003 (.t 1) none), gi 4 (.mov 4 (.k (.v .nilFunc)))]
def r_Z21_1 : List GI := [gi 5 (.mkf 5 107 [.t 2, .t 3]), gt 4 5]
def dc_Z21 : DC := .seq (.z r_Z21_0) (.seq (.z r_Z21_1) .ret)
theorem c_Z21 : cfun Tryz.prog [] 67 = some (6, dc_Z21, [(Res.tmp 4)]) := by kernel_rfl
def r_Z19_0 : List GI := [gi 3 (.box 3 2000003 (.t 0) none)]
def r_Z19_1 : List GI := [gi 4 (.alloc 4 2000004 [.v (.bool false)]), g0 (.sto 4 (.k (.v (.bool false))) none)]
def r_Z19_2 : List GI := [gs 6 1 3, gl 7 2, gc 8 66 [.t 6, .t 7]]
def r_Z19_3 : List GI := [gt 5 9]
def r_Z19_4 : List GI := [g0 (.sto 4 (.k (.v (.bool true))) none)]
def r_Z19_5 : List GI := [gl 10 3, gt 11 5, ⟨.cal 12 (.t 10) [.t 11], some 12, none, true⟩, gi 13 (.un 13 UnOp.not (.t 12))]
def r_Z19_6 : List GI := [gl 14 4, gi 15 (.un 15 UnOp.not (.t 14))]
def r_Z19_7 : List GI := [gl 16 3, gl 17 2, gf 18 1 0, gf 19 18 0, gl 20 19, gc 21 106 [.t 20], gi 22 (.bsl 22 1 none [.nul, .nul] [(0, .t 17), (1, .t 21)]), gc 23 105 [.t 22], ⟨.cal 24 (.t 16) [.t 23], some 24, none, true⟩]
def dc_Z19 : DC := .seq (.z r_Z19_0) (.seq (.z r_Z19_1) (.seq (.seq (.z r_Z19_2) (.block 0 (.rng (.t 8) [9] (.z r_Z19_3) (.block 1 (.seq (.z r_Z19_4) (.seq (.z r_Z19_5) (.cond (.t 13) .ret .skip))))))) (.seq (.z r_Z19_6) (.cond (.t 15) (.reg r_Z19_7 (some [0, 0, 0, 4, 12, 28, 62, 126, 255])) .skip))))
theorem c_Z19 : cfun Tryz.prog [] 107 = some (25, dc_Z19, []) := by kernel_rfl
end
end Go.Proofs.YtlcmchjeakhajaaGreat
namespace Go.Proofs.YtlcmchjeakhajaaGreat
open Go.RowKit
noncomputable section
def r_Z92_0 : List GI := [gi 2 (.box 2 2000002 (.t 0) none), gi 3 (.box 3 2000003 (.t 1) none), gi 4 (.mov 4 (.k (.v .nilFunc)))]
def r_Z92_1 : List GI := [gi 5 (.mkf 5 103 [.t 2, .t 3]), gt 4 5]
def dc_Z92 : DC := .seq (.z r_Z92_0) (.seq (.z r_Z92_1) .ret)
theorem c_Z92 : cfun Tryz.prog [] 65 = some (6, dc_Z92, [(Res.tmp 4)]) := by kernel_rfl
def r_Z57_0 : List GI := [gi 3 (.box 3 2000003 (.t 0) none)]
def r_Z57_1 : List GI := [gl 7 1, gn 8 7, gk 9 0]
def r_Z57_2 : List GI := [gb 10 .lss 9 8]
def r_Z57_3 : List GI := [ga 11 7 9 1, gl 12 11, gt 5 12]
def r_Z57_4 : List GI := [gl 13 2, gt 14 5, ⟨.cal 15 (.t 13) [.t 14], some 15, none, true⟩]
def r_Z57_5 : List GI := [gt 6 16]
def r_Z57_6 : List GI := [gl 17 3, gt 18 6, ⟨.cal 19 (.t 17) [.t 18], some 19, none, true⟩, gi 20 (.un 20 UnOp.not (.t 19))]
def r_Z57_7 : List GI := [gd 21 .add 9 1, gt 9 21]
def dc_Z57 : DC := .seq (.z r_Z57_0) (.seq (.z r_Z57_1) (.block 0 (.loop (.seq (.z r_Z57_2) (.seq (.cond (.t 10) .skip (.exit 0)) (.seq (.block 1 (.seq (.z r_Z57_3) (.seq (.z r_Z57_4) (.block 2 (.rng (.t 15) [16] (.z r_Z57_5) (.block 3 (.seq (.z r_Z57_6) (.cond (.t 20) .ret .skip)))))))) (.z r_Z57_7)))))))
theorem c_Z57 : cfun Tryz.prog [] 103 = some (22, dc_Z57, []) := by kernel_rfl
end
end Go.Proofs.YtlcmchjeakhajaaGreat
namespace Go.Proofs.YtlcmchjeakhajaaGreat
open Go.RowKit
noncomputable section
def r_Z7_0 : List GI := [gi 4 (.mov 4 (.k .nul))]
def r_Z7_1 : List GI := [gt 9 1, gd 10 .lss 9 0]
def r_Z7_2 : List GI := [gt 13 0, gn 14 13, gi 15 (.cvt 15 .u64 (.t 14)), gt 16 1, gi 17 (.cvt 17 .u64 (.t 16)), gc 18 159 [.t 15, .t 17], gt 12 18, gi 19 (.ext 19 12 0), gi 20 (.ext 20 12 1), gt 5 19, gt 6 20]
def r_Z7_3 : List GI := [gt 21 5, gi 22 (.bin 22 .gtr (.t 21) (.k (.v (.int .u64 0)))), gt 23 22, ⟨.mov 24 (.t 6), some 24, some (23, false), false⟩, ⟨.bin 25 .gtr (.t 24) (.k (.v (.int .u64 9223372036854775807))), some 25, some (23, false), false⟩, gi 26 (.pick 26 (.t 23) (.k (.v (.bool true))) (.t 25))]
def r_Z7_4 : List GI := [gt 28 6, gi 29 (.cvt 29 .i64 (.t 28)), gi 30 (.mks 30 2000030 (.t 29) 2 16 (.agg [.v (.bool false), I 0])), gt 7 30]
def r_Z7_5 : List GI := [gt 31 7, gt 32 0, gi 33 (.cpy 33 (.t 31) (.t 32) 2), gt 8 33]
def r_Z7_6 : List GI := [gt 34 8, gt 35 7, gn 36 35, gb 37 .lss 34 36]
def r_Z7_7 : List GI := [gt 38 8, gt 39 7, gt 40 8, gi 41 (.slc 41 (.t 39) (some (.t 40)) none 2), gt 42 7, gt 43 8, gi 44 (.slc 44 (.t 42) none (some (.t 43)) 2), gi 45 (.cpy 45 (.t 41) (.t 44) 2), gb 46 .add 38 45, gt 8 46]
def r_Z7_8 : List GI := [gt 47 7, gt 4 47]
def dc_Z7 : DC := .seq (.z r_Z7_0) (.seq (.seq (.z r_Z7_1) (.cond (.t 10) .no .skip)) (.seq (.z r_Z7_2) (.seq (.seq (.z r_Z7_3) (.cond (.t 26) .no .skip)) (.seq (.z r_Z7_4) (.seq (.z r_Z7_5) (.seq (.block 0 (.loop (.seq (.seq (.z r_Z7_6) (.cond (.t 37) .skip (.exit 0))) (.block 1 (.reg r_Z7_7 (some [0, 0, 0, 6, 0, 0, 48, 126, 255, 511])))))) (.seq (.z r_Z7_8) .ret)))))))
theorem c_Z7 : cfun Tryz.prog [] 143 = some (48, dc_Z7, [(Res.tmp 4)]) := by kernel_rfl
end
end Go.Proofs.YtlcmchjeakhajaaGreat
namespace Go.Proofs.YtlcmchjeakhajaaGreat
open Go.RowKit
noncomputable section
def r_Z147_0 : List GI := [gi 2 (.mov 2 (.k .nul))]
def r_Z147_1 : List GI := [gi 3 (.build 3 [.v (.bool false), I 0] [(0, (none, .k (.v (.bool true))))]), gi 4 (.bsl 4 2 (some 2) [.agg [.v (.bool false), I 0]] [(0, .t 3)]), gt 5 0, gc 6 143 [.t 4, .t 5], gt 2 6]
def dc_Z147 : DC := .seq (.z r_Z147_0) (.seq (.z r_Z147_1) .ret)
theorem c_Z147 : cfun Tryz.prog [] 106 = some (7, dc_Z147, [(Res.tmp 2)]) := by kernel_rfl
end
end Go.Proofs.YtlcmchjeakhajaaGreat
set_option maxHeartbeats 4000000
set_option maxRecDepth 100000
namespace Go.Proofs.YtlcmchjeakhajaaGreat
open Go.ChangeShapes Go.WideShapes Go.ChangeAt Go.RowKit Go.Joins Go.Deep
def big : Nat := 9223372036854775807
section
variable {H : Type} {enc : TypeId × Value → H} {W : World} {base b0 : Nat} {held : Bool} {r : Reach} {v : Value} {d : DataW H} {p : List MemPlace}
theorem add_lit (b o j : Nat) : (⟨b, o, none⟩ : Addr).add j = ⟨b, o + j, none⟩ := by cases j <;> rfl
end
end Go.Proofs.YtlcmchjeakhajaaGreat
set_option maxHeartbeats 4000000
set_option maxRecDepth 100000
namespace Go.Proofs.YtlcmchjeakhajaaGreat
open Go.RowKit
mutual
def esz : E → Nat
  | .mk _ _ _ ks => 1 + eszL ks
def eszL : List E → Nat
  | [] => 0
  | e :: l => esz e + eszL l
end
theorem esz_eq (e : E) : esz e = 1 + eszL e.ks := by cases e; rfl
theorem eszL_append : ∀ (l m : List E), eszL (l ++ m) = eszL l + eszL m
  | [], m => by rw [List.nil_append, eszL, Nat.zero_add]
  | e :: l, m => by rw [List.cons_append, eszL, eszL, eszL_append l m]; omega
theorem eszL_len : ∀ l : List E, l.length ≤ eszL l
  | [] => Nat.le_refl _
  | e :: l => by
    have := eszL_len l
    rw [eszL, esz_eq, List.length_cons]
    omega
theorem eszL_mem {e : E} {l : List E} (h : e ∈ l) : esz e ≤ eszL l := by
  induction l with
  | nil => cases h
  | cons x l ih =>
    rw [eszL]
    rcases List.mem_cons.1 h with rfl | h
    · omega
    · have := ih h; omega
end Go.Proofs.YtlcmchjeakhajaaGreat
namespace Go.Proofs.YtlcmchjeakhajaaGreat
open Go.RowKit
noncomputable section
def r_Z82_0 : List GI := [gi 3 (.box 3 2000003 (.t 0) (some 5)), gk 6 0]
def r_Z82_1 : List GI := [gt 11 2, gd 12 .lss 11 0, gt 13 12, ⟨.lod 14 3 (some 5), some 14, some (13, false), false⟩, ⟨.call 15 55 [.t 14], some 15, some (13, false), true⟩, ⟨.un 16 UnOp.not (.t 15), some 16, some (13, false), false⟩, gi 17 (.pick 17 (.t 13) (.k (.v (.bool true))) (.t 16))]
def r_Z82_2 : List GI := [gk 6 0]
def r_Z82_3 : List GI := [gf 18 3 0, gl 19 18, gd 20 .eql 19 1]
def r_Z82_4 : List GI := [gf 21 3 1, gl 22 21, gd 23 .lss 22 0, gt 24 23, ⟨.fad 25 3 1, some 25, some (24, false), false⟩, ⟨.lod 26 25 none, some 26, some (24, false), false⟩, ⟨.mov 27 (.t 1), some 27, some (24, false), false⟩, ⟨.len 28 (.t 27), some 28, some (24, false), false⟩, ⟨.bin 29 .geq (.t 26) (.t 28), some 29, some (24, false), false⟩, gi 30 (.pick 30 (.t 24) (.k (.v (.bool true))) (.t 29))]
def r_Z82_5 : List GI := [gk 6 0]
def r_Z82_6 : List GI := [gt 31 1, gf 32 3 1, gl 33 32, ga 34 31 33 1, gl 35 34, gt 6 35]
def r_Z82_7 : List GI := [gi 7 (.mov 7 (.k .nul))]
def r_Z82_8 : List GI := [gf 36 3 4, gl 37 36, gn 38 37, gk 39 0]
def r_Z82_9 : List GI := [gb 40 .lss 39 38]
def r_Z82_10 : List GI := [ga 41 37 39 5, gs 42 41 5, gi 9 (.alloc 9 2000009 [I 0, I 0, .nul, .nul, .nul]), g0 (.sto 9 (.t 42) (some 5))]
def r_Z82_11 : List GI := [gs 43 9 5, gt 44 1, gt 45 2, gd 46 .sub 45 1, gc 47 29 [.t 43, .t 44, .t 46], gt 10 47]
def r_Z82_12 : List GI := [gt 48 10, gd 49 .eql 48 0]
def r_Z82_13 : List GI := [gk 6 0]
def r_Z82_14 : List GI := [gt 50 7, gt 51 10, gi 52 (.bsl 52 1 none [I 0] [(0, .t 51)]), gi 53 (.app 53 2000053 (.t 50) (.t 52) 1 8), gt 7 53]
def r_Z82_15 : List GI := [gd 54 .add 39 1, gt 39 54]
def r_Z82_16 : List GI := [gs 55 3 5, gt 56 7, gc 57 56 [.t 55, .t 56], gi 58 (.un 58 UnOp.not (.t 57))]
def r_Z82_17 : List GI := [gk 6 0]
def r_Z82_18 : List GI := [gs 59 3 5, gt 60 7, gc 61 31 [.t 59, .t 60], gt 6 61]
def dc_Z82 : DC := .seq (.z r_Z82_0) (.seq (.seq (.z r_Z82_1) (.cond (.t 17) (.seq (.z r_Z82_2) .ret) .skip)) (.seq (.seq (.z r_Z82_3) (.cond (.t 20) (.seq (.seq (.z r_Z82_4) (.cond (.t 30) (.seq (.z r_Z82_5) .ret) .skip)) (.seq (.z r_Z82_6) .ret)) .skip)) (.seq (.z r_Z82_7) (.seq (.seq (.z r_Z82_8) (.block 0 (.loop (.seq (.z r_Z82_9) (.seq (.cond (.t 40) .skip (.exit 0)) (.seq (.block 1 (.seq (.z r_Z82_10) (.seq (.z r_Z82_11) (.seq (.seq (.z r_Z82_12) (.cond (.t 49) (.seq (.z r_Z82_13) .ret) .skip)) (.z r_Z82_14))))) (.z r_Z82_15))))))) (.seq (.seq (.z r_Z82_16) (.cond (.t 58) (.seq (.z r_Z82_17) .ret) .skip)) (.seq (.z r_Z82_18) .ret))))))
theorem c_Z82 : cfun Tryz.prog [] 29 = some (62, dc_Z82, [(Res.tmp 6)]) := by kernel_rfl
end
end Go.Proofs.YtlcmchjeakhajaaGreat
