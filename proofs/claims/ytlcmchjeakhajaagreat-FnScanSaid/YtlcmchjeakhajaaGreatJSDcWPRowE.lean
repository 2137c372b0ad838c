/-
  Functions of the program read as code on plain data. Closed facts of the program alone.
-/
import Derived.KernelRfl
import Derived.Test.YtlcmchjeakhajaaGreatRows
import Derived.Test.YtlcmchjeakhajaaGreatJSVGo
import Derived.Test.YtlcmchjeakhajaaGreatJSVTbD
namespace Go.Proofs.YtlcmchjeakhajaaGreat
open Go.RowKit
noncomputable section
def r_Z113_0 : List GI := [gi 4 (.mov 4 (.k (.v (.bool false))))]
def r_Z113_1 : List GI := [gt 6 0, gn 7 6, gt 8 1, gn 9 8, gb 10 .neq 7 9]
def r_Z113_2 : List GI := [gi 4 (.mov 4 (.k (.v (.bool false))))]
def r_Z113_3 : List GI := [gk 5 0]
def r_Z113_4 : List GI := [gt 11 5, gt 12 0, gn 13 12, gb 14 .lss 11 13]
def r_Z113_5 : List GI := [gt 17 0, gt 18 5, ga 19 17 18 1, gl 20 19, gt 21 1, gt 22 5, ga 23 21 22 1, gl 24 23, gc 25 47 [.t 20, .t 24], gi 26 (.un 26 UnOp.not (.t 25))]
def r_Z113_6 : List GI := [gi 4 (.mov 4 (.k (.v (.bool false))))]
def r_Z113_7 : List GI := [gt 15 5, gd 16 .add 15 1, gt 5 16]
def r_Z113_8 : List GI := [gi 4 (.mov 4 (.k (.v (.bool true))))]
def dc_Z113 : DC := .seq (.z r_Z113_0) (.seq (.seq (.z r_Z113_1) (.cond (.t 10) (.seq (.z r_Z113_2) .ret) .skip)) (.seq (.seq (.z r_Z113_3) (.block 0 (.loop (.seq (.seq (.z r_Z113_4) (.cond (.t 14) .skip (.exit 0))) (.seq (.block 1 (.seq (.reg r_Z113_5 (some [0, 0, 3, 7, 0, 0, 48, 112, 255, 511])) (.cond (.t 26) (.seq (.z r_Z113_6) .ret) .skip))) (.z r_Z113_7)))))) (.seq (.z r_Z113_8) .ret)))
theorem c_Z113 : cfun Tryz.prog [] 22 = some (27, dc_Z113, [(Res.tmp 4)]) := by kernel_rfl
def r_Z83_0 : List GI := [gi 2 (.box 2 2000002 (.t 0) (some 2)), gi 3 (.box 3 2000003 (.t 1) (some 2)), gi 4 (.mov 4 (.k (.v (.bool false))))]
def r_Z83_1 : List GI := [gf 5 2 0, gl 6 5, gf 7 3 0, gl 8 7, gb 9 .eql 6 8, gt 10 9, ⟨.fad 11 2 1, some 11, some (10, true), false⟩, ⟨.lod 12 11 none, some 12, some (10, true), false⟩, ⟨.fad 13 3 1, some 13, some (10, true), false⟩, ⟨.lod 14 13 none, some 14, some (10, true), false⟩, ⟨.call 15 22 [.t 12, .t 14], some 15, some (10, true), true⟩, gi 16 (.pick 16 (.t 10) (.t 15) (.k (.v (.bool false)))), gt 4 16]
def dc_Z83 : DC := .seq (.z r_Z83_0) (.seq (.z r_Z83_1) .ret)
theorem c_Z83 : cfun Tryz.prog [] 8 = some (17, dc_Z83, [(Res.tmp 4)]) := by kernel_rfl
def r_Z91_0 : List GI := [gi 1 (.box 1 2000001 (.t 0) (some 2)), gi 2 (.mov 2 (.k (.v (.bool false))))]
def r_Z91_1 : List GI := [gf 3 1 1, gl 4 3, gf 5 1 0, gl 6 5, gc 7 57 [.t 4, .t 6], gt 8 7, ⟨.fad 9 1 1, some 9, some (8, true), false⟩, ⟨.lod 10 9 none, some 10, some (8, true), false⟩, ⟨.call 11 58 [.t 10, .k (.fn 35 [])], some 11, some (8, true), true⟩, gi 12 (.pick 12 (.t 8) (.t 11) (.k (.v (.bool false)))), gt 2 12]
def dc_Z91 : DC := .seq (.z r_Z91_0) (.seq (.z r_Z91_1) .ret)
theorem c_Z91 : cfun Tryz.prog [] 30 = some (13, dc_Z91, [(Res.tmp 2)]) := by kernel_rfl
def r_Z0_0 : List GI := [gi 4 (.mov 4 (.k (.v (.bool false))))]
def r_Z0_1 : List GI := [gt 6 0, gn 7 6, gd 8 .sub 7 1, gt 5 8]
def r_Z0_2 : List GI := [gt 9 5, gd 10 .gtr 9 0]
def r_Z0_3 : List GI := [gt 13 1, gt 14 0, gt 15 5, ga 16 14 15 1, gl 17 16, gt 18 0, gt 19 5, gd 20 .sub 19 1, ga 21 18 20 1, gl 22 21, ⟨.cal 23 (.t 13) [.t 17, .t 22], some 23, none, true⟩, gd 24 .lss 23 0]
def r_Z0_4 : List GI := [gi 4 (.mov 4 (.k (.v (.bool false))))]
def r_Z0_5 : List GI := [gt 11 5, gd 12 .sub 11 1, gt 5 12]
def r_Z0_6 : List GI := [gi 4 (.mov 4 (.k (.v (.bool true))))]
def dc_Z0 : DC := .seq (.z r_Z0_0) (.seq (.seq (.z r_Z0_1) (.block 0 (.loop (.seq (.seq (.z r_Z0_2) (.cond (.t 10) .skip (.exit 0))) (.seq (.block 1 (.seq (.reg r_Z0_3 (some [0, 0, 0, 6, 14, 0, 0, 64, 224, 480, 1023, 2047])) (.cond (.t 24) (.seq (.z r_Z0_4) .ret) .skip))) (.z r_Z0_5)))))) (.seq (.z r_Z0_6) .ret))
theorem c_Z0 : cfun Tryz.prog [] 58 = some (25, dc_Z0, [(Res.tmp 4)]) := by kernel_rfl
def r_Z108_0 : List GI := [gi 2 (.mov 2 (.k .nul))]
def r_Z108_1 : List GI := [gi 3 (.mov 3 (.k .nul))]
def r_Z108_2 : List GI := [gt 6 0, gn 7 6, gk 8 0]
def r_Z108_3 : List GI := [gb 9 .lss 8 7]
def r_Z108_4 : List GI := [ga 10 6 8 1, gl 11 10, gt 5 11]
def r_Z108_5 : List GI := [gt 12 3, gt 13 5, gc 14 36 [.t 13], gi 15 (.bsl 15 1 none [.nul] [(0, .t 14)]), gi 16 (.app 16 2000016 (.t 12) (.t 15) 1 24), gt 3 16]
def r_Z108_6 : List GI := [gd 17 .add 8 1, gt 8 17]
def r_Z108_7 : List GI := [gt 18 3, gt 2 18]
def dc_Z108 : DC := .seq (.z r_Z108_0) (.seq (.z r_Z108_1) (.seq (.seq (.z r_Z108_2) (.block 0 (.loop (.seq (.z r_Z108_3) (.seq (.cond (.t 9) .skip (.exit 0)) (.seq (.block 1 (.seq (.z r_Z108_4) (.z r_Z108_5))) (.z r_Z108_6))))))) (.seq (.z r_Z108_7) .ret)))
theorem c_Z108 : cfun Tryz.prog [] 18 = some (19, dc_Z108, [(Res.tmp 2)]) := by kernel_rfl
def r_Z76_0 : List GI := [gi 4 (.alloc 4 2000004 [I 0, .nul])]
def r_Z76_1 : List GI := [gt 5 1, ⟨.call 6 34 [.t 5, .k (.fn 35 [])], some 6, none, true⟩]
def r_Z76_2 : List GI := [gt 7 0, gt 8 1, gi 9 (.build 9 [I 0, .nul] [(0, (none, .t 7)), (1, (none, .t 8))]), g0 (.sto 4 (.t 9) (some 2))]
def dc_Z76 : DC := .seq (.z r_Z76_0) (.seq (.z r_Z76_1) (.seq (.z r_Z76_2) .ret))
theorem c_Z76 : cfun Tryz.prog [] 17 = some (10, dc_Z76, [(Res.cell 4 (some 2))]) := by kernel_rfl
def r_Z8_0 : List GI := [gi 2 (.mov 2 (.k .nul))]
def r_Z8_1 : List GI := [gt 3 0, gi 4 (.isn 4 false (.t 3))]
def r_Z8_2 : List GI := [gi 2 (.mov 2 (.k .nul))]
def r_Z8_3 : List GI := [gi 5 (.mov 5 (.k .nul)), gt 6 0, gi 7 (.app 7 2000007 (.t 5) (.t 6) 2 16), gt 2 7]
def dc_Z8 : DC := .seq (.z r_Z8_0) (.seq (.seq (.z r_Z8_1) (.cond (.t 4) (.seq (.z r_Z8_2) .ret) .skip)) (.seq (.z r_Z8_3) .ret))
theorem c_Z8 : cfun Tryz.prog [] 36 = some (8, dc_Z8, [(Res.tmp 2)]) := by kernel_rfl
def r_Z131_0 : List GI := [gi 4 (.mov 4 (.k (.v (.int .u64 0)))), gi 5 (.mov 5 (.k (.v (.int .u64 0))))]
def r_Z131_1 : List GI := [gt 11 0, gi 12 (.cvt 12 .u32 (.t 11)), gt 13 1, gi 14 (.cvt 14 .u32 (.t 13)), gc 15 165 [.t 12, .t 14], gt 10 15, gi 16 (.ext 16 10 0), gi 17 (.ext 17 10 1), gt 6 16, gt 7 17]
def r_Z131_2 : List GI := [gt 18 6, gi 19 (.cvt 19 .u64 (.t 18)), gt 20 7, gi 21 (.cvt 21 .u64 (.t 20)), gt 4 19, gt 5 21]
def r_Z131_3 : List GI := [gt 23 0, gt 24 1, gc 25 166 [.t 23, .t 24], gt 22 25, gi 26 (.ext 26 22 0), gi 27 (.ext 27 22 1), gt 8 26, gt 9 27]
def r_Z131_4 : List GI := [gt 28 8, gt 29 9, gt 4 28, gt 5 29]
def dc_Z131 : DC := .seq (.z r_Z131_0) (.seq (.cond (.k (.v (.bool false))) (.seq (.z r_Z131_1) (.seq (.z r_Z131_2) .ret)) .skip) (.seq (.z r_Z131_3) (.seq (.z r_Z131_4) .ret)))
theorem c_Z131 : cfun Tryz.prog [] 159 = some (30, dc_Z131, [(Res.tmp 4), (Res.tmp 5)]) := by kernel_rfl
def r_Z97_0 : List GI := [gi 4 (.mov 4 (.k (.v (.int .u64 0)))), gi 5 (.mov 5 (.k (.v (.int .u64 0))))]
def r_Z97_1 : List GI := [gt 14 0, gi 15 (.bin 15 .and (.t 14) (.k (.v (.int .u64 4294967295)))), gt 6 15]
def r_Z97_2 : List GI := [gt 16 0, gi 17 (.bin 17 .shr (.t 16) (.k (.v (.int .u64 32)))), gt 7 17]
def r_Z97_3 : List GI := [gt 18 1, gi 19 (.bin 19 .and (.t 18) (.k (.v (.int .u64 4294967295)))), gt 8 19]
def r_Z97_4 : List GI := [gt 20 1, gi 21 (.bin 21 .shr (.t 20) (.k (.v (.int .u64 32)))), gt 9 21]
def r_Z97_5 : List GI := [gt 22 6, gt 23 8, gb 24 .mul 22 23, gt 10 24]
def r_Z97_6 : List GI := [gt 25 7, gt 26 8, gb 27 .mul 25 26, gt 28 10, gi 29 (.bin 29 .shr (.t 28) (.k (.v (.int .u64 32)))), gb 30 .add 27 29, gt 11 30]
def r_Z97_7 : List GI := [gt 31 11, gi 32 (.bin 32 .and (.t 31) (.k (.v (.int .u64 4294967295)))), gt 12 32]
def r_Z97_8 : List GI := [gt 33 11, gi 34 (.bin 34 .shr (.t 33) (.k (.v (.int .u64 32)))), gt 13 34]
def r_Z97_9 : List GI := [gt 35 12, gt 36 6, gt 37 9, gb 38 .mul 36 37, gb 39 .add 35 38, gt 12 39]
def r_Z97_10 : List GI := [gt 40 7, gt 41 9, gb 42 .mul 40 41, gt 43 13, gb 44 .add 42 43, gt 45 12, gi 46 (.bin 46 .shr (.t 45) (.k (.v (.int .u64 32)))), gb 47 .add 44 46, gt 4 47]
def r_Z97_11 : List GI := [gt 48 0, gt 49 1, gb 50 .mul 48 49, gt 5 50]
def dc_Z97 : DC := .seq (.z r_Z97_0) (.seq (.z r_Z97_1) (.seq (.z r_Z97_2) (.seq (.z r_Z97_3) (.seq (.z r_Z97_4) (.seq (.z r_Z97_5) (.seq (.z r_Z97_6) (.seq (.z r_Z97_7) (.seq (.z r_Z97_8) (.seq (.z r_Z97_9) (.seq (.z r_Z97_10) (.seq (.z r_Z97_11) .ret)))))))))))
theorem c_Z97 : cfun Tryz.prog [] 166 = some (51, dc_Z97, [(Res.tmp 4), (Res.tmp 5)]) := by kernel_rfl
def r_Z6_0 : List GI := [gi 2 (.mov 2 (.k .nul))]
def r_Z6_1 : List GI := [gk 3 0]
def r_Z6_2 : List GI := [gt 9 0, gn 10 9, gk 11 0]
def r_Z6_3 : List GI := [gb 12 .lss 11 10]
def r_Z6_4 : List GI := [ga 13 9 11 1, gl 14 13, gt 5 14]
def r_Z6_5 : List GI := [gt 15 3, gt 16 5, gn 17 16, gb 18 .add 15 17, gt 3 18]
def r_Z6_6 : List GI := [gt 19 3, gd 20 .lss 19 0]
def r_Z6_7 : List GI := [gd 22 .add 11 1, gt 11 22]
def r_Z6_8 : List GI := [gt 23 3, gc 24 142 [.k .nul, .t 23], gt 6 24]
def r_Z6_9 : List GI := [gt 25 0, gn 26 25, gk 27 0]
def r_Z6_10 : List GI := [gb 28 .lss 27 26]
def r_Z6_11 : List GI := [ga 29 25 27 1, gl 30 29, gt 8 30]
def r_Z6_12 : List GI := [gt 31 6, gt 32 8, gi 33 (.app 33 2000033 (.t 31) (.t 32) 2 16), gt 6 33]
def r_Z6_13 : List GI := [gd 34 .add 27 1, gt 27 34]
def r_Z6_14 : List GI := [gt 35 6, gt 2 35]
def dc_Z6 : DC := .seq (.z r_Z6_0) (.seq (.z r_Z6_1) (.seq (.seq (.z r_Z6_2) (.block 0 (.loop (.seq (.z r_Z6_3) (.seq (.cond (.t 12) .skip (.exit 0)) (.seq (.block 1 (.seq (.z r_Z6_4) (.seq (.z r_Z6_5) (.seq (.z r_Z6_6) (.cond (.t 20) .no .skip))))) (.z r_Z6_7))))))) (.seq (.z r_Z6_8) (.seq (.seq (.z r_Z6_9) (.block 2 (.loop (.seq (.z r_Z6_10) (.seq (.cond (.t 28) .skip (.exit 2)) (.seq (.block 3 (.seq (.z r_Z6_11) (.z r_Z6_12))) (.z r_Z6_13))))))) (.seq (.z r_Z6_14) .ret)))))
theorem c_Z6 : cfun Tryz.prog [] 105 = some (36, dc_Z6, [(Res.tmp 2)]) := by kernel_rfl
def r_Z9_0 : List GI := [gi 4 (.mov 4 (.k .nul))]
def r_Z9_1 : List GI := [gt 5 1, gd 6 .lss 5 0]
def r_Z9_2 : List GI := [gt 8 1, gt 9 0, gi 10 (.capn 10 (.t 9)), gt 11 0, gn 12 11, gb 13 .sub 10 12, gb 14 .sub 8 13, gt 1 14]
def r_Z9_3 : List GI := [gt 15 1, gd 16 .gtr 15 0]
def r_Z9_4 : List GI := [gt 17 0, gt 18 0, gi 19 (.capn 19 (.t 18)), gi 20 (.slc 20 (.t 17) none (some (.t 19)) 2), gt 21 1, gi 22 (.apm 22 2000022 (.t 20) (.t 21) 2 16 (.agg [.v (.bool false), I 0])), gt 23 0, gn 24 23, gi 25 (.slc 25 (.t 22) none (some (.t 24)) 2), gt 0 25]
def r_Z9_5 : List GI := [gt 26 0, gt 4 26]
def dc_Z9 : DC := .seq (.z r_Z9_0) (.seq (.seq (.z r_Z9_1) (.cond (.t 6) .no .skip)) (.seq (.seq (.z r_Z9_2) (.seq (.z r_Z9_3) (.cond (.t 16) (.z r_Z9_4) .skip))) (.seq (.z r_Z9_5) .ret)))
theorem c_Z9 : cfun Tryz.prog [] 142 = some (27, dc_Z9, [(Res.tmp 4)]) := by kernel_rfl
end
end Go.Proofs.YtlcmchjeakhajaaGreat
namespace Go.Proofs.YtlcmchjeakhajaaGreat
open Go.RowKit
noncomputable section
def r_Z114_0 : List GI := [gi 4 (.mov 4 (.k (.v (.bool false))))]
def r_Z114_1 : List GI := [gt 6 0, gn 7 6, gt 8 1, gn 9 8, gb 10 .neq 7 9]
def r_Z114_2 : List GI := [gi 4 (.mov 4 (.k (.v (.bool false))))]
def r_Z114_3 : List GI := [gk 5 0]
def r_Z114_4 : List GI := [gt 11 5, gt 12 0, gn 13 12, gb 14 .lss 11 13]
def r_Z114_5 : List GI := [gt 17 0, gt 18 5, ga 19 17 18 2, gs 20 19 2, gt 21 1, gt 22 5, ga 23 21 22 2, gs 24 23 2, gi 25 (.eqs 25 true [false, true] (.t 20) (.t 24))]
def r_Z114_6 : List GI := [gi 4 (.mov 4 (.k (.v (.bool false))))]
def r_Z114_7 : List GI := [gt 15 5, gd 16 .add 15 1, gt 5 16]
def r_Z114_8 : List GI := [gi 4 (.mov 4 (.k (.v (.bool true))))]
def dc_Z114 : DC := .seq (.z r_Z114_0) (.seq (.seq (.z r_Z114_1) (.cond (.t 10) (.seq (.z r_Z114_2) .ret) .skip)) (.seq (.seq (.z r_Z114_3) (.block 0 (.loop (.seq (.seq (.z r_Z114_4) (.cond (.t 14) .skip (.exit 0))) (.seq (.block 1 (.seq (.reg r_Z114_5 (some [0, 0, 3, 7, 0, 0, 48, 112, 255])) (.cond (.t 25) (.seq (.z r_Z114_6) .ret) .skip))) (.z r_Z114_7)))))) (.seq (.z r_Z114_8) .ret)))
theorem c_Z114 : cfun Tryz.prog [] 47 = some (26, dc_Z114, [(Res.tmp 4)]) := by kernel_rfl
end
end Go.Proofs.YtlcmchjeakhajaaGreat
