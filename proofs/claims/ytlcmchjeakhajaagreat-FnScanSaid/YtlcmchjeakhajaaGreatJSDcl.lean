/-
  Functions of the program read as code on plain data. Closed facts of the program alone.
-/
import Derived.KernelRfl
import Derived.Test.YtlcmchjeakhajaaGreatRows
import Derived.Test.YtlcmchjeakhajaaGreatJSVGo
import Derived.Test.YtlcmchjeakhajaaGreatJSVTbD
namespace Go.Proofs.YtlcmchjeakhajaaGreat
open Go.RowKit
noncomputable section
def r_Z37_0 : List GI := [gk 6 0]
def r_Z37_1 : List GI := [gt 10 2, gn 11 10, gk 12 0]
def r_Z37_2 : List GI := [gb 13 .lss 12 11]
def r_Z37_3 : List GI := [ga 14 10 12 1, gl 15 14, gt 8 15]
def r_Z37_4 : List GI := [gt 16 0, gt 17 8, ga 18 16 17 2, gs 19 18 2, gt 20 1, gt 21 8, ga 22 20 21 2, gs 23 22 2, gc 24 75 [.t 19, .t 23], gt 9 24]
def r_Z37_5 : List GI := [gt 25 9, gd 26 .neq 25 0]
def r_Z37_6 : List GI := [gt 27 9, gt 6 27]
def r_Z37_7 : List GI := [gd 28 .add 12 1, gt 12 28]
def r_Z37_8 : List GI := [gk 6 0]
def dc_Z37 : DC := .seq (.z r_Z37_0) (.seq (.seq (.z r_Z37_1) (.block 0 (.loop (.seq (.z r_Z37_2) (.seq (.cond (.t 13) .skip (.exit 0)) (.seq (.block 1 (.seq (.z r_Z37_3) (.seq (.reg r_Z37_4 (some [0, 0, 3, 7, 0, 0, 48, 112, 255, 511])) (.seq (.z r_Z37_5) (.cond (.t 26) (.seq (.z r_Z37_6) .ret) .skip))))) (.z r_Z37_7))))))) (.seq (.z r_Z37_8) .ret))
theorem c_Z37 : cfun Tryz.prog [] 114 = some (29, dc_Z37, [(Res.tmp 6)]) := by kernel_rfl
def r_Z74_0 : List GI := [gi 3 (.box 3 2000003 (.t 0) none), gi 4 (.box 4 2000004 (.t 1) none), gi 5 (.box 5 2000005 (.t 2) none), gi 6 (.mov 6 (.k (.v .nilFunc)))]
def r_Z74_1 : List GI := [gi 8 (.mkf 8 113 [.t 4]), gi 7 (.alloc 7 2000007 [.v .nilFunc]), g0 (.sto 7 (.t 8) none)]
def r_Z74_2 : List GI := [gi 9 (.mkf 9 115 [.t 3, .t 7, .t 4, .t 5]), gt 6 9]
def dc_Z74 : DC := .seq (.z r_Z74_0) (.seq (.z r_Z74_1) (.seq (.z r_Z74_2) .ret))
theorem c_Z74 : cfun Tryz.prog [] 71 = some (10, dc_Z74, [(Res.tmp 6)]) := by kernel_rfl
def r_Z46_0 : List GI := [gk 5 0]
def r_Z46_1 : List GI := [gt 6 0, gt 7 1, gl 8 2, gc 9 114 [.t 6, .t 7, .t 8], gt 5 9]
def dc_Z46 : DC := .seq (.z r_Z46_0) (.seq (.z r_Z46_1) .ret)
theorem c_Z46 : cfun Tryz.prog [] 113 = some (10, dc_Z46, [(Res.tmp 5)]) := by kernel_rfl
def r_Z47_0 : List GI := [gi 5 (.box 5 2000005 (.t 0) none)]
def r_Z47_1 : List GI := [gl 10 1, gl 11 2, gc 12 112 [.t 10, .t 11], gl 13 2, gc 14 111 [.t 12, .t 13]]
def r_Z47_2 : List GI := [gt 6 15]
def r_Z47_3 : List GI := [gi 7 (.mov 7 (.k .nul))]
def r_Z47_4 : List GI := [gl 16 3, gn 17 16, gk 18 0]
def r_Z47_5 : List GI := [gb 19 .lss 18 17]
def r_Z47_6 : List GI := [ga 20 16 18 1, gl 21 20, gt 9 21]
def r_Z47_7 : List GI := [gt 22 7, gt 23 6, gi 24 (.iad 24 23 (.k (I 0)) 1), gl 25 24, gt 26 9, ga 27 25 26 2, gs 28 27 2, gi 29 (.bsl 29 2 (some 2) [.agg [.v (.bool false), I 0]] [(0, .t 28)]), gi 30 (.app 30 2000030 (.t 22) (.t 29) 2 16), gt 7 30]
def r_Z47_8 : List GI := [gd 31 .add 18 1, gt 18 31]
def r_Z47_9 : List GI := [gl 32 5, gt 33 7, gl 34 4, gt 35 6, ⟨.cal 36 (.t 34) [.t 35], some 36, none, true⟩, gi 37 (.bsl 37 2 (some 2) [.agg [.v (.bool false), I 0]] [(0, .t 36)]), gi 38 (.app 38 2000038 (.t 33) (.t 37) 2 16), ⟨.cal 39 (.t 32) [.t 38], some 39, none, true⟩, gi 40 (.un 40 UnOp.not (.t 39))]
def dc_Z47 : DC := .seq (.z r_Z47_0) (.seq (.reg r_Z47_1 (some [0, 0, 3, 0, 15])) (.block 0 (.rng (.t 14) [15] (.z r_Z47_2) (.block 1 (.seq (.z r_Z47_3) (.seq (.seq (.z r_Z47_4) (.block 2 (.loop (.seq (.z r_Z47_5) (.seq (.cond (.t 19) .skip (.exit 2)) (.seq (.block 3 (.seq (.z r_Z47_6) (.z r_Z47_7))) (.z r_Z47_8))))))) (.seq (.reg r_Z47_9 (some [0, 0, 0, 0, 12, 28, 62, 127, 255])) (.cond (.t 40) .ret .skip))))))))
theorem c_Z47 : cfun Tryz.prog [] 115 = some (41, dc_Z47, []) := by kernel_rfl
def r_Z59_0 : List GI := [gi 2 (.alloc 2 2000002 [.v (.bool false), I 0])]
def r_Z59_1 : List GI := [gt 3 0, gn 4 3, gi 5 (.build 5 [.v (.bool false), I 0] [(1, (none, .t 4))]), g0 (.sto 2 (.t 5) (some 2))]
def dc_Z59 : DC := .seq (.z r_Z59_0) (.seq (.z r_Z59_1) .ret)
theorem c_Z59 : cfun Tryz.prog [] 72 = some (6, dc_Z59, [(Res.cell 2 (some 2))]) := by kernel_rfl
end
end Go.Proofs.YtlcmchjeakhajaaGreat
namespace Go.Proofs.YtlcmchjeakhajaaGreat
open Go.RowKit
noncomputable section
def r_Z98_0 : List GI := [gi 2 (.box 2 2000002 (.t 0) (some 2)), gi 4 (.alloc 4 2000004 [I 0, .nul])]
def r_Z98_1 : List GI := [gi 12 (.mov 12 (.k .nul)), gt 5 12]
def r_Z98_2 : List GI := [gi 13 (.mov 13 (.k .nul)), gt 6 13]
def r_Z98_3 : List GI := [gk 7 0]
def r_Z98_4 : List GI := [gt 14 7, gf 15 2 1, gl 16 15, gn 17 16, gb 18 .lss 14 17]
def r_Z98_5 : List GI := [gf 21 2 1, gl 22 21, gt 23 7, ga 24 22 23 1, gl 25 24, gt 26 1, gc 27 88 [.t 25, .t 26], gt 8 27]
def r_Z98_6 : List GI := [gk 9 0]
def r_Z98_7 : List GI := [gt 28 9, gt 29 5, gn 30 29, gb 31 .lss 28 30, gt 32 31, ⟨.mov 33 (.t 5), some 33, some (32, true), false⟩, ⟨.mov 34 (.t 9), some 34, some (32, true), false⟩, ⟨.iad 35 33 (.t 34) 1, some 35, some (32, true), false⟩, ⟨.lod 36 35 none, some 36, some (32, true), false⟩, ⟨.mov 37 (.t 8), some 37, some (32, true), false⟩, ⟨.call 38 82 [.t 36, .t 37], some 38, some (32, true), true⟩, ⟨.bin 39 .neq (.t 38) (.k (I 0)), some 39, some (32, true), false⟩, gi 40 (.pick 40 (.t 32) (.t 39) (.k (.v (.bool false))))]
def r_Z98_8 : List GI := [gt 41 9, gd 42 .add 41 1, gt 9 42]
def r_Z98_9 : List GI := [gt 43 9, gt 44 5, gn 45 44, gb 46 .eql 43 45]
def r_Z98_10 : List GI := [gt 47 5, gt 48 8, gi 49 (.bsl 49 1 none [.nul] [(0, .t 48)]), gi 50 (.app 50 2000050 (.t 47) (.t 49) 1 24), gt 5 50]
def r_Z98_11 : List GI := [gt 51 6, gi 52 (.bsl 52 1 none [I 0] [(0, .k (I 0))]), gi 53 (.app 53 2000053 (.t 51) (.t 52) 1 8), gt 6 53]
def r_Z98_12 : List GI := [gt 54 6, gt 55 9, gt 56 6, gt 57 9, ga 58 56 57 1, gl 59 58, gd 60 .add 59 1, ga 61 54 55 1, g0 (.sto 61 (.t 60) none)]
def r_Z98_13 : List GI := [gt 19 7, gd 20 .add 19 1, gt 7 20]
def r_Z98_14 : List GI := [gi 62 (.mov 62 (.k .nul)), gt 10 62]
def r_Z98_15 : List GI := [gk 11 0]
def r_Z98_16 : List GI := [gt 63 11, gt 64 5, gn 65 64, gb 66 .lss 63 65]
def r_Z98_17 : List GI := [gt 69 10, gt 70 5, gt 71 11, ga 72 70 71 1, gl 73 72, gt 74 6, gt 75 11, ga 76 74 75 1, gl 77 76, gi 78 (.build 78 [.v (.bool false), I 0] [(1, (none, .t 77))]), gi 79 (.bsl 79 2 (some 2) [.agg [.v (.bool false), I 0]] [(0, .t 78)]), gc 80 86 [.t 73, .t 79], gi 81 (.bsl 81 1 none [.nul] [(0, .t 80)]), gi 82 (.app 82 2000082 (.t 69) (.t 81) 1 24), gt 10 82]
def r_Z98_18 : List GI := [gt 67 11, gd 68 .add 67 1, gt 11 68]
def r_Z98_19 : List GI := [gt 83 1, gn 84 83, gd 85 .add 84 1, gt 86 10, gc 87 40 [.t 85, .t 86], g0 (.sto 4 (.t 87) (some 2))]
def dc_Z98 : DC := .seq (.z r_Z98_0) (.seq (.z r_Z98_1) (.seq (.z r_Z98_2) (.seq (.seq (.z r_Z98_3) (.block 0 (.loop (.seq (.seq (.z r_Z98_4) (.cond (.t 18) .skip (.exit 0))) (.seq (.block 1 (.seq (.z r_Z98_5) (.seq (.z r_Z98_6) (.seq (.block 2 (.loop (.seq (.seq (.z r_Z98_7) (.cond (.t 40) .skip (.exit 2))) (.block 3 (.z r_Z98_8))))) (.seq (.seq (.z r_Z98_9) (.cond (.t 46) (.seq (.z r_Z98_10) (.z r_Z98_11)) .skip)) (.z r_Z98_12)))))) (.z r_Z98_13)))))) (.seq (.z r_Z98_14) (.seq (.seq (.z r_Z98_15) (.block 4 (.loop (.seq (.seq (.z r_Z98_16) (.cond (.t 66) .skip (.exit 4))) (.seq (.block 5 (.reg r_Z98_17 (some [0, 0, 0, 6, 14, 0, 0, 96, 224, 480, 992, 2046, 4094, 8191, 16383]))) (.z r_Z98_18)))))) (.seq (.z r_Z98_19) .ret))))))
theorem c_Z98 : cfun Tryz.prog [] 46 = some (88, dc_Z98, [(Res.cell 4 (some 2))]) := by kernel_rfl
def r_Z143_0 : List GI := [gi 4 (.mov 4 (.k .nul))]
def r_Z143_1 : List GI := [gi 7 (.mov 7 (.k .nul)), gt 5 7]
def r_Z143_2 : List GI := [gk 6 0]
def r_Z143_3 : List GI := [gt 8 6, gt 9 1, gn 10 9, gb 11 .lss 8 10]
def r_Z143_4 : List GI := [gt 14 5, gt 15 0, gt 16 1, gt 17 6, ga 18 16 17 1, gl 19 18, ga 20 15 19 2, gs 21 20 2, gi 22 (.bsl 22 2 (some 2) [.agg [.v (.bool false), I 0]] [(0, .t 21)]), gi 23 (.app 23 2000023 (.t 14) (.t 22) 2 16), gt 5 23]
def r_Z143_5 : List GI := [gt 12 6, gd 13 .add 12 1, gt 6 13]
def r_Z143_6 : List GI := [gt 24 5, gt 4 24]
def dc_Z143 : DC := .seq (.z r_Z143_0) (.seq (.z r_Z143_1) (.seq (.seq (.z r_Z143_2) (.block 0 (.loop (.seq (.seq (.z r_Z143_3) (.cond (.t 11) .skip (.exit 0))) (.seq (.block 1 (.z r_Z143_4)) (.z r_Z143_5)))))) (.seq (.z r_Z143_6) .ret)))
theorem c_Z143 : cfun Tryz.prog [] 88 = some (25, dc_Z143, [(Res.tmp 4)]) := by kernel_rfl
def r_Z54_0 : List GI := [gi 1 (.box 1 2000001 (.t 0) none), gi 2 (.mov 2 (.k (.v .nilFunc)))]
def r_Z54_1 : List GI := [gi 3 (.mkf 3 110 [.t 1]), gt 2 3]
def dc_Z54 : DC := .seq (.z r_Z54_0) (.seq (.z r_Z54_1) .ret)
theorem c_Z54 : cfun Tryz.prog [] 70 = some (4, dc_Z54, [(Res.tmp 2)]) := by kernel_rfl
def r_Z38_0 : List GI := [gi 2 (.box 2 2000002 (.t 0) none)]
def r_Z38_1 : List GI := [gl 4 1, ⟨.call 5 112 [.t 4, .k (.fn 35 [])], some 5, none, true⟩, ⟨.call 6 111 [.t 5, .k (.fn 35 [])], some 6, none, true⟩]
def r_Z38_2 : List GI := [gt 3 7]
def r_Z38_3 : List GI := [gl 8 2, gt 9 3, gi 10 (.iad 10 9 (.k (I 0)) 1), gl 11 10, ⟨.cal 12 (.t 8) [.t 11], some 12, none, true⟩, gi 13 (.un 13 UnOp.not (.t 12))]
def dc_Z38 : DC := .seq (.z r_Z38_0) (.seq (.z r_Z38_1) (.block 0 (.rng (.t 6) [7] (.z r_Z38_2) (.block 1 (.seq (.reg r_Z38_3 (some [0, 0, 2, 6, 15, 31])) (.cond (.t 13) .ret .skip))))))
theorem c_Z38 : cfun Tryz.prog [] 110 = some (14, dc_Z38, []) := by kernel_rfl
def r_Z3_0 : List GI := [gi 2 (.mov 2 (.k .nul))]
def r_Z3_1 : List GI := [gk 3 0]
def r_Z3_2 : List GI := [gt 9 0, gn 10 9, gk 11 0]
def r_Z3_3 : List GI := [gb 12 .lss 11 10]
def r_Z3_4 : List GI := [ga 13 9 11 1, gl 14 13, gt 5 14]
def r_Z3_5 : List GI := [gt 15 3, gt 16 5, gn 17 16, gb 18 .add 15 17, gt 3 18]
def r_Z3_6 : List GI := [gt 19 3, gd 20 .lss 19 0]
def r_Z3_7 : List GI := [gd 22 .add 11 1, gt 11 22]
def r_Z3_8 : List GI := [gt 23 3, gc 24 109 [.k .nul, .t 23], gt 6 24]
def r_Z3_9 : List GI := [gt 25 0, gn 26 25, gk 27 0]
def r_Z3_10 : List GI := [gb 28 .lss 27 26]
def r_Z3_11 : List GI := [ga 29 25 27 1, gl 30 29, gt 8 30]
def r_Z3_12 : List GI := [gt 31 6, gt 32 8, gi 33 (.app 33 2000033 (.t 31) (.t 32) 1 24), gt 6 33]
def r_Z3_13 : List GI := [gd 34 .add 27 1, gt 27 34]
def r_Z3_14 : List GI := [gt 35 6, gt 2 35]
def dc_Z3 : DC := .seq (.z r_Z3_0) (.seq (.z r_Z3_1) (.seq (.seq (.z r_Z3_2) (.block 0 (.loop (.seq (.z r_Z3_3) (.seq (.cond (.t 12) .skip (.exit 0)) (.seq (.block 1 (.seq (.z r_Z3_4) (.seq (.z r_Z3_5) (.seq (.z r_Z3_6) (.cond (.t 20) .no .skip))))) (.z r_Z3_7))))))) (.seq (.z r_Z3_8) (.seq (.seq (.z r_Z3_9) (.block 2 (.loop (.seq (.z r_Z3_10) (.seq (.cond (.t 28) .skip (.exit 2)) (.seq (.block 3 (.seq (.z r_Z3_11) (.z r_Z3_12))) (.z r_Z3_13))))))) (.seq (.z r_Z3_14) .ret)))))
theorem c_Z3 : cfun Tryz.prog [] 69 = some (36, dc_Z3, [(Res.tmp 2)]) := by kernel_rfl
def r_Z5_0 : List GI := [gi 4 (.mov 4 (.k .nul))]
def r_Z5_1 : List GI := [gt 5 1, gd 6 .lss 5 0]
def r_Z5_2 : List GI := [gt 8 1, gt 9 0, gi 10 (.capn 10 (.t 9)), gt 11 0, gn 12 11, gb 13 .sub 10 12, gb 14 .sub 8 13, gt 1 14]
def r_Z5_3 : List GI := [gt 15 1, gd 16 .gtr 15 0]
def r_Z5_4 : List GI := [gt 17 0, gt 18 0, gi 19 (.capn 19 (.t 18)), gi 20 (.slc 20 (.t 17) none (some (.t 19)) 1), gt 21 1, gi 22 (.apm 22 2000022 (.t 20) (.t 21) 1 24 .nul), gt 23 0, gn 24 23, gi 25 (.slc 25 (.t 22) none (some (.t 24)) 1), gt 0 25]
def r_Z5_5 : List GI := [gt 26 0, gt 4 26]
def dc_Z5 : DC := .seq (.z r_Z5_0) (.seq (.seq (.z r_Z5_1) (.cond (.t 6) .no .skip)) (.seq (.seq (.z r_Z5_2) (.seq (.z r_Z5_3) (.cond (.t 16) (.z r_Z5_4) .skip))) (.seq (.z r_Z5_5) .ret)))
theorem c_Z5 : cfun Tryz.prog [] 109 = some (27, dc_Z5, [(Res.tmp 4)]) := by kernel_rfl
end
end Go.Proofs.YtlcmchjeakhajaaGreat
namespace Go.Proofs.YtlcmchjeakhajaaGreat
open Go.RowKit
noncomputable section
def r_Z12_0 : List GI := [gi 2 (.box 2 2000002 (.t 0) none), gi 3 (.box 3 2000003 (.t 1) none), gi 4 (.mov 4 (.k .nul))]
def r_Z12_1 : List GI := [gl 8 2, gi 9 (.nilc 9 8), gf 10 9 0, gl 11 10, gi 12 (.mkf 12 161 [.t 2, .t 3]), gc 13 160 [.t 11, .t 12], gt 5 13]
def r_Z12_2 : List GI := [gl 14 2, gi 15 (.nilc 15 14), gf 16 15 0, gl 17 16, gt 18 5, gi 19 (.slc 19 (.t 17) (some (.t 18)) none 1), gt 6 19]
def r_Z12_3 : List GI := [gt 20 6, gi 21 (.mkf 21 162 [.t 2, .t 3]), gc 22 160 [.t 20, .t 21], gt 7 22]
def r_Z12_4 : List GI := [gl 23 2, gt 24 6, gt 25 7, gi 26 (.slc 26 (.t 24) (some (.t 25)) none 1), gi 27 (.nilc 27 23), gf 28 27 0, g0 (.sto 28 (.t 26) none)]
def r_Z12_5 : List GI := [gt 29 6, gt 30 7, gi 31 (.slc 31 (.t 29) none (some (.t 30)) 1), gt 4 31]
def dc_Z12 : DC := .seq (.z r_Z12_0) (.seq (.z r_Z12_1) (.seq (.z r_Z12_2) (.seq (.z r_Z12_3) (.seq (.reg r_Z12_4 (some [0, 0, 0, 6, 15, 31, 63])) (.seq (.z r_Z12_5) .ret)))))
theorem c_Z12 : cfun Tryz.prog [] 145 = some (32, dc_Z12, [(Res.tmp 4)]) := by kernel_rfl
def r_Z10_0 : List GI := [gi 4 (.mov 4 (.k (.v (.bool false))))]
def r_Z10_1 : List GI := [gl 5 1, gi 6 (.nilc 6 5), gf 7 6 1, gl 8 7, gt 9 0, gl 10 2, ⟨.cal 11 (.t 8) [.t 9, .t 10], some 11, none, true⟩, gd 12 .geq 11 0, gt 4 12]
def dc_Z10 : DC := .seq (.z r_Z10_0) (.seq (.reg r_Z10_1 (some [0, 1, 3, 7, 0, 0, 63, 127, 255])) .ret)
theorem c_Z10 : cfun Tryz.prog [] 161 = some (13, dc_Z10, [(Res.tmp 4)]) := by kernel_rfl
def r_Z11_0 : List GI := [gi 4 (.mov 4 (.k (.v (.bool false))))]
def r_Z11_1 : List GI := [gl 5 1, gi 6 (.nilc 6 5), gf 7 6 1, gl 8 7, gt 9 0, gl 10 2, ⟨.cal 11 (.t 8) [.t 9, .t 10], some 11, none, true⟩, gd 12 .gtr 11 0, gt 4 12]
def dc_Z11 : DC := .seq (.z r_Z11_0) (.seq (.reg r_Z11_1 (some [0, 1, 3, 7, 0, 0, 63, 127, 255])) .ret)
theorem c_Z11 : cfun Tryz.prog [] 162 = some (13, dc_Z11, [(Res.tmp 4)]) := by kernel_rfl
def r_Z18_0 : List GI := [gi 2 (.box 2 2000002 (.t 0) none), gi 3 (.box 3 2000003 (.t 1) none), gi 4 (.mov 4 (.k (.v .nilFunc)))]
def r_Z18_1 : List GI := [gi 5 (.mkf 5 144 [.t 2, .t 3]), gt 4 5]
def dc_Z18 : DC := .seq (.z r_Z18_0) (.seq (.z r_Z18_1) .ret)
theorem c_Z18 : cfun Tryz.prog [] 111 = some (6, dc_Z18, [(Res.tmp 4)]) := by kernel_rfl
def r_Z16_0 : List GI := [gl 5 1, gl 6 2, gi 7 (.build 7 [.nul, .v .nilFunc] [(0, (none, .t 5)), (1, (none, .t 6))]), gi 4 (.alloc 4 2000004 [.nul, .v .nilFunc]), g0 (.sto 4 (.t 7) (some 2))]
def r_Z16_1 : List GI := [gf 8 4 0, gl 9 8, gn 10 9, gd 11 .gtr 10 0]
def r_Z16_2 : List GI := [gt 12 0, gf 13 4 0, gl 14 13, gi 15 (.iad 15 14 (.k (I 0)) 1), gl 16 15, gc 17 145 [.t 4, .t 16], ⟨.cal 18 (.t 12) [.t 17], some 18, none, true⟩, gi 19 (.un 19 UnOp.not (.t 18))]
def dc_Z16 : DC := .seq (.z r_Z16_0) (.block 0 (.loop (.seq (.seq (.z r_Z16_1) (.cond (.t 11) .skip (.exit 0))) (.block 1 (.seq (.z r_Z16_2) (.cond (.t 19) .ret .skip))))))
theorem c_Z16 : cfun Tryz.prog [] 144 = some (20, dc_Z16, []) := by kernel_rfl
def r_Z14_0 : List GI := [gk 4 0]
def r_Z14_1 : List GI := [gt 8 0, gn 9 8, gk 5 0, gt 6 9]
def r_Z14_2 : List GI := [gt 10 5, gt 11 6, gb 12 .lss 10 11]
def r_Z14_3 : List GI := [gt 13 5, gt 14 6, gb 15 .add 13 14, gd 16 .quo 15 2, gt 7 16]
def r_Z14_4 : List GI := [gt 17 1, gt 18 0, gt 19 7, ga 20 18 19 1, gl 21 20, ⟨.cal 22 (.t 17) [.t 21], some 22, none, true⟩]
def r_Z14_5 : List GI := [gt 23 7, gt 6 23]
def r_Z14_6 : List GI := [gt 24 7, gd 25 .add 24 1, gt 5 25]
def r_Z14_7 : List GI := [gt 26 5, gt 4 26]
def dc_Z14 : DC := .seq (.z r_Z14_0) (.seq (.z r_Z14_1) (.seq (.block 0 (.loop (.seq (.seq (.z r_Z14_2) (.cond (.t 12) .skip (.exit 0))) (.block 1 (.seq (.z r_Z14_3) (.seq (.z r_Z14_4) (.cond (.t 22) (.z r_Z14_5) (.z r_Z14_6)))))))) (.seq (.z r_Z14_7) .ret)))
theorem c_Z14 : cfun Tryz.prog [] 160 = some (27, dc_Z14, [(Res.tmp 4)]) := by kernel_rfl
def r_Z95_0 : List GI := [gi 4 (.mov 4 (.k .nul))]
def r_Z95_1 : List GI := [gt 5 0, gc 6 68 [.t 5], gt 7 1, gc 8 146 [.t 6, .t 7], gt 4 8]
def dc_Z95 : DC := .seq (.z r_Z95_0) (.seq (.z r_Z95_1) .ret)
theorem c_Z95 : cfun Tryz.prog [] 112 = some (9, dc_Z95, [(Res.tmp 4)]) := by kernel_rfl
def r_Z13_0 : List GI := [gi 4 (.mov 4 (.k .nul))]
def r_Z13_1 : List GI := [gt 6 0, gc 7 163 [.t 6], gt 5 7]
def r_Z13_2 : List GI := [gt 8 5, gt 9 1, gc 10 34 [.t 8, .t 9]]
def r_Z13_3 : List GI := [gt 11 5, gt 4 11]
def dc_Z13 : DC := .seq (.z r_Z13_0) (.seq (.z r_Z13_1) (.seq (.z r_Z13_2) (.seq (.z r_Z13_3) .ret)))
theorem c_Z13 : cfun Tryz.prog [] 146 = some (12, dc_Z13, [(Res.tmp 4)]) := by kernel_rfl
end
end Go.Proofs.YtlcmchjeakhajaaGreat
