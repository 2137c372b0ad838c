/-
  Functions of the program read as code on plain data. Closed facts of the program alone.
-/
import Derived.KernelRfl
import Derived.Test.YtibknjpbbeackaaGreatRows
import Derived.Test.YtibknjpbbeackaaGreatJSVGo
import Derived.Test.YtibknjpbbeackaaGreatKSDcd
import Derived.Test.YtibknjpbbeackaaGreatJSVTbD
namespace Go.Proofs.YtibknjpbbeackaaGreat
open Go.RowKit
noncomputable section
def r_Z5_0 : List GI := [gi 4 (.mov 4 (.k .nul))]
def r_Z5_1 : List GI := [gt 5 1, gd 6 .lss 5 0]
def r_Z5_2 : List GI := [gt 8 1, gt 9 0, gi 10 (.capn 10 (.t 9)), gt 11 0, gn 12 11, gb 13 .sub 10 12, gb 14 .sub 8 13, gt 1 14]
def r_Z5_3 : List GI := [gt 15 1, gd 16 .gtr 15 0]
def r_Z5_4 : List GI := [gt 17 0, gt 18 0, gi 19 (.capn 19 (.t 18)), gi 20 (.slc 20 (.t 17) none (some (.t 19)) 1), gt 21 1, gi 22 (.apm 22 2000022 (.t 20) (.t 21) 1 24 .nul), gt 23 0, gn 24 23, gi 25 (.slc 25 (.t 22) none (some (.t 24)) 1), gt 0 25]
def r_Z5_5 : List GI := [gt 26 0, gt 4 26]
def dc_Z5 : DC := .seq (.z r_Z5_0) (.seq (.seq (.z r_Z5_1) (.cond (.t 6) .no .skip)) (.seq (.seq (.z r_Z5_2) (.seq (.z r_Z5_3) (.cond (.t 16) (.z r_Z5_4) .skip))) (.seq (.z r_Z5_5) .ret)))
theorem c_Z5 : cfun Tryz.prog [] 139 = some (27, dc_Z5, [(Res.tmp 4)]) := by kernel_rfl
def r_Z40_0 : List GI := [gk 6 0]
def r_Z40_1 : List GI := [gt 10 2, gn 11 10, gk 12 0]
def r_Z40_2 : List GI := [gb 13 .lss 12 11]
def r_Z40_3 : List GI := [ga 14 10 12 1, gl 15 14, gt 8 15]
def r_Z40_4 : List GI := [gt 16 0, gt 17 8, ga 18 16 17 2, gs 19 18 2, gt 20 1, gt 21 8, ga 22 20 21 2, gs 23 22 2, gc 24 76 [.t 19, .t 23], gt 9 24]
def r_Z40_5 : List GI := [gt 25 9, gd 26 .neq 25 0]
def r_Z40_6 : List GI := [gt 27 9, gt 6 27]
def r_Z40_7 : List GI := [gd 28 .add 12 1, gt 12 28]
def r_Z40_8 : List GI := [gk 6 0]
def dc_Z40 : DC := .seq (.z r_Z40_0) (.seq (.seq (.z r_Z40_1) (.block 0 (.loop (.seq (.z r_Z40_2) (.seq (.cond (.t 13) .skip (.exit 0)) (.seq (.block 1 (.seq (.z r_Z40_3) (.seq (.reg r_Z40_4 (some [0, 0, 3, 7, 0, 0, 48, 112, 255, 511])) (.seq (.z r_Z40_5) (.cond (.t 26) (.seq (.z r_Z40_6) .ret) .skip))))) (.z r_Z40_7))))))) (.seq (.z r_Z40_8) .ret))
theorem c_Z40 : cfun Tryz.prog [] 143 = some (29, dc_Z40, [(Res.tmp 6)]) := by kernel_rfl
def r_Z78_0 : List GI := [gi 3 (.box 3 2000003 (.t 0) none), gi 4 (.box 4 2000004 (.t 1) none), gi 5 (.box 5 2000005 (.t 2) none), gi 6 (.mov 6 (.k (.v .nilFunc)))]
def r_Z78_1 : List GI := [gi 8 (.mkf 8 142 [.t 4]), gi 7 (.alloc 7 2000007 [.v .nilFunc]), g0 (.sto 7 (.t 8) none)]
def r_Z78_2 : List GI := [gi 9 (.mkf 9 144 [.t 3, .t 7, .t 4, .t 5]), gt 6 9]
def dc_Z78 : DC := .seq (.z r_Z78_0) (.seq (.z r_Z78_1) (.seq (.z r_Z78_2) .ret))
theorem c_Z78 : cfun Tryz.prog [] 97 = some (10, dc_Z78, [(Res.tmp 6)]) := by kernel_rfl
def r_Z49_0 : List GI := [gk 5 0]
def r_Z49_1 : List GI := [gt 6 0, gt 7 1, gl 8 2, gc 9 143 [.t 6, .t 7, .t 8], gt 5 9]
def dc_Z49 : DC := .seq (.z r_Z49_0) (.seq (.z r_Z49_1) .ret)
theorem c_Z49 : cfun Tryz.prog [] 142 = some (10, dc_Z49, [(Res.tmp 5)]) := by kernel_rfl
def r_Z50_0 : List GI := [gi 5 (.box 5 2000005 (.t 0) none)]
def r_Z50_1 : List GI := [gl 10 1, gl 11 2, gc 12 141 [.t 10, .t 11], gl 13 2, gc 14 74 [.t 12, .t 13]]
def r_Z50_2 : List GI := [gt 6 15]
def r_Z50_3 : List GI := [gi 7 (.mov 7 (.k .nul))]
def r_Z50_4 : List GI := [gl 16 3, gn 17 16, gk 18 0]
def r_Z50_5 : List GI := [gb 19 .lss 18 17]
def r_Z50_6 : List GI := [ga 20 16 18 1, gl 21 20, gt 9 21]
def r_Z50_7 : List GI := [gt 22 7, gt 23 6, gi 24 (.iad 24 23 (.k (I 0)) 1), gl 25 24, gt 26 9, ga 27 25 26 2, gs 28 27 2, gi 29 (.bsl 29 2 (some 2) [.agg [.v (.bool false), I 0]] [(0, .t 28)]), gi 30 (.app 30 2000030 (.t 22) (.t 29) 2 16), gt 7 30]
def r_Z50_8 : List GI := [gd 31 .add 18 1, gt 18 31]
def r_Z50_9 : List GI := [gl 32 5, gt 33 7, gl 34 4, gt 35 6, ⟨.cal 36 (.t 34) [.t 35], some 36, none, true⟩, gi 37 (.bsl 37 2 (some 2) [.agg [.v (.bool false), I 0]] [(0, .t 36)]), gi 38 (.app 38 2000038 (.t 33) (.t 37) 2 16), ⟨.cal 39 (.t 32) [.t 38], some 39, none, true⟩, gi 40 (.un 40 UnOp.not (.t 39))]
def dc_Z50 : DC := .seq (.z r_Z50_0) (.seq (.reg r_Z50_1 (some [0, 0, 3, 0, 15])) (.block 0 (.rng (.t 14) [15] (.z r_Z50_2) (.block 1 (.seq (.z r_Z50_3) (.seq (.seq (.z r_Z50_4) (.block 2 (.loop (.seq (.z r_Z50_5) (.seq (.cond (.t 19) .skip (.exit 2)) (.seq (.block 3 (.seq (.z r_Z50_6) (.z r_Z50_7))) (.z r_Z50_8))))))) (.seq (.reg r_Z50_9 (some [0, 0, 0, 0, 12, 28, 62, 127, 255])) (.cond (.t 40) .ret .skip))))))))
theorem c_Z50 : cfun Tryz.prog [] 144 = some (41, dc_Z50, []) := by kernel_rfl
def r_Z63_0 : List GI := [gi 2 (.alloc 2 2000002 [.v (.bool false), I 0])]
def r_Z63_1 : List GI := [gt 3 0, gn 4 3, gi 5 (.build 5 [.v (.bool false), I 0] [(1, (none, .t 4))]), g0 (.sto 2 (.t 5) (some 2))]
def dc_Z63 : DC := .seq (.z r_Z63_0) (.seq (.z r_Z63_1) .ret)
theorem c_Z63 : cfun Tryz.prog [] 98 = some (6, dc_Z63, [(Res.cell 2 (some 2))]) := by kernel_rfl
def r_Z152_0 : List GI := [gi 2 (.mov 2 (.k .nul))]
def r_Z152_1 : List GI := [gi 3 (.build 3 [.v (.bool false), I 0] [(0, (none, .k (.v (.bool true))))]), gi 4 (.bsl 4 2 (some 2) [.agg [.v (.bool false), I 0]] [(0, .t 3)]), gt 5 0, gc 6 172 [.t 4, .t 5], gt 2 6]
def dc_Z152 : DC := .seq (.z r_Z152_0) (.seq (.z r_Z152_1) .ret)
theorem c_Z152 : cfun Tryz.prog [] 136 = some (7, dc_Z152, [(Res.tmp 2)]) := by kernel_rfl
def r_Z136_0 : List GI := [gi 4 (.mov 4 (.k (.v (.int .u64 0)))), gi 5 (.mov 5 (.k (.v (.int .u64 0))))]
def r_Z136_1 : List GI := [gt 11 0, gi 12 (.cvt 12 .u32 (.t 11)), gt 13 1, gi 14 (.cvt 14 .u32 (.t 13)), gc 15 187 [.t 12, .t 14], gt 10 15, gi 16 (.ext 16 10 0), gi 17 (.ext 17 10 1), gt 6 16, gt 7 17]
def r_Z136_2 : List GI := [gt 18 6, gi 19 (.cvt 19 .u64 (.t 18)), gt 20 7, gi 21 (.cvt 21 .u64 (.t 20)), gt 4 19, gt 5 21]
def r_Z136_3 : List GI := [gt 23 0, gt 24 1, gc 25 188 [.t 23, .t 24], gt 22 25, gi 26 (.ext 26 22 0), gi 27 (.ext 27 22 1), gt 8 26, gt 9 27]
def r_Z136_4 : List GI := [gt 28 8, gt 29 9, gt 4 28, gt 5 29]
def dc_Z136 : DC := .seq (.z r_Z136_0) (.seq (.cond (.k (.v (.bool false))) (.seq (.z r_Z136_1) (.seq (.z r_Z136_2) .ret)) .skip) (.seq (.z r_Z136_3) (.seq (.z r_Z136_4) .ret)))
theorem c_Z136 : cfun Tryz.prog [] 184 = some (30, dc_Z136, [(Res.tmp 4), (Res.tmp 5)]) := by kernel_rfl
def r_Z102_0 : List GI := [gi 4 (.mov 4 (.k (.v (.int .u64 0)))), gi 5 (.mov 5 (.k (.v (.int .u64 0))))]
def r_Z102_1 : List GI := [gt 14 0, gi 15 (.bin 15 .and (.t 14) (.k (.v (.int .u64 4294967295)))), gt 6 15]
def r_Z102_2 : List GI := [gt 16 0, gi 17 (.bin 17 .shr (.t 16) (.k (.v (.int .u64 32)))), gt 7 17]
def r_Z102_3 : List GI := [gt 18 1, gi 19 (.bin 19 .and (.t 18) (.k (.v (.int .u64 4294967295)))), gt 8 19]
def r_Z102_4 : List GI := [gt 20 1, gi 21 (.bin 21 .shr (.t 20) (.k (.v (.int .u64 32)))), gt 9 21]
def r_Z102_5 : List GI := [gt 22 6, gt 23 8, gb 24 .mul 22 23, gt 10 24]
def r_Z102_6 : List GI := [gt 25 7, gt 26 8, gb 27 .mul 25 26, gt 28 10, gi 29 (.bin 29 .shr (.t 28) (.k (.v (.int .u64 32)))), gb 30 .add 27 29, gt 11 30]
def r_Z102_7 : List GI := [gt 31 11, gi 32 (.bin 32 .and (.t 31) (.k (.v (.int .u64 4294967295)))), gt 12 32]
def r_Z102_8 : List GI := [gt 33 11, gi 34 (.bin 34 .shr (.t 33) (.k (.v (.int .u64 32)))), gt 13 34]
def r_Z102_9 : List GI := [gt 35 12, gt 36 6, gt 37 9, gb 38 .mul 36 37, gb 39 .add 35 38, gt 12 39]
def r_Z102_10 : List GI := [gt 40 7, gt 41 9, gb 42 .mul 40 41, gt 43 13, gb 44 .add 42 43, gt 45 12, gi 46 (.bin 46 .shr (.t 45) (.k (.v (.int .u64 32)))), gb 47 .add 44 46, gt 4 47]
def r_Z102_11 : List GI := [gt 48 0, gt 49 1, gb 50 .mul 48 49, gt 5 50]
def dc_Z102 : DC := .seq (.z r_Z102_0) (.seq (.z r_Z102_1) (.seq (.z r_Z102_2) (.seq (.z r_Z102_3) (.seq (.z r_Z102_4) (.seq (.z r_Z102_5) (.seq (.z r_Z102_6) (.seq (.z r_Z102_7) (.seq (.z r_Z102_8) (.seq (.z r_Z102_9) (.seq (.z r_Z102_10) (.seq (.z r_Z102_11) .ret)))))))))))
theorem c_Z102 : cfun Tryz.prog [] 188 = some (51, dc_Z102, [(Res.tmp 4), (Res.tmp 5)]) := by kernel_rfl
def r_Z7_0 : List GI := [gi 4 (.mov 4 (.k .nul))]
def r_Z7_1 : List GI := [gt 9 1, gd 10 .lss 9 0]
def r_Z7_2 : List GI := [gt 13 0, gn 14 13, gi 15 (.cvt 15 .u64 (.t 14)), gt 16 1, gi 17 (.cvt 17 .u64 (.t 16)), gc 18 184 [.t 15, .t 17], gt 12 18, gi 19 (.ext 19 12 0), gi 20 (.ext 20 12 1), gt 5 19, gt 6 20]
def r_Z7_3 : List GI := [gt 21 5, gi 22 (.bin 22 .gtr (.t 21) (.k (.v (.int .u64 0)))), gt 23 22, ⟨.mov 24 (.t 6), some 24, some (23, false), false⟩, ⟨.bin 25 .gtr (.t 24) (.k (.v (.int .u64 9223372036854775807))), some 25, some (23, false), false⟩, gi 26 (.pick 26 (.t 23) (.k (.v (.bool true))) (.t 25))]
def r_Z7_4 : List GI := [gt 28 6, gi 29 (.cvt 29 .i64 (.t 28)), gi 30 (.mks 30 2000030 (.t 29) 2 16 (.agg [.v (.bool false), I 0])), gt 7 30]
def r_Z7_5 : List GI := [gt 31 7, gt 32 0, gi 33 (.cpy 33 (.t 31) (.t 32) 2), gt 8 33]
def r_Z7_6 : List GI := [gt 34 8, gt 35 7, gn 36 35, gb 37 .lss 34 36]
def r_Z7_7 : List GI := [gt 38 8, gt 39 7, gt 40 8, gi 41 (.slc 41 (.t 39) (some (.t 40)) none 2), gt 42 7, gt 43 8, gi 44 (.slc 44 (.t 42) none (some (.t 43)) 2), gi 45 (.cpy 45 (.t 41) (.t 44) 2), gb 46 .add 38 45, gt 8 46]
def r_Z7_8 : List GI := [gt 47 7, gt 4 47]
def dc_Z7 : DC := .seq (.z r_Z7_0) (.seq (.seq (.z r_Z7_1) (.cond (.t 10) .no .skip)) (.seq (.z r_Z7_2) (.seq (.seq (.z r_Z7_3) (.cond (.t 26) .no .skip)) (.seq (.z r_Z7_4) (.seq (.z r_Z7_5) (.seq (.block 0 (.loop (.seq (.seq (.z r_Z7_6) (.cond (.t 37) .skip (.exit 0))) (.block 1 (.reg r_Z7_7 (some [0, 0, 0, 6, 0, 0, 48, 126, 255, 511])))))) (.seq (.z r_Z7_8) .ret)))))))
theorem c_Z7 : cfun Tryz.prog [] 172 = some (48, dc_Z7, [(Res.tmp 4)]) := by kernel_rfl
def r_Z28_0 : List GI := [gl 7 1, gf 8 2 0, gf 9 8 0, gl 10 9, gc 11 136 [.t 10], gi 12 (.bsl 12 1 none [.nul, .nul] [(0, .t 7), (1, .t 11)]), gc 13 135 [.t 12], gt 4 13]
def r_Z28_1 : List GI := [gf 14 2 0, gf 15 14 1, gl 16 15, gn 17 16, gk 18 0]
def r_Z28_2 : List GI := [gb 19 .lss 18 17]
def r_Z28_3 : List GI := [ga 20 16 18 1, gl 21 20, gt 6 21]
def r_Z28_4 : List GI := [gt 22 4, gl 23 1, gn 24 23, gi 25 (.slc 25 (.t 22) (some (.t 24)) none 2), gt 26 6, gi 27 (.cpy 27 (.t 25) (.t 26) 2)]
def r_Z28_5 : List GI := [gf 28 2 2, gl 29 28, gt 30 4, ⟨.inv 31 (.t 29) name_impl_value [.t 30], some 31, none, true⟩, gc 32 130 [.t 31], gd 33 .eql 32 2, gt 34 33, ⟨.mov 35 (.t 0), some 35, some (34, true), false⟩, ⟨.mov 36 (.t 4), some 36, some (34, true), false⟩, ⟨.call 37 59 [.t 36], some 37, some (34, true), true⟩, ⟨.cal 38 (.t 35) [.t 37], some 38, some (34, true), true⟩, ⟨.un 39 UnOp.not (.t 38), some 39, some (34, true), false⟩, gi 40 (.pick 40 (.t 34) (.t 39) (.k (.v (.bool false))))]
def r_Z28_6 : List GI := [gd 41 .add 18 1, gt 18 41]
def dc_Z28 : DC := .seq (.reg r_Z28_0 (some [0, 0, 2, 6, 14, 31, 63, 127])) (.seq (.z r_Z28_1) (.block 0 (.loop (.seq (.z r_Z28_2) (.seq (.cond (.t 19) .skip (.exit 0)) (.seq (.block 1 (.seq (.z r_Z28_3) (.seq (.z r_Z28_4) (.seq (.z r_Z28_5) (.cond (.t 40) .ret .skip))))) (.z r_Z28_6)))))))
theorem c_Z28 : cfun Tryz.prog [] 134 = some (42, dc_Z28, []) := by kernel_rfl
def r_Z97_0 : List GI := [gi 2 (.box 2 2000002 (.t 0) none), gi 3 (.box 3 2000003 (.t 1) none), gi 4 (.mov 4 (.k (.v .nilFunc)))]
def r_Z97_1 : List GI := [gi 5 (.mkf 5 133 [.t 2, .t 3]), gt 4 5]
def dc_Z97 : DC := .seq (.z r_Z97_0) (.seq (.z r_Z97_1) .ret)
theorem c_Z97 : cfun Tryz.prog [] 91 = some (6, dc_Z97, [(Res.tmp 4)]) := by kernel_rfl
def r_Z61_0 : List GI := [gi 3 (.box 3 2000003 (.t 0) none)]
def r_Z61_1 : List GI := [gl 7 1, gn 8 7, gk 9 0]
def r_Z61_2 : List GI := [gb 10 .lss 9 8]
def r_Z61_3 : List GI := [ga 11 7 9 1, gl 12 11, gt 5 12]
def r_Z61_4 : List GI := [gl 13 2, gt 14 5, ⟨.cal 15 (.t 13) [.t 14], some 15, none, true⟩]
def r_Z61_5 : List GI := [gt 6 16]
def r_Z61_6 : List GI := [gl 17 3, gt 18 6, ⟨.cal 19 (.t 17) [.t 18], some 19, none, true⟩, gi 20 (.un 20 UnOp.not (.t 19))]
def r_Z61_7 : List GI := [gd 21 .add 9 1, gt 9 21]
def dc_Z61 : DC := .seq (.z r_Z61_0) (.seq (.z r_Z61_1) (.block 0 (.loop (.seq (.z r_Z61_2) (.seq (.cond (.t 10) .skip (.exit 0)) (.seq (.block 1 (.seq (.z r_Z61_3) (.seq (.z r_Z61_4) (.block 2 (.rng (.t 15) [16] (.z r_Z61_5) (.block 3 (.seq (.z r_Z61_6) (.cond (.t 20) .ret .skip)))))))) (.z r_Z61_7)))))))
theorem c_Z61 : cfun Tryz.prog [] 133 = some (22, dc_Z61, []) := by kernel_rfl
def r_Z34_0 : List GI := [gi 2 (.box 2 2000002 (.t 0) (some 3)), gi 3 (.box 3 2000003 (.t 1) none), gi 4 (.mov 4 (.k (.v .nilFunc)))]
def r_Z34_1 : List GI := [gi 5 (.mkf 5 134 [.t 3, .t 2]), gt 4 5]
def dc_Z34 : DC := .seq (.z r_Z34_0) (.seq (.z r_Z34_1) .ret)
theorem c_Z34 : cfun Tryz.prog [] 92 = some (6, dc_Z34, [(Res.tmp 4)]) := by kernel_rfl
def r_Z23_0 : List GI := [gi 2 (.box 2 2000002 (.t 0) (some 3)), gi 3 (.box 3 2000003 (.t 1) none), gi 4 (.mov 4 (.k (.v .nilFunc)))]
def r_Z23_1 : List GI := [gi 5 (.mkf 5 137 [.t 2, .t 3]), gt 4 5]
def dc_Z23 : DC := .seq (.z r_Z23_0) (.seq (.z r_Z23_1) .ret)
theorem c_Z23 : cfun Tryz.prog [] 93 = some (6, dc_Z23, [(Res.tmp 4)]) := by kernel_rfl
def r_Z21_0 : List GI := [gi 3 (.box 3 2000003 (.t 0) none)]
def r_Z21_1 : List GI := [gi 4 (.alloc 4 2000004 [.v (.bool false)]), g0 (.sto 4 (.k (.v (.bool false))) none)]
def r_Z21_2 : List GI := [gs 6 1 3, gl 7 2, gc 8 92 [.t 6, .t 7]]
def r_Z21_3 : List GI := [gt 5 9]
def r_Z21_4 : List GI := [g0 (.sto 4 (.k (.v (.bool true))) none)]
def r_Z21_5 : List GI := [gl 10 3, gt 11 5, ⟨.cal 12 (.t 10) [.t 11], some 12, none, true⟩, gi 13 (.un 13 UnOp.not (.t 12))]
def r_Z21_6 : List GI := [gl 14 4, gi 15 (.un 15 UnOp.not (.t 14))]
def r_Z21_7 : List GI := [gl 16 3, gl 17 2, gf 18 1 0, gf 19 18 0, gl 20 19, gc 21 136 [.t 20], gi 22 (.bsl 22 1 none [.nul, .nul] [(0, .t 17), (1, .t 21)]), gc 23 135 [.t 22], ⟨.cal 24 (.t 16) [.t 23], some 24, none, true⟩]
def dc_Z21 : DC := .seq (.z r_Z21_0) (.seq (.z r_Z21_1) (.seq (.seq (.z r_Z21_2) (.block 0 (.rng (.t 8) [9] (.z r_Z21_3) (.block 1 (.seq (.z r_Z21_4) (.seq (.z r_Z21_5) (.cond (.t 13) .ret .skip))))))) (.seq (.z r_Z21_6) (.cond (.t 15) (.reg r_Z21_7 (some [0, 0, 0, 4, 12, 28, 62, 126, 255])) .skip))))
theorem c_Z21 : cfun Tryz.prog [] 137 = some (25, dc_Z21, []) := by kernel_rfl
def r_Z145_0 : List GI := [gi 2 (.box 2 2000002 (.t 0) (some 5)), gi 4 (.alloc 4 2000004 [I 0, .nul])]
def r_Z145_1 : List GI := [gf 6 2 0, gl 7 6, gd 8 .eql 7 1]
def r_Z145_2 : List GI := [gt 9 1, gf 10 2 1, gl 11 10, ga 12 9 11 2, gf 13 12 0, gl 14 13, gt 15 1, gf 16 2 1, gl 17 16, ga 18 15 17 2, gf 19 18 1, gl 20 19, gc 21 63 [.t 14, .t 20], g0 (.sto 4 (.t 21) (some 2))]
def r_Z145_3 : List GI := [gf 22 2 4, gl 23 22, gi 24 (.iad 24 23 (.k (I 0)) 5), gs 25 24 5, gt 26 1, gc 27 39 [.t 25, .t 26], gi 5 (.alloc 5 2000005 [I 0, .nul]), g0 (.sto 5 (.t 27) (some 2))]
def r_Z145_4 : List GI := [gf 28 2 0, gl 29 28]
def r_Z145_5 : List GI := [gd 31 .eql 29 2, gt 30 31]
def r_Z145_6 : List GI := [gs 32 5 2, gf 33 2 2, gl 34 33, gi 35 (.iad 35 34 (.k (I 0)) 5), gs 36 35 5, gc 37 64 [.t 32, .t 36], g0 (.sto 4 (.t 37) (some 2))]
def r_Z145_7 : List GI := [gd 39 .eql 29 3, gt 38 39]
def r_Z145_8 : List GI := [gs 40 5 2, gf 41 2 2, gl 42 41, gc 43 65 [.t 40, .t 42], g0 (.sto 4 (.t 43) (some 2))]
def r_Z145_9 : List GI := [gd 45 .eql 29 4, gt 44 45]
def r_Z145_10 : List GI := [gd 46 .eql 29 5, gt 44 46]
def r_Z145_11 : List GI := [gs 47 5 2, gf 48 2 4, gl 49 48, gi 50 (.iad 50 49 (.k (I 1)) 5), gs 51 50 5, gt 52 1, gc 53 39 [.t 51, .t 52], gf 54 2 2, gl 55 54, gi 56 (.iad 56 55 (.k (I 0)) 5), gs 57 56 5, gf 58 2 0, gl 59 58, gd 60 .eql 59 5, gc 61 66 [.t 47, .t 53, .t 57, .t 60], g0 (.sto 4 (.t 61) (some 2))]
def r_Z145_12 : List GI := [gd 63 .eql 29 6, gt 62 63]
def r_Z145_13 : List GI := [gs 64 5 2, gf 65 2 4, gl 66 65, gi 67 (.iad 67 66 (.k (I 1)) 5), gs 68 67 5, gt 69 1, gc 70 39 [.t 68, .t 69], gc 71 67 [.t 64, .t 70], g0 (.sto 4 (.t 71) (some 2))]
def r_Z145_14 : List GI := [gd 73 .eql 29 7, gt 72 73]
def r_Z145_15 : List GI := [gs 74 5 2, gc 75 68 [.t 74], g0 (.sto 4 (.t 75) (some 2))]
def r_Z145_16 : List GI := [gs 76 5 2, gf 77 2 3, gl 78 77, gc 79 69 [.t 76, .t 78], g0 (.sto 4 (.t 79) (some 2))]
def dc_Z145 : DC := .seq (.z r_Z145_0) (.seq (.seq (.z r_Z145_1) (.cond (.t 8) (.seq (.reg r_Z145_2 (some [0, 0, 2, 7, 15, 31, 0, 0, 128, 448, 960, 1984, 4095, 8191])) .ret) .skip)) (.seq (.z r_Z145_3) (.seq (.seq (.z r_Z145_4) (.block 0 (.seq (.z r_Z145_5) (.cond (.t 30) (.seq (.reg r_Z145_6 (some [0, 0, 2, 6, 14, 31, 63])) .ret) (.seq (.z r_Z145_7) (.cond (.t 38) (.seq (.z r_Z145_8) .ret) (.seq (.seq (.z r_Z145_9) (.cond (.t 44) .skip (.z r_Z145_10))) (.cond (.t 44) (.seq (.reg r_Z145_11 (some [0, 0, 2, 6, 14, 0, 62, 0, 128, 384, 896, 0, 2048, 6144, 16383, 32767])) .ret) (.seq (.z r_Z145_12) (.cond (.t 62) (.seq (.reg r_Z145_13 (some [0, 0, 2, 6, 14, 0, 62, 127, 255])) .ret) (.seq (.z r_Z145_14) (.cond (.t 72) (.seq (.z r_Z145_15) .ret) .skip)))))))))))) (.seq (.z r_Z145_16) .ret))))
theorem c_Z145 : cfun Tryz.prog [] 39 = some (80, dc_Z145, [(Res.cell 4 (some 2))]) := by kernel_rfl
def r_Z59_0 : List GI := [gi 2 (.box 2 2000002 (.t 0) none), gi 3 (.box 3 2000003 (.t 1) none), gi 4 (.mov 4 (.k (.v .nilFunc)))]
def r_Z59_1 : List GI := [gi 5 (.mkf 5 129 [.t 2, .t 3]), gt 4 5]
def dc_Z59 : DC := .seq (.z r_Z59_0) (.seq (.z r_Z59_1) .ret)
theorem c_Z59 : cfun Tryz.prog [] 88 = some (6, dc_Z59, [(Res.tmp 4)]) := by kernel_rfl
def r_Z98_0 : List GI := [gi 2 (.box 2 2000002 (.t 0) (some 5)), gi 4 (.mov 4 (.k (.v .nilFunc)))]
def r_Z98_1 : List GI := [gf 5 2 0, gl 6 5]
def r_Z98_2 : List GI := [gd 8 .eql 6 2, gt 7 8]
def r_Z98_3 : List GI := [gt 9 1, gi 10 (.iad 10 9 (.k (I 0)) 2), gf 11 10 1, gl 12 11, gf 13 2 2, gl 14 13, gi 15 (.iad 15 14 (.k (I 0)) 5), gs 16 15 5, gc 17 89 [.t 16], gc 18 88 [.t 12, .t 17], gt 4 18]
def r_Z98_4 : List GI := [gd 20 .eql 6 3, gt 19 20]
def r_Z98_5 : List GI := [gt 21 1, gi 22 (.iad 22 21 (.k (I 0)) 2), gf 23 22 1, gl 24 23, gf 25 2 2, gl 26 25, gc 27 90 [.t 24, .t 26], gt 4 27]
def r_Z98_6 : List GI := [gd 29 .eql 6 4, gt 28 29]
def r_Z98_7 : List GI := [gt 30 1, gi 31 (.iad 31 30 (.k (I 0)) 2), gf 32 31 1, gl 33 32, gt 34 1, gi 35 (.iad 35 34 (.k (I 1)) 2), gs 36 35 2, gf 37 2 2, gl 38 37, gi 39 (.iad 39 38 (.k (I 0)) 5), gs 40 39 5, gc 41 89 [.t 40], gi 42 (.build 42 [I 0, .nul, .v .nilIface] [(0, (some 2, .t 36)), (2, (none, .t 41))]), gi 43 (.mkm 43 92 (.t 42)), gc 44 91 [.t 33, .t 43], gt 4 44]
def r_Z98_8 : List GI := [gd 46 .eql 6 5, gt 45 46]
def r_Z98_9 : List GI := [gt 47 1, gi 48 (.iad 48 47 (.k (I 0)) 2), gf 49 48 1, gl 50 49, gt 51 1, gi 52 (.iad 52 51 (.k (I 1)) 2), gs 53 52 2, gf 54 2 2, gl 55 54, gi 56 (.iad 56 55 (.k (I 0)) 5), gs 57 56 5, gc 58 89 [.t 57], gi 59 (.build 59 [I 0, .nul, .v .nilIface] [(0, (some 2, .t 53)), (2, (none, .t 58))]), gi 60 (.mkm 60 93 (.t 59)), gc 61 91 [.t 50, .t 60], gt 4 61]
def r_Z98_10 : List GI := [gd 63 .eql 6 6, gt 62 63]
def r_Z98_11 : List GI := [gt 64 1, gi 65 (.iad 65 64 (.k (I 0)) 2), gf 66 65 1, gl 67 66, gt 68 1, gi 69 (.iad 69 68 (.k (I 1)) 2), gf 70 69 1, gl 71 70, gi 72 (.bsl 72 1 none [.nul, .nul] [(0, .t 67), (1, .t 71)]), gc 73 95 [.t 72], gc 74 94 [.t 73], gt 4 74]
def r_Z98_12 : List GI := [gd 76 .eql 6 7, gt 75 76]
def r_Z98_13 : List GI := [gt 77 1, gi 78 (.iad 78 77 (.k (I 0)) 2), gf 79 78 1, gl 80 79, gc 81 96 [.t 80], gt 4 81]
def r_Z98_14 : List GI := [gt 82 1, gi 83 (.iad 83 82 (.k (I 0)) 2), gf 84 83 1, gl 85 84, gf 86 2 3, gl 87 86, ⟨.call 88 97 [.t 85, .t 87, .k (.fn 98 [])], some 88, none, true⟩, gt 4 88]
def dc_Z98 : DC := .seq (.z r_Z98_0) (.seq (.seq (.z r_Z98_1) (.block 0 (.seq (.z r_Z98_2) (.cond (.t 7) (.seq (.reg r_Z98_3 (some [0, 1, 3, 7, 0, 16, 48, 112, 240, 511, 1023])) .ret) (.seq (.z r_Z98_4) (.cond (.t 19) (.seq (.reg r_Z98_5 (some [0, 1, 3, 7, 0, 16, 63, 127])) .ret) (.seq (.z r_Z98_6) (.cond (.t 28) (.seq (.reg r_Z98_7 (some [0, 1, 3, 7, 0, 16, 48, 0, 128, 384, 896, 1920, 4080, 8176, 16383, 32767])) .ret) (.seq (.z r_Z98_8) (.cond (.t 45) (.seq (.reg r_Z98_9 (some [0, 1, 3, 7, 0, 16, 48, 0, 128, 384, 896, 1920, 4080, 8176, 16383, 32767])) .ret) (.seq (.z r_Z98_10) (.cond (.t 62) (.seq (.reg r_Z98_11 (some [0, 1, 3, 7, 0, 16, 48, 112, 255, 511, 1023, 2047])) .ret) (.seq (.z r_Z98_12) (.cond (.t 75) (.seq (.z r_Z98_13) .ret) .skip)))))))))))))) (.seq (.reg r_Z98_14 (some [0, 1, 3, 7, 0, 16, 63, 127])) .ret))
theorem c_Z98 : cfun Tryz.prog [] 57 = some (89, dc_Z98, [(Res.tmp 4)]) := by kernel_rfl
def r_Z94_0 : List GI := [gi 3 (.box 3 2000003 (.t 0) (some 5)), gi 5 (.alloc 5 2000005 [I 0, .nul])]
def r_Z94_1 : List GI := [gs 6 3 5, gt 7 1, gl 8 2, gc 9 34 [.t 6, .t 7, .t 8], g0 (.sto 5 (.t 9) (some 2))]
def dc_Z94 : DC := .seq (.z r_Z94_0) (.seq (.z r_Z94_1) .ret)
theorem c_Z94 : cfun Tryz.prog [] 33 = some (10, dc_Z94, [(Res.cell 5 (some 2))]) := by kernel_rfl
end
end Go.Proofs.YtibknjpbbeackaaGreat
