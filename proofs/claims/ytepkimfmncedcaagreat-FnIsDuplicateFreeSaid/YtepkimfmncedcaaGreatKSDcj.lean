/-
  Functions of the program read as code on plain data. Closed facts of the program alone.
-/
import Derived.KernelRfl
import Derived.Test.YtepkimfmncedcaaGreatRows
import Derived.Test.YtepkimfmncedcaaGreatJSVGo
import Derived.Test.YtepkimfmncedcaaGreatJSVLaw
import Derived.Test.YtepkimfmncedcaaGreatJSVTbD
namespace Go.Proofs.YtepkimfmncedcaaGreat
open Go.RowKit
noncomputable section
def r_Z41_0 : List GI := [gi 3 (.box 3 2000003 (.t 0) (some 5)), gi 6 (.mov 6 (.k (.v (.bool false))))]
def r_Z41_1 : List GI := [gf 7 3 0, gl 8 7]
def r_Z41_2 : List GI := [gd 10 .eql 8 1, gt 9 10]
def r_Z41_3 : List GI := [gt 11 2, gs 12 3 5, ⟨.inv 13 (.t 11) name_impl_scan [.t 12], some 13, none, true⟩, gt 6 13]
def r_Z41_4 : List GI := [gd 15 .eql 8 2, gt 14 15]
def r_Z41_5 : List GI := [gt 16 2, gs 17 3 5, gt 18 1, gi 19 (.iad 19 18 (.k (I 0)) 1), gl 20 19, gi 21 (.mkb 21 name_impl_filter (.t 16)), gi 22 (.nilc 22 21), gt 23 16, ⟨.inv 24 (.t 23) name_impl_filter [.t 17, .t 20], some 24, none, true⟩, gt 6 24]
def r_Z41_6 : List GI := [gd 26 .eql 8 3, gt 25 26]
def r_Z41_7 : List GI := [gt 27 2, gs 28 3 5, gt 29 1, gi 30 (.iad 30 29 (.k (I 0)) 1), gl 31 30, gi 32 (.mkb 32 name_impl_project (.t 27)), gi 33 (.nilc 33 32), gt 34 27, ⟨.inv 35 (.t 34) name_impl_project [.t 28, .t 31], some 35, none, true⟩, gt 6 35]
def r_Z41_8 : List GI := [gd 37 .eql 8 4, gt 36 37]
def r_Z41_9 : List GI := [gt 38 2, gs 39 3 5, gt 40 1, gi 41 (.iad 41 40 (.k (I 0)) 1), gl 42 41, gt 43 1, gi 44 (.iad 44 43 (.k (I 1)) 1), gl 45 44, gi 46 (.mkb 46 name_impl_join (.t 38)), gi 47 (.nilc 47 46), gt 48 38, ⟨.inv 49 (.t 48) name_impl_join [.t 39, .t 42, .t 45], some 49, none, true⟩, gt 6 49]
def r_Z41_10 : List GI := [gd 51 .eql 8 5, gt 50 51]
def r_Z41_11 : List GI := [gt 52 2, gs 53 3 5, gt 54 1, gi 55 (.iad 55 54 (.k (I 0)) 1), gl 56 55, gt 57 1, gi 58 (.iad 58 57 (.k (I 1)) 1), gl 59 58, gi 60 (.mkb 60 name_impl_leftJoin (.t 52)), gi 61 (.nilc 61 60), gt 62 52, ⟨.inv 63 (.t 62) name_impl_leftJoin [.t 53, .t 56, .t 59], some 63, none, true⟩, gt 6 63]
def r_Z41_12 : List GI := [gd 65 .eql 8 6, gt 64 65]
def r_Z41_13 : List GI := [gt 66 2, gs 67 3 5, gt 68 1, gi 69 (.iad 69 68 (.k (I 0)) 1), gl 70 69, gt 71 1, gi 72 (.iad 72 71 (.k (I 1)) 1), gl 73 72, gi 74 (.mkb 74 name_impl_union (.t 66)), gi 75 (.nilc 75 74), gt 76 66, ⟨.inv 77 (.t 76) name_impl_union [.t 67, .t 70, .t 73], some 77, none, true⟩, gt 6 77]
def r_Z41_14 : List GI := [gd 79 .eql 8 7, gt 78 79]
def r_Z41_15 : List GI := [gt 80 2, gs 81 3 5, gt 82 1, gi 83 (.iad 83 82 (.k (I 0)) 1), gl 84 83, gi 85 (.mkb 85 name_impl_distinct (.t 80)), gi 86 (.nilc 86 85), gt 87 80, ⟨.inv 88 (.t 87) name_impl_distinct [.t 81, .t 84], some 88, none, true⟩, gt 6 88]
def r_Z41_16 : List GI := [gt 89 2, gs 90 3 5, gt 91 1, gi 92 (.iad 92 91 (.k (I 0)) 1), gl 93 92, gi 94 (.mkb 94 name_impl_group (.t 89)), gi 95 (.nilc 95 94), gt 96 89, ⟨.inv 97 (.t 96) name_impl_group [.t 90, .t 93], some 97, none, true⟩, gt 6 97]
def dc_Z41 : DC := .seq (.z r_Z41_0) (.seq (.seq (.z r_Z41_1) (.block 0 (.seq (.z r_Z41_2) (.cond (.t 9) (.seq (.z r_Z41_3) .ret) (.seq (.z r_Z41_4) (.cond (.t 14) (.seq (.reg r_Z41_5 (some [0, 0, 0, 4, 12, 1, 33, 97, 255, 511])) .ret) (.seq (.z r_Z41_6) (.cond (.t 25) (.seq (.reg r_Z41_7 (some [0, 0, 0, 4, 12, 1, 33, 97, 255, 511])) .ret) (.seq (.z r_Z41_8) (.cond (.t 36) (.seq (.reg r_Z41_9 (some [0, 0, 0, 4, 12, 0, 32, 96, 1, 257, 769, 2047, 4095])) .ret) (.seq (.z r_Z41_10) (.cond (.t 50) (.seq (.reg r_Z41_11 (some [0, 0, 0, 4, 12, 0, 32, 96, 1, 257, 769, 2047, 4095])) .ret) (.seq (.z r_Z41_12) (.cond (.t 64) (.seq (.reg r_Z41_13 (some [0, 0, 0, 4, 12, 0, 32, 96, 1, 257, 769, 2047, 4095])) .ret) (.seq (.z r_Z41_14) (.cond (.t 78) (.seq (.reg r_Z41_15 (some [0, 0, 0, 4, 12, 1, 33, 97, 255, 511])) .ret) .skip)))))))))))))))) (.seq (.reg r_Z41_16 (some [0, 0, 0, 4, 12, 1, 33, 97, 255, 511])) .ret))
theorem c_Z41 : cfun Tryz.prog [] 94 = some (98, dc_Z41, [(Res.tmp 6)]) := by kernel_rfl
def r_Z30_0 : List GI := [gi 3 (.box 3 2000003 (.t 0) (some 2)), gi 4 (.box 4 2000004 (.t 1) (some 5)), gi 6 (.mov 6 (.k (.v (.bool false))))]
def r_Z30_1 : List GI := [gi 6 (.mov 6 (.k (.v (.bool true))))]
def dc_Z30 : DC := .seq (.z r_Z30_0) (.seq (.z r_Z30_1) .ret)
theorem c_Z30 : cfun Tryz.prog [] 263 = some (7, dc_Z30, [(Res.tmp 6)]) := by kernel_rfl
def r_Z37_0 : List GI := [gi 3 (.box 3 2000003 (.t 0) (some 2)), gi 4 (.box 4 2000004 (.t 1) (some 5)), gi 6 (.mov 6 (.k (.v (.bool false))))]
def r_Z37_1 : List GI := [gt 7 2, gt 6 7]
def dc_Z37 : DC := .seq (.z r_Z37_0) (.seq (.z r_Z37_1) .ret)
theorem c_Z37 : cfun Tryz.prog [] 264 = some (8, dc_Z37, [(Res.tmp 6)]) := by kernel_rfl
def r_Z42_0 : List GI := [gi 3 (.box 3 2000003 (.t 0) (some 2)), gi 4 (.box 4 2000004 (.t 1) (some 5)), gi 6 (.mov 6 (.k (.v (.bool false))))]
def r_Z42_1 : List GI := [gi 6 (.mov 6 (.k (.v (.bool true))))]
def dc_Z42 : DC := .seq (.z r_Z42_0) (.seq (.z r_Z42_1) .ret)
theorem c_Z42 : cfun Tryz.prog [] 265 = some (7, dc_Z42, [(Res.tmp 6)]) := by kernel_rfl
def r_Z51_0 : List GI := [gi 4 (.box 4 2000004 (.t 0) (some 2)), gi 5 (.box 5 2000005 (.t 1) (some 5)), gi 8 (.mov 8 (.k (.v (.bool false))))]
def r_Z51_1 : List GI := [gt 9 2, gt 10 9, ⟨.mov 11 (.t 3), some 11, some (10, true), false⟩, gi 12 (.pick 12 (.t 10) (.t 11) (.k (.v (.bool false)))), gt 8 12]
def dc_Z51 : DC := .seq (.z r_Z51_0) (.seq (.z r_Z51_1) .ret)
theorem c_Z51 : cfun Tryz.prog [] 266 = some (13, dc_Z51, [(Res.tmp 8)]) := by kernel_rfl
def r_Z31_0 : List GI := [gi 4 (.box 4 2000004 (.t 0) (some 2)), gi 5 (.box 5 2000005 (.t 1) (some 5)), gi 8 (.mov 8 (.k (.v (.bool false))))]
def r_Z31_1 : List GI := [gt 9 2, gt 10 9, ⟨.mov 11 (.t 3), some 11, some (10, true), false⟩, gi 12 (.pick 12 (.t 10) (.t 11) (.k (.v (.bool false)))), gt 8 12]
def dc_Z31 : DC := .seq (.z r_Z31_0) (.seq (.z r_Z31_1) .ret)
theorem c_Z31 : cfun Tryz.prog [] 267 = some (13, dc_Z31, [(Res.tmp 8)]) := by kernel_rfl
def r_Z33_0 : List GI := [gi 3 (.box 3 2000003 (.t 0) (some 2)), gi 4 (.box 4 2000004 (.t 1) (some 5)), gi 6 (.mov 6 (.k (.v (.bool false))))]
def r_Z33_1 : List GI := [gt 7 2, gt 8 7, ⟨.fad 9 4 2, some 9, some (8, true), false⟩, ⟨.lod 10 9 none, some 10, some (8, true), false⟩, ⟨.fad 11 4 4, some 11, some (8, true), false⟩, ⟨.lod 12 11 none, some 12, some (8, true), false⟩, ⟨.iad 13 12 (.k (I 0)) 5, some 13, some (8, true), false⟩, ⟨.lod 14 13 (some 5), some 14, some (8, true), false⟩, ⟨.fad 15 3 0, some 15, some (8, true), false⟩, ⟨.lod 16 15 none, some 16, some (8, true), false⟩, ⟨.call 17 28 [.t 14, .t 16], some 17, some (8, true), true⟩, ⟨.call 18 271 [.t 10, .t 17], some 18, some (8, true), true⟩, gi 19 (.pick 19 (.t 8) (.t 18) (.k (.v (.bool false)))), gt 6 19]
def dc_Z33 : DC := .seq (.z r_Z33_0) (.seq (.reg r_Z33_1 (some [0, 1, 3, 7, 3, 19, 51, 115, 3, 259, 1011, 2047, 4095, 8191])) .ret)
theorem c_Z33 : cfun Tryz.prog [] 268 = some (20, dc_Z33, [(Res.tmp 6)]) := by kernel_rfl
def r_Z52_0 : List GI := [gi 2 (.box 2 2000002 (.t 0) (some 2)), gi 3 (.box 3 2000003 (.t 1) (some 5)), gi 4 (.mov 4 (.k (.v (.bool false))))]
def r_Z52_1 : List GI := [gf 5 2 1, gl 6 5, gf 7 3 1, gl 8 7, ga 9 6 8 1, gl 10 9, gt 4 10]
def dc_Z52 : DC := .seq (.z r_Z52_0) (.seq (.z r_Z52_1) .ret)
theorem c_Z52 : cfun Tryz.prog [] 269 = some (11, dc_Z52, [(Res.tmp 4)]) := by kernel_rfl
def r_Z43_0 : List GI := [gi 4 (.box 4 2000004 (.t 0) (some 2)), gi 5 (.box 5 2000005 (.t 1) (some 5)), gi 8 (.mov 8 (.k (.v (.bool false))))]
def r_Z43_1 : List GI := [gi 8 (.mov 8 (.k (.v (.bool false))))]
def dc_Z43 : DC := .seq (.z r_Z43_0) (.seq (.z r_Z43_1) .ret)
theorem c_Z43 : cfun Tryz.prog [] 270 = some (9, dc_Z43, [(Res.tmp 8)]) := by kernel_rfl
def r_Z44_0 : List GI := [gi 3 (.box 3 2000003 (.t 0) (some 5)), gi 6 (.mov 6 (.k (.v (.bool false))))]
def r_Z44_1 : List GI := [gs 7 3 5, gt 8 1, gc 9 28 [.t 7, .t 8], gd 10 .eql 9 0, gt 11 10, ⟨.mov 12 (.t 2), some 12, some (11, false), false⟩, ⟨.len 13 (.t 12), some 13, some (11, false), false⟩, ⟨.mov 14 (.t 1), some 14, some (11, false), false⟩, ⟨.len 15 (.t 14), some 15, some (11, false), false⟩, ⟨.bin 16 .neq (.t 13) (.t 15), some 16, some (11, false), false⟩, gi 17 (.pick 17 (.t 11) (.k (.v (.bool true))) (.t 16))]
def r_Z44_2 : List GI := [gi 6 (.mov 6 (.k (.v (.bool false))))]
def r_Z44_3 : List GI := [gs 18 3 5, gt 19 1, gt 20 2, gi 21 (.build 21 [.nul, .nul] [(0, (none, .t 19)), (1, (none, .t 20))]), gi 22 (.ifc 22 78 (.t 21)), gc 23 50 [.t 18, .t 22], gt 6 23]
def dc_Z44 : DC := .seq (.z r_Z44_0) (.seq (.seq (.z r_Z44_1) (.cond (.t 17) (.seq (.z r_Z44_2) .ret) .skip)) (.seq (.z r_Z44_3) .ret))
theorem c_Z44 : cfun Tryz.prog [] 21 = some (24, dc_Z44, [(Res.tmp 6)]) := by kernel_rfl
def r_Z27_0 : List GI := [gi 2 (.box 2 2000002 (.t 0) (some 5)), gi 3 (.box 3 2000003 (.t 1) none), gi 4 (.mov 4 (.k (.v (.bool false))))]
def r_Z27_1 : List GI := [gs 5 2 5, gi 6 (.mkf 6 93 [.t 3]), gc 7 92 [.t 5, .t 6], gt 4 7]
def dc_Z27 : DC := .seq (.z r_Z27_0) (.seq (.z r_Z27_1) .ret)
theorem c_Z27 : cfun Tryz.prog [] 50 = some (8, dc_Z27, [(Res.tmp 4)]) := by kernel_rfl
def r_Z24_0 : List GI := [gi 3 (.box 3 2000003 (.t 0) (some 5)), gi 5 (.mov 5 (.k (.v (.bool false))))]
def r_Z24_1 : List GI := [gs 6 3 5, gt 7 1, gl 8 2, gc 9 94 [.t 6, .t 7, .t 8], gt 5 9]
def dc_Z24 : DC := .seq (.z r_Z24_0) (.seq (.z r_Z24_1) .ret)
theorem c_Z24 : cfun Tryz.prog [] 93 = some (10, dc_Z24, [(Res.tmp 5)]) := by kernel_rfl
def r_Z58_0 : List GI := [gi 2 (.box 2 2000002 (.t 0) (some 5)), gi 4 (.mov 4 (.k (.v (.bool false))))]
def r_Z58_1 : List GI := [gi 5 (.mov 5 (.k .nul))]
def r_Z58_2 : List GI := [gf 8 2 4, gl 9 8, gn 10 9, gk 11 0]
def r_Z58_3 : List GI := [gb 12 .lss 11 10]
def r_Z58_4 : List GI := [ga 13 9 11 5, gs 14 13 5, gi 7 (.alloc 7 2000007 [I 0, I 0, .nul, .nul, .nul]), g0 (.sto 7 (.t 14) (some 5))]
def r_Z58_5 : List GI := [gt 15 5, gs 16 7 5, gt 17 1, gc 18 92 [.t 16, .t 17], gi 19 (.bsl 19 1 none [.v (.bool false)] [(0, .t 18)]), gi 20 (.app 20 2000020 (.t 15) (.t 19) 1 1), gt 5 20]
def r_Z58_6 : List GI := [gd 21 .add 11 1, gt 11 21]
def r_Z58_7 : List GI := [gt 22 1, gs 23 2 5, gt 24 5, ⟨.cal 25 (.t 22) [.t 23, .t 24], some 25, none, true⟩, gt 4 25]
def dc_Z58 : DC := .seq (.z r_Z58_0) (.seq (.z r_Z58_1) (.seq (.seq (.z r_Z58_2) (.block 0 (.loop (.seq (.z r_Z58_3) (.seq (.cond (.t 12) .skip (.exit 0)) (.seq (.block 1 (.seq (.z r_Z58_4) (.z r_Z58_5))) (.z r_Z58_6))))))) (.seq (.z r_Z58_7) .ret)))
theorem c_Z58 : cfun Tryz.prog [] 92 = some (26, dc_Z58, [(Res.tmp 4)]) := by kernel_rfl
def r_Z53_0 : List GI := [gi 3 (.box 3 2000003 (.t 0) (some 5)), gi 6 (.mov 6 (.k (.v (.bool false))))]
def r_Z53_1 : List GI := [gs 7 3 5, gt 8 1, gc 9 35 [.t 7, .t 8], gd 10 .gtr 9 0, gt 11 10, ⟨.mov 12 (.t 2), some 12, some (11, true), false⟩, ⟨.len 13 (.t 12), some 13, some (11, true), false⟩, ⟨.mov 14 (.t 1), some 14, some (11, true), false⟩, ⟨.len 15 (.t 14), some 15, some (11, true), false⟩, ⟨.bin 16 .eql (.t 13) (.t 15), some 16, some (11, true), false⟩, gi 17 (.pick 17 (.t 11) (.t 16) (.k (.v (.bool false)))), gt 18 17, ⟨.lod 19 3 (some 5), some 19, some (18, true), false⟩, ⟨.mov 20 (.t 1), some 20, some (18, true), false⟩, ⟨.mov 21 (.t 2), some 21, some (18, true), false⟩, ⟨.call 22 51 [.t 19, .t 20, .t 21], some 22, some (18, true), true⟩, gi 23 (.pick 23 (.t 18) (.t 22) (.k (.v (.bool false)))), gt 6 23]
def dc_Z53 : DC := .seq (.z r_Z53_0) (.seq (.z r_Z53_1) .ret)
theorem c_Z53 : cfun Tryz.prog [] 22 = some (24, dc_Z53, [(Res.tmp 6)]) := by kernel_rfl
def r_Z72_0 : List GI := [gi 3 (.box 3 2000003 (.t 0) (some 5)), gi 6 (.mov 6 (.k (.v (.bool false))))]
def r_Z72_1 : List GI := [gf 8 3 0, gl 9 8]
def r_Z72_2 : List GI := [gd 11 .eql 9 1, gt 10 11]
def r_Z72_3 : List GI := [gt 12 2, gf 13 3 1, gl 14 13, ga 15 12 14 1, gl 16 15, gt 6 16]
def r_Z72_4 : List GI := [gd 18 .eql 9 6, gt 17 18]
def r_Z72_5 : List GI := [gi 6 (.mov 6 (.k (.v (.bool false))))]
def r_Z72_6 : List GI := [gd 20 .eql 9 7, gt 19 20]
def r_Z72_7 : List GI := [gd 21 .eql 9 8, gt 19 21]
def r_Z72_8 : List GI := [gi 6 (.mov 6 (.k (.v (.bool true))))]
def r_Z72_9 : List GI := [gd 23 .eql 9 3, gt 22 23]
def r_Z72_10 : List GI := [gf 24 3 2, gl 25 24, gf 26 3 4, gl 27 26, gi 28 (.iad 28 27 (.k (I 0)) 5), gs 29 28 5, gt 30 1, gc 31 69 [.t 29, .t 30, .k (I 8)], gc 32 95 [.t 25, .t 31], gt 33 32, ⟨.fad 34 3 4, some 34, some (33, true), false⟩, ⟨.lod 35 34 none, some 35, some (33, true), false⟩, ⟨.iad 36 35 (.k (I 0)) 5, some 36, some (33, true), false⟩, ⟨.lod 37 36 (some 5), some 37, some (33, true), false⟩, ⟨.mov 38 (.t 1), some 38, some (33, true), false⟩, ⟨.mov 39 (.t 2), some 39, some (33, true), false⟩, ⟨.call 40 51 [.t 37, .t 38, .t 39], some 40, some (33, true), true⟩, gi 41 (.pick 41 (.t 33) (.t 40) (.k (.v (.bool false)))), gt 6 41]
def r_Z72_11 : List GI := [gk 7 0]
def r_Z72_12 : List GI := [gt 42 7, gf 43 3 4, gl 44 43, gn 45 44, gb 46 .lss 42 45]
def r_Z72_13 : List GI := [gf 49 3 4, gl 50 49, gt 51 7, ga 52 50 51 5, gs 53 52 5, gt 54 1, gt 55 2, gc 56 51 [.t 53, .t 54, .t 55], gi 57 (.un 57 UnOp.not (.t 56))]
def r_Z72_14 : List GI := [gi 6 (.mov 6 (.k (.v (.bool false))))]
def r_Z72_15 : List GI := [gt 47 7, gd 48 .add 47 1, gt 7 48]
def r_Z72_16 : List GI := [gi 6 (.mov 6 (.k (.v (.bool true))))]
def dc_Z72 : DC := .seq (.z r_Z72_0) (.seq (.seq (.z r_Z72_1) (.block 0 (.seq (.z r_Z72_2) (.cond (.t 10) (.seq (.z r_Z72_3) .ret) (.seq (.z r_Z72_4) (.cond (.t 17) (.seq (.z r_Z72_5) .ret) (.seq (.seq (.z r_Z72_6) (.cond (.t 19) .skip (.z r_Z72_7))) (.cond (.t 19) (.seq (.z r_Z72_8) .ret) (.seq (.z r_Z72_9) (.cond (.t 22) (.seq (.reg r_Z72_10 (some [0, 1, 0, 4, 12, 28, 0, 124, 255, 511, 1023, 2047, 4095, 8191, 1023, 1023, 65535, 131071, 262143])) .ret) .skip)))))))))) (.seq (.seq (.z r_Z72_11) (.block 1 (.loop (.seq (.seq (.z r_Z72_12) (.cond (.t 46) .skip (.exit 1))) (.seq (.block 2 (.seq (.z r_Z72_13) (.cond (.t 57) (.seq (.z r_Z72_14) .ret) .skip))) (.z r_Z72_15)))))) (.seq (.z r_Z72_16) .ret)))
theorem c_Z72 : cfun Tryz.prog [] 51 = some (58, dc_Z72, [(Res.tmp 6)]) := by kernel_rfl
def r_Z75_0 : List GI := [gi 1 (.box 1 2000001 (.t 0) (some 2)), gi 2 (.alloc 2 2000002 [I 0, .nul]), gi 3 (.mov 3 (.k (.v (.bool false))))]
def r_Z75_1 : List GI := [gs 5 1 2, gc 6 47 [.t 5], gi 7 (.un 7 UnOp.not (.t 6))]
def r_Z75_2 : List GI := [gi 8 (.build 8 [I 0, .nul] []), g0 (.sto 2 (.t 8) (some 2)), gi 3 (.mov 3 (.k (.v (.bool false))))]
def r_Z75_3 : List GI := [gf 9 1 1, gl 10 9, gc 11 34 [.t 10], ⟨.call 12 48 [.t 11, .k (.fn 49 [])], some 12, none, true⟩, gt 4 12]
def r_Z75_4 : List GI := [gf 13 1 0, gl 14 13, gt 15 4, gi 16 (.build 16 [I 0, .nul] [(0, (none, .t 14)), (1, (none, .t 15))]), g0 (.sto 2 (.t 16) (some 2)), gi 3 (.mov 3 (.k (.v (.bool true))))]
def dc_Z75 : DC := .seq (.z r_Z75_0) (.seq (.seq (.z r_Z75_1) (.cond (.t 7) (.seq (.z r_Z75_2) .ret) .skip)) (.seq (.z r_Z75_3) (.seq (.z r_Z75_4) .ret)))
theorem c_Z75 : cfun Tryz.prog [] 20 = some (17, dc_Z75, [(Res.cell 2 (some 2)), (Res.tmp 3)]) := by kernel_rfl
def r_Z1_0 : List GI := [gi 4 (.mov 4 (.k .nul))]
def r_Z1_1 : List GI := [gt 8 0, gn 9 8, gd 10 .lss 9 2]
def r_Z1_2 : List GI := [gt 11 0, gt 4 11]
def r_Z1_3 : List GI := [gk 5 1]
def r_Z1_4 : List GI := [gt 12 5, gt 13 0, gn 14 13, gb 15 .lss 12 14]
def r_Z1_5 : List GI := [gt 18 1, gt 19 0, gt 20 5, ga 21 19 20 1, gl 22 21, gt 23 0, gt 24 5, gd 25 .sub 24 1, ga 26 23 25 1, gl 27 26, ⟨.cal 28 (.t 18) [.t 22, .t 27], some 28, none, true⟩]
def r_Z1_6 : List GI := [gt 29 0, gt 30 5, gi 31 (.slc 31 (.t 29) (some (.t 30)) none 1), gt 6 31]
def r_Z1_7 : List GI := [gk 7 1]
def r_Z1_8 : List GI := [gt 32 7, gt 33 6, gn 34 33, gb 35 .lss 32 34]
def r_Z1_9 : List GI := [gt 38 1, gt 39 6, gt 40 7, ga 41 39 40 1, gl 42 41, gt 43 6, gt 44 7, gd 45 .sub 44 1, ga 46 43 45 1, gl 47 46, ⟨.cal 48 (.t 38) [.t 42, .t 47], some 48, none, true⟩, gi 49 (.un 49 UnOp.not (.t 48))]
def r_Z1_10 : List GI := [gt 50 0, gt 51 5, gt 52 6, gt 53 7, ga 54 52 53 1, gl 55 54, ga 56 50 51 1, g0 (.sto 56 (.t 55) none)]
def r_Z1_11 : List GI := [gt 57 5, gd 58 .add 57 1, gt 5 58]
def r_Z1_12 : List GI := [gt 36 7, gd 37 .add 36 1, gt 7 37]
def r_Z1_13 : List GI := [gt 59 0, gt 60 5, gi 61 (.slc 61 (.t 59) (some (.t 60)) none 1), g0 (.clr none (.t 61) 1 .nul)]
def r_Z1_14 : List GI := [gt 62 0, gt 63 5, gi 64 (.slc 64 (.t 62) none (some (.t 63)) 1), gt 4 64]
def r_Z1_15 : List GI := [gt 16 5, gd 17 .add 16 1, gt 5 17]
def r_Z1_16 : List GI := [gt 65 0, gt 4 65]
def dc_Z1 : DC := .seq (.z r_Z1_0) (.seq (.seq (.z r_Z1_1) (.cond (.t 10) (.seq (.z r_Z1_2) .ret) .skip)) (.seq (.seq (.z r_Z1_3) (.block 0 (.loop (.seq (.seq (.z r_Z1_4) (.cond (.t 15) .skip (.exit 0))) (.seq (.block 1 (.seq (.reg r_Z1_5 (some [0, 0, 0, 6, 14, 0, 0, 64, 224, 480, 1023])) (.cond (.t 28) (.seq (.z r_Z1_6) (.seq (.seq (.z r_Z1_7) (.block 2 (.loop (.seq (.seq (.z r_Z1_8) (.cond (.t 35) .skip (.exit 2))) (.seq (.block 3 (.seq (.reg r_Z1_9 (some [0, 0, 0, 6, 14, 0, 0, 64, 224, 480, 1023, 2047])) (.cond (.t 49) (.seq (.z r_Z1_10) (.z r_Z1_11)) .skip))) (.z r_Z1_12)))))) (.seq (.z r_Z1_13) (.seq (.z r_Z1_14) .ret)))) .skip))) (.z r_Z1_15)))))) (.seq (.z r_Z1_16) .ret)))
theorem c_Z1 : cfun Tryz.prog [] 48 = some (66, dc_Z1, [(Res.tmp 4)]) := by kernel_rfl
def r_Z12_0 : List GI := [gi 4 (.mov 4 (.k (.v (.bool false))))]
def r_Z12_1 : List GI := [gt 6 0, gn 7 6, gt 8 1, gn 9 8, gb 10 .neq 7 9]
def r_Z12_2 : List GI := [gi 4 (.mov 4 (.k (.v (.bool false))))]
def r_Z12_3 : List GI := [gt 11 0, gn 12 11, gk 13 0]
def r_Z12_4 : List GI := [gb 14 .lss 13 12]
def r_Z12_5 : List GI := [gt 15 13, gt 5 15]
def r_Z12_6 : List GI := [gt 16 0, gt 17 5, ga 18 16 17 2, gs 19 18 2, gt 20 1, gt 21 5, ga 22 20 21 2, gs 23 22 2, gi 24 (.eqs 24 true [false, true] (.t 19) (.t 23))]
def r_Z12_7 : List GI := [gi 4 (.mov 4 (.k (.v (.bool false))))]
def r_Z12_8 : List GI := [gd 25 .add 13 1, gt 13 25]
def r_Z12_9 : List GI := [gi 4 (.mov 4 (.k (.v (.bool true))))]
def dc_Z12 : DC := .seq (.z r_Z12_0) (.seq (.seq (.z r_Z12_1) (.cond (.t 10) (.seq (.z r_Z12_2) .ret) .skip)) (.seq (.seq (.z r_Z12_3) (.block 0 (.loop (.seq (.z r_Z12_4) (.seq (.cond (.t 14) .skip (.exit 0)) (.seq (.block 1 (.seq (.z r_Z12_5) (.seq (.reg r_Z12_6 (some [0, 0, 3, 7, 0, 0, 48, 112, 255])) (.cond (.t 24) (.seq (.z r_Z12_7) .ret) .skip)))) (.z r_Z12_8))))))) (.seq (.z r_Z12_9) .ret)))
theorem c_Z12 : cfun Tryz.prog [] 49 = some (26, dc_Z12, [(Res.tmp 4)]) := by kernel_rfl
end
end Go.Proofs.YtepkimfmncedcaaGreat
