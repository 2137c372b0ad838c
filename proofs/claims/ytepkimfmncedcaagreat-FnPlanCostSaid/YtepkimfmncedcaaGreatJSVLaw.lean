/-
  Functions of the program read as code on plain data. Closed facts of the program alone.
-/
import Derived.KernelRfl
import Derived.Test.YtepkimfmncedcaaGreatRows
import Derived.Test.YtepkimfmncedcaaGreatJSVGo
import Derived.Test.YtepkimfmncedcaaGreatJSVTbD
import Derived.Test.YtepkimfmncedcaaGreatJSVFrzB
namespace Go.Proofs.YtepkimfmncedcaaGreat
open Go.RowKit
noncomputable section
def name_impl_distinct : String := match Tryz.prog.info? 68 with
  | some i => ((i.methods.toList[0]?).map (fun m => m.name)).getD default
  | none => default
def name_impl_filter : String := match Tryz.prog.info? 68 with
  | some i => ((i.methods.toList[1]?).map (fun m => m.name)).getD default
  | none => default
def name_impl_group : String := match Tryz.prog.info? 68 with
  | some i => ((i.methods.toList[2]?).map (fun m => m.name)).getD default
  | none => default
def name_impl_join : String := match Tryz.prog.info? 68 with
  | some i => ((i.methods.toList[3]?).map (fun m => m.name)).getD default
  | none => default
def name_impl_leftJoin : String := match Tryz.prog.info? 68 with
  | some i => ((i.methods.toList[4]?).map (fun m => m.name)).getD default
  | none => default
def name_impl_project : String := match Tryz.prog.info? 68 with
  | some i => ((i.methods.toList[5]?).map (fun m => m.name)).getD default
  | none => default
def name_impl_scan : String := match Tryz.prog.info? 68 with
  | some i => ((i.methods.toList[6]?).map (fun m => m.name)).getD default
  | none => default
def name_impl_union : String := match Tryz.prog.info? 68 with
  | some i => ((i.methods.toList[7]?).map (fun m => m.name)).getD default
  | none => default
def r_Z56_0 : List GI := [gi 4 (.mov 4 (.k .nul))]
def r_Z56_1 : List GI := [gi 7 (.mov 7 (.k .nul)), gt 5 7]
def r_Z56_2 : List GI := [gk 6 0]
def r_Z56_3 : List GI := [gt 8 6, gt 9 1, gn 10 9, gb 11 .lss 8 10]
def r_Z56_4 : List GI := [gt 14 5, gt 15 0, gt 16 1, gt 17 6, ga 18 16 17 1, gl 19 18, gi 20 (.mm 20 true (.t 19) (.k (I 1))), gi 21 (.mm 21 false (.t 20) (.k (I 6))), gc 22 101 [.t 15, .t 21, .k (I 4)], gi 23 (.bsl 23 2 (some 2) [.agg [I 0, .nul]] [(0, .t 22)]), gi 24 (.app 24 2000024 (.t 14) (.t 23) 2 32), gt 5 24]
def r_Z56_5 : List GI := [gt 12 6, gd 13 .add 12 1, gt 6 13]
def r_Z56_6 : List GI := [gt 25 5, gt 4 25]
def dc_Z56 : DC := .seq (.z r_Z56_0) (.seq (.z r_Z56_1) (.seq (.seq (.z r_Z56_2) (.block 0 (.loop (.seq (.seq (.z r_Z56_3) (.cond (.t 11) .skip (.exit 0))) (.seq (.block 1 (.z r_Z56_4)) (.z r_Z56_5)))))) (.seq (.z r_Z56_6) .ret)))
theorem c_Z56 : cfun Tryz.prog [] 57 = some (26, dc_Z56, [(Res.tmp 4)]) := by kernel_rfl
def r_Z152_0 : List GI := [gi 2 (.mov 2 (.k .nul))]
def r_Z152_1 : List GI := [gi 5 (.mov 5 (.k .nul)), gt 3 5]
def r_Z152_2 : List GI := [gk 4 0]
def r_Z152_3 : List GI := [gt 6 4, gt 7 0, gn 8 7, gb 9 .lss 6 8]
def r_Z152_4 : List GI := [gt 12 3, gt 13 0, gt 14 4, ga 15 13 14 2, gf 16 15 0, gl 17 16, gi 18 (.bsl 18 1 none [I 0] [(0, .t 17)]), gi 19 (.app 19 2000019 (.t 12) (.t 18) 1 8), gt 3 19]
def r_Z152_5 : List GI := [gt 10 4, gd 11 .add 10 1, gt 4 11]
def r_Z152_6 : List GI := [gt 20 3, gt 2 20]
def dc_Z152 : DC := .seq (.z r_Z152_0) (.seq (.z r_Z152_1) (.seq (.seq (.z r_Z152_2) (.block 0 (.loop (.seq (.seq (.z r_Z152_3) (.cond (.t 9) .skip (.exit 0))) (.seq (.block 1 (.z r_Z152_4)) (.z r_Z152_5)))))) (.seq (.z r_Z152_6) .ret)))
theorem c_Z152 : cfun Tryz.prog [] 13 = some (21, dc_Z152, [(Res.tmp 2)]) := by kernel_rfl
def r_Z29_0 : List GI := [gi 3 (.box 3 2000003 (.t 0) (some 1)), gi 4 (.box 4 2000004 (.t 1) (some 5)), gk 6 0]
def r_Z29_1 : List GI := [gt 7 2, gt 6 7]
def dc_Z29 : DC := .seq (.z r_Z29_0) (.seq (.z r_Z29_1) .ret)
theorem c_Z29 : cfun Tryz.prog [] 255 = some (8, dc_Z29, [(Res.tmp 6)]) := by kernel_rfl
def r_Z44_0 : List GI := [gi 3 (.box 3 2000003 (.t 0) (some 1)), gi 4 (.box 4 2000004 (.t 1) (some 5)), gk 6 0]
def r_Z44_1 : List GI := [gf 7 4 3, gl 8 7, gn 9 8, gd 10 .eql 9 0]
def r_Z44_2 : List GI := [gt 11 2, gi 12 (.mm 12 false (.t 11) (.k (I 1))), gt 6 12]
def r_Z44_3 : List GI := [gt 13 2, gt 6 13]
def dc_Z44 : DC := .seq (.z r_Z44_0) (.seq (.seq (.z r_Z44_1) (.cond (.t 10) (.seq (.z r_Z44_2) .ret) .skip)) (.seq (.z r_Z44_3) .ret))
theorem c_Z44 : cfun Tryz.prog [] 257 = some (14, dc_Z44, [(Res.tmp 6)]) := by kernel_rfl
def r_Z53_0 : List GI := [gi 4 (.box 4 2000004 (.t 0) (some 1)), gi 5 (.box 5 2000005 (.t 1) (some 5)), gk 8 0]
def r_Z53_1 : List GI := [gt 9 2, gt 10 3, gb 11 .mul 9 10, gi 12 (.mm 12 false (.t 11) (.k (I 1000000000))), gt 8 12]
def dc_Z53 : DC := .seq (.z r_Z53_0) (.seq (.z r_Z53_1) .ret)
theorem c_Z53 : cfun Tryz.prog [] 258 = some (13, dc_Z53, [(Res.tmp 8)]) := by kernel_rfl
def r_Z34_0 : List GI := [gi 3 (.box 3 2000003 (.t 0) (some 1)), gi 4 (.box 4 2000004 (.t 1) (some 5)), gk 6 0]
def r_Z34_1 : List GI := [gt 7 2, gt 6 7]
def dc_Z34 : DC := .seq (.z r_Z34_0) (.seq (.z r_Z34_1) .ret)
theorem c_Z34 : cfun Tryz.prog [] 260 = some (8, dc_Z34, [(Res.tmp 6)]) := by kernel_rfl
def r_Z54_0 : List GI := [gi 2 (.box 2 2000002 (.t 0) (some 1)), gi 3 (.box 3 2000003 (.t 1) (some 5)), gk 4 0]
def r_Z54_1 : List GI := [gf 5 2 0, gl 6 5, gf 7 3 1, gl 8 7, ga 9 6 8 1, gl 10 9, gt 4 10]
def dc_Z54 : DC := .seq (.z r_Z54_0) (.seq (.z r_Z54_1) .ret)
theorem c_Z54 : cfun Tryz.prog [] 261 = some (11, dc_Z54, [(Res.tmp 4)]) := by kernel_rfl
def r_Z45_0 : List GI := [gi 4 (.box 4 2000004 (.t 0) (some 1)), gi 5 (.box 5 2000005 (.t 1) (some 5)), gk 8 0]
def r_Z45_1 : List GI := [gt 9 2, gt 10 3, gb 11 .add 9 10, gi 12 (.mm 12 false (.t 11) (.k (I 1000000000))), gt 8 12]
def dc_Z45 : DC := .seq (.z r_Z45_0) (.seq (.z r_Z45_1) .ret)
theorem c_Z45 : cfun Tryz.prog [] 262 = some (13, dc_Z45, [(Res.tmp 8)]) := by kernel_rfl
def r_Z169_0 : List GI := [gi 2 (.box 2 2000002 (.t 0) (some 5)), gk 4 0]
def r_Z169_1 : List GI := [gf 6 2 0, gl 7 6, gd 8 .eql 7 1]
def r_Z169_2 : List GI := [gt 9 1, gf 10 2 1, gl 11 10, ga 12 9 11 1, gl 13 12, gt 4 13]
def r_Z169_3 : List GI := [gf 14 2 4, gl 15 14, gi 16 (.iad 16 15 (.k (I 0)) 5), gs 17 16 5, gt 18 1, gc 19 46 [.t 17, .t 18], gt 5 19]
def r_Z169_4 : List GI := [gf 20 2 0, gl 21 20]
def r_Z169_5 : List GI := [gd 23 .eql 21 4, gt 22 23]
def r_Z169_6 : List GI := [gt 24 5, gf 25 2 4, gl 26 25, gi 27 (.iad 27 26 (.k (I 1)) 5), gs 28 27 5, gt 29 1, gc 30 46 [.t 28, .t 29], gb 31 .mul 24 30, gt 5 31]
def r_Z169_7 : List GI := [gd 33 .eql 21 5, gt 32 33]
def r_Z169_8 : List GI := [gt 34 5, gf 35 2 4, gl 36 35, gi 37 (.iad 37 36 (.k (I 1)) 5), gs 38 37 5, gt 39 1, gc 40 46 [.t 38, .t 39], gi 41 (.mm 41 true (.k (I 1)) (.t 40)), gb 42 .mul 34 41, gt 5 42]
def r_Z169_9 : List GI := [gd 44 .eql 21 6, gt 43 44]
def r_Z169_10 : List GI := [gt 45 5, gf 46 2 4, gl 47 46, gi 48 (.iad 48 47 (.k (I 1)) 5), gs 49 48 5, gt 50 1, gc 51 46 [.t 49, .t 50], gb 52 .add 45 51, gt 5 52]
def r_Z169_11 : List GI := [gd 54 .eql 21 8, gt 53 54]
def r_Z169_12 : List GI := [gf 55 2 3, gl 56 55, gn 57 56, gd 58 .eql 57 0]
def r_Z169_13 : List GI := [gt 59 5, gi 60 (.mm 60 false (.t 59) (.k (I 1))), gt 5 60]
def r_Z169_14 : List GI := [gt 61 5, gi 62 (.mm 62 false (.t 61) (.k (I 1000000000))), gt 4 62]
def dc_Z169 : DC := .seq (.z r_Z169_0) (.seq (.seq (.z r_Z169_1) (.cond (.t 8) (.seq (.z r_Z169_2) .ret) .skip)) (.seq (.z r_Z169_3) (.seq (.seq (.z r_Z169_4) (.block 0 (.seq (.z r_Z169_5) (.cond (.t 22) (.z r_Z169_6) (.seq (.z r_Z169_7) (.cond (.t 32) (.z r_Z169_8) (.seq (.z r_Z169_9) (.cond (.t 43) (.z r_Z169_10) (.seq (.z r_Z169_11) (.cond (.t 53) (.seq (.z r_Z169_12) (.cond (.t 58) (.z r_Z169_13) .skip)) .skip)))))))))) (.seq (.z r_Z169_14) .ret))))
theorem c_Z169 : cfun Tryz.prog [] 46 = some (63, dc_Z169, [(Res.tmp 4)]) := by kernel_rfl
def r_Z43_0 : List GI := [gi 3 (.box 3 2000003 (.t 0) (some 5)), gk 6 0]
def r_Z43_1 : List GI := [gf 7 3 0, gl 8 7]
def r_Z43_2 : List GI := [gd 10 .eql 8 1, gt 9 10]
def r_Z43_3 : List GI := [gt 11 2, gs 12 3 5, ⟨.inv 13 (.t 11) name_impl_scan [.t 12], some 13, none, true⟩, gt 6 13]
def r_Z43_4 : List GI := [gd 15 .eql 8 2, gt 14 15]
def r_Z43_5 : List GI := [gt 16 2, gs 17 3 5, gt 18 1, gi 19 (.iad 19 18 (.k (I 0)) 1), gl 20 19, gi 21 (.mkb 21 name_impl_filter (.t 16)), gi 22 (.nilc 22 21), gt 23 16, ⟨.inv 24 (.t 23) name_impl_filter [.t 17, .t 20], some 24, none, true⟩, gt 6 24]
def r_Z43_6 : List GI := [gd 26 .eql 8 3, gt 25 26]
def r_Z43_7 : List GI := [gt 27 2, gs 28 3 5, gt 29 1, gi 30 (.iad 30 29 (.k (I 0)) 1), gl 31 30, gi 32 (.mkb 32 name_impl_project (.t 27)), gi 33 (.nilc 33 32), gt 34 27, ⟨.inv 35 (.t 34) name_impl_project [.t 28, .t 31], some 35, none, true⟩, gt 6 35]
def r_Z43_8 : List GI := [gd 37 .eql 8 4, gt 36 37]
def r_Z43_9 : List GI := [gt 38 2, gs 39 3 5, gt 40 1, gi 41 (.iad 41 40 (.k (I 0)) 1), gl 42 41, gt 43 1, gi 44 (.iad 44 43 (.k (I 1)) 1), gl 45 44, gi 46 (.mkb 46 name_impl_join (.t 38)), gi 47 (.nilc 47 46), gt 48 38, ⟨.inv 49 (.t 48) name_impl_join [.t 39, .t 42, .t 45], some 49, none, true⟩, gt 6 49]
def r_Z43_10 : List GI := [gd 51 .eql 8 5, gt 50 51]
def r_Z43_11 : List GI := [gt 52 2, gs 53 3 5, gt 54 1, gi 55 (.iad 55 54 (.k (I 0)) 1), gl 56 55, gt 57 1, gi 58 (.iad 58 57 (.k (I 1)) 1), gl 59 58, gi 60 (.mkb 60 name_impl_leftJoin (.t 52)), gi 61 (.nilc 61 60), gt 62 52, ⟨.inv 63 (.t 62) name_impl_leftJoin [.t 53, .t 56, .t 59], some 63, none, true⟩, gt 6 63]
def r_Z43_12 : List GI := [gd 65 .eql 8 6, gt 64 65]
def r_Z43_13 : List GI := [gt 66 2, gs 67 3 5, gt 68 1, gi 69 (.iad 69 68 (.k (I 0)) 1), gl 70 69, gt 71 1, gi 72 (.iad 72 71 (.k (I 1)) 1), gl 73 72, gi 74 (.mkb 74 name_impl_union (.t 66)), gi 75 (.nilc 75 74), gt 76 66, ⟨.inv 77 (.t 76) name_impl_union [.t 67, .t 70, .t 73], some 77, none, true⟩, gt 6 77]
def r_Z43_14 : List GI := [gd 79 .eql 8 7, gt 78 79]
def r_Z43_15 : List GI := [gt 80 2, gs 81 3 5, gt 82 1, gi 83 (.iad 83 82 (.k (I 0)) 1), gl 84 83, gi 85 (.mkb 85 name_impl_distinct (.t 80)), gi 86 (.nilc 86 85), gt 87 80, ⟨.inv 88 (.t 87) name_impl_distinct [.t 81, .t 84], some 88, none, true⟩, gt 6 88]
def r_Z43_16 : List GI := [gt 89 2, gs 90 3 5, gt 91 1, gi 92 (.iad 92 91 (.k (I 0)) 1), gl 93 92, gi 94 (.mkb 94 name_impl_group (.t 89)), gi 95 (.nilc 95 94), gt 96 89, ⟨.inv 97 (.t 96) name_impl_group [.t 90, .t 93], some 97, none, true⟩, gt 6 97]
def dc_Z43 : DC := .seq (.z r_Z43_0) (.seq (.seq (.z r_Z43_1) (.block 0 (.seq (.z r_Z43_2) (.cond (.t 9) (.seq (.z r_Z43_3) .ret) (.seq (.z r_Z43_4) (.cond (.t 14) (.seq (.reg r_Z43_5 (some [0, 0, 0, 4, 12, 1, 33, 97, 255, 511])) .ret) (.seq (.z r_Z43_6) (.cond (.t 25) (.seq (.reg r_Z43_7 (some [0, 0, 0, 4, 12, 1, 33, 97, 255, 511])) .ret) (.seq (.z r_Z43_8) (.cond (.t 36) (.seq (.reg r_Z43_9 (some [0, 0, 0, 4, 12, 0, 32, 96, 1, 257, 769, 2047, 4095])) .ret) (.seq (.z r_Z43_10) (.cond (.t 50) (.seq (.reg r_Z43_11 (some [0, 0, 0, 4, 12, 0, 32, 96, 1, 257, 769, 2047, 4095])) .ret) (.seq (.z r_Z43_12) (.cond (.t 64) (.seq (.reg r_Z43_13 (some [0, 0, 0, 4, 12, 0, 32, 96, 1, 257, 769, 2047, 4095])) .ret) (.seq (.z r_Z43_14) (.cond (.t 78) (.seq (.reg r_Z43_15 (some [0, 0, 0, 4, 12, 1, 33, 97, 255, 511])) .ret) .skip)))))))))))))))) (.seq (.reg r_Z43_16 (some [0, 0, 0, 4, 12, 1, 33, 97, 255, 511])) .ret))
theorem c_Z43 : cfun Tryz.prog [] 89 = some (98, dc_Z43, [(Res.tmp 6)]) := by kernel_rfl
def r_Z37_0 : List GI := [gi 3 (.box 3 2000003 (.t 0) (some 1)), gi 4 (.box 4 2000004 (.t 1) (some 5)), gk 6 0]
def r_Z37_1 : List GI := [gt 7 2, gt 6 7]
def dc_Z37 : DC := .seq (.z r_Z37_0) (.seq (.z r_Z37_1) .ret)
theorem c_Z37 : cfun Tryz.prog [] 256 = some (8, dc_Z37, [(Res.tmp 6)]) := by kernel_rfl
def r_Z30_0 : List GI := [gi 4 (.box 4 2000004 (.t 0) (some 1)), gi 5 (.box 5 2000005 (.t 1) (some 5)), gk 8 0]
def r_Z30_1 : List GI := [gt 9 2, gt 10 3, gi 11 (.mm 11 true (.t 10) (.k (I 1))), gb 12 .mul 9 11, gi 13 (.mm 13 false (.t 12) (.k (I 1000000000))), gt 8 13]
def dc_Z30 : DC := .seq (.z r_Z30_0) (.seq (.z r_Z30_1) .ret)
theorem c_Z30 : cfun Tryz.prog [] 259 = some (14, dc_Z30, [(Res.tmp 8)]) := by kernel_rfl
def r_Z145_0 : List GI := [gi 3 (.box 3 2000003 (.t 0) (some 5)), gk 6 0]
def r_Z145_1 : List GI := [gs 9 3 5, gt 10 1, gc 11 28 [.t 9, .t 10], gd 12 .eql 11 0, gt 13 12, ⟨.mov 14 (.t 2), some 14, some (13, false), false⟩, ⟨.len 15 (.t 14), some 15, some (13, false), false⟩, ⟨.mov 16 (.t 1), some 16, some (13, false), false⟩, ⟨.len 17 (.t 16), some 17, some (13, false), false⟩, ⟨.bin 18 .neq (.t 15) (.t 17), some 18, some (13, false), false⟩, gi 19 (.pick 19 (.t 13) (.k (.v (.bool true))) (.t 18))]
def r_Z145_2 : List GI := [gi 6 (.mov 6 (.k (.v (.int .i64 (-1)))))]
def r_Z145_3 : List GI := [gt 20 2, gn 21 20, gk 22 0]
def r_Z145_4 : List GI := [gb 23 .lss 22 21]
def r_Z145_5 : List GI := [ga 24 20 22 1, gl 25 24, gt 8 25]
def r_Z145_6 : List GI := [gt 26 8, gd 27 .lss 26 0, gt 28 27, ⟨.mov 29 (.t 8), some 29, some (28, false), false⟩, ⟨.bin 30 .gtr (.t 29) (.k (I 400)), some 30, some (28, false), false⟩, gi 31 (.pick 31 (.t 28) (.k (.v (.bool true))) (.t 30))]
def r_Z145_7 : List GI := [gi 6 (.mov 6 (.k (.v (.int .i64 (-1)))))]
def r_Z145_8 : List GI := [gd 32 .add 22 1, gt 22 32]
def r_Z145_9 : List GI := [gs 33 3 5, gt 34 2, gi 35 (.build 35 [.nul] [(0, (none, .t 34))]), gi 36 (.ifc 36 71 (.t 35)), gc 37 44 [.t 33, .t 36], gt 6 37]
def dc_Z145 : DC := .seq (.z r_Z145_0) (.seq (.seq (.z r_Z145_1) (.cond (.t 19) (.seq (.z r_Z145_2) .ret) .skip)) (.seq (.seq (.z r_Z145_3) (.block 0 (.loop (.seq (.z r_Z145_4) (.seq (.cond (.t 23) .skip (.exit 0)) (.seq (.block 1 (.seq (.z r_Z145_5) (.seq (.z r_Z145_6) (.cond (.t 31) (.seq (.z r_Z145_7) .ret) .skip)))) (.z r_Z145_8))))))) (.seq (.z r_Z145_9) .ret)))
theorem c_Z145 : cfun Tryz.prog [] 18 = some (38, dc_Z145, [(Res.tmp 6)]) := by kernel_rfl
def r_Z26_0 : List GI := [gi 2 (.box 2 2000002 (.t 0) (some 5)), gi 3 (.box 3 2000003 (.t 1) none), gk 4 0]
def r_Z26_1 : List GI := [gs 5 2 5, gi 6 (.mkf 6 88 [.t 3]), gc 7 87 [.t 5, .t 6], gt 4 7]
def dc_Z26 : DC := .seq (.z r_Z26_0) (.seq (.z r_Z26_1) .ret)
theorem c_Z26 : cfun Tryz.prog [] 44 = some (8, dc_Z26, [(Res.tmp 4)]) := by kernel_rfl
def r_Z24_0 : List GI := [gi 3 (.box 3 2000003 (.t 0) (some 5)), gk 5 0]
def r_Z24_1 : List GI := [gs 6 3 5, gt 7 1, gl 8 2, gc 9 89 [.t 6, .t 7, .t 8], gt 5 9]
def dc_Z24 : DC := .seq (.z r_Z24_0) (.seq (.z r_Z24_1) .ret)
theorem c_Z24 : cfun Tryz.prog [] 88 = some (10, dc_Z24, [(Res.tmp 5)]) := by kernel_rfl
def r_Z59_0 : List GI := [gi 2 (.box 2 2000002 (.t 0) (some 5)), gk 4 0]
def r_Z59_1 : List GI := [gi 5 (.mov 5 (.k .nul))]
def r_Z59_2 : List GI := [gf 8 2 4, gl 9 8, gn 10 9, gk 11 0]
def r_Z59_3 : List GI := [gb 12 .lss 11 10]
def r_Z59_4 : List GI := [ga 13 9 11 5, gs 14 13 5, gi 7 (.alloc 7 2000007 [I 0, I 0, .nul, .nul, .nul]), g0 (.sto 7 (.t 14) (some 5))]
def r_Z59_5 : List GI := [gt 15 5, gs 16 7 5, gt 17 1, gc 18 87 [.t 16, .t 17], gi 19 (.bsl 19 1 none [I 0] [(0, .t 18)]), gi 20 (.app 20 2000020 (.t 15) (.t 19) 1 8), gt 5 20]
def r_Z59_6 : List GI := [gd 21 .add 11 1, gt 11 21]
def r_Z59_7 : List GI := [gt 22 1, gs 23 2 5, gt 24 5, ⟨.cal 25 (.t 22) [.t 23, .t 24], some 25, none, true⟩, gt 4 25]
def dc_Z59 : DC := .seq (.z r_Z59_0) (.seq (.z r_Z59_1) (.seq (.seq (.z r_Z59_2) (.block 0 (.loop (.seq (.z r_Z59_3) (.seq (.cond (.t 12) .skip (.exit 0)) (.seq (.block 1 (.seq (.z r_Z59_4) (.z r_Z59_5))) (.z r_Z59_6))))))) (.seq (.z r_Z59_7) .ret)))
theorem c_Z59 : cfun Tryz.prog [] 87 = some (26, dc_Z59, [(Res.tmp 4)]) := by kernel_rfl
def r_Z156_0 : List GI := [gi 3 (.box 3 2000003 (.t 0) (some 5)), gk 6 0]
def r_Z156_1 : List GI := [gs 8 3 5, gt 9 1, gc 10 35 [.t 8, .t 9], gd 11 .eql 10 0, gt 12 11, ⟨.mov 13 (.t 2), some 13, some (12, false), false⟩, ⟨.len 14 (.t 13), some 14, some (12, false), false⟩, ⟨.mov 15 (.t 1), some 15, some (12, false), false⟩, ⟨.len 16 (.t 15), some 16, some (12, false), false⟩, ⟨.bin 17 .neq (.t 14) (.t 16), some 17, some (12, false), false⟩, gi 18 (.pick 18 (.t 12) (.k (.v (.bool true))) (.t 17))]
def r_Z156_2 : List GI := [gi 6 (.mov 6 (.k (.v (.int .i64 (-1)))))]
def r_Z156_3 : List GI := [gk 7 0]
def r_Z156_4 : List GI := [gt 19 7, gt 20 2, gn 21 20, gb 22 .lss 19 21]
def r_Z156_5 : List GI := [gt 25 2, gt 26 7, ga 27 25 26 1, gl 28 27, gc 29 45 [.t 28, .k (I 0), .k (I 400)], gi 30 (.un 30 UnOp.not (.t 29))]
def r_Z156_6 : List GI := [gi 6 (.mov 6 (.k (.v (.int .i64 (-1)))))]
def r_Z156_7 : List GI := [gt 23 7, gd 24 .add 23 1, gt 7 24]
def r_Z156_8 : List GI := [gs 31 3 5, gt 32 2, gc 33 46 [.t 31, .t 32], gt 6 33]
def dc_Z156 : DC := .seq (.z r_Z156_0) (.seq (.seq (.z r_Z156_1) (.cond (.t 18) (.seq (.z r_Z156_2) .ret) .skip)) (.seq (.seq (.z r_Z156_3) (.block 0 (.loop (.seq (.seq (.z r_Z156_4) (.cond (.t 22) .skip (.exit 0))) (.seq (.block 1 (.seq (.z r_Z156_5) (.cond (.t 30) (.seq (.z r_Z156_6) .ret) .skip))) (.z r_Z156_7)))))) (.seq (.z r_Z156_8) .ret)))
theorem c_Z156 : cfun Tryz.prog [] 19 = some (34, dc_Z156, [(Res.tmp 6)]) := by kernel_rfl
end
end Go.Proofs.YtepkimfmncedcaaGreat
namespace Go.Proofs.YtepkimfmncedcaaGreat
open Go.RowKit
theorem code_fz {a : Option Addr} {len cap : Nat} {zs : List Int} {w : World} (h : IsRow .u8 w a len cap zs) : ∃ cs : List Nat, (∀ b, b ∈ cs → b < 256) ∧ Fz w (allOf w) noNames (bytesD cs) (.slice a len cap) := by
  rcases h with ⟨rfl, rfl, rfl, rfl⟩ | ⟨x, rfl, hl, hm, hz, hc, hwz⟩
  · exact ⟨[], (fun b h => by cases h), .sl0 _ 1 none 0⟩
  · by_cases h0 : len = 0
    · subst h0
      exact ⟨[], (fun b h => by cases h), .sl0 _ 1 (some x) cap⟩
    · obtain ⟨b, off, sp⟩ := x
      have hsp : sp = none := by
        have := hc 0 (by omega)
        unfold World.cell? at this
        split at this
        · cases sp with
          | none => rfl
          | some s => simp [Addr.add] at this
        · cases this
      subst hsp
      have hc' : ∀ i, i < cap → w.cell? ⟨b, off + i, none⟩ = some (.int .u8 (zs.getD i 0)) := fun i hi => by have := hc i (by omega); rwa [Addr.add_lit] at this
      have hb : b < w.heap.size := by
        have := hc' 0 (by omega)
        unfold World.cell? at this
        split at this
        · rename_i h; exact (Array.getElem?_eq_some_iff.1 h).1
        · cases this
      have hrange : ∀ i, i < cap → 0 ≤ zs.getD i 0 ∧ zs.getD i 0 < 256 := fun i hi => by
        have hm : zs.getD i 0 ∈ zs := by rw [List.getD_eq_getElem?_getD, List.getElem?_eq_getElem (by omega)]; exact List.getElem_mem _
        have := hwz _ hm
        generalize zs.getD i 0 = z at this ⊢
        simp [Lit.wf, IntKind.min, IntKind.max, IntKind.bits, IntKind.signed] at this
        omega
      refine ⟨(List.range len).map fun i => (zs.getD i 0).toNat, fun n hn => ?_, ?_⟩
      · obtain ⟨i, hi, rfl⟩ := List.mem_map.1 hn
        have := hrange i (by have := List.mem_range.1 hi; omega)
        omega
      · have hlen : (((List.range len).map fun i => (zs.getD i 0).toNat).map byteD).length = len := by simp
        have := Fz.sl (w := w) (F := allOf w) noNames 1 (((List.range len).map fun i => (zs.getD i 0).toNat).map byteD) b off cap (fun k => .int .u8 (zs.getD k 0)) (by decide) (by rw [hlen]; exact hl) (fun e he => ?_) (fun k hk => ?_) (fun k d hd => ?_)
        · rw [hlen] at this
          exact this
        · obtain ⟨n, _, rfl⟩ := List.mem_map.1 he
          rfl
        · rw [hlen] at hk
          exact ⟨hc' k (by omega), hb, rfl⟩
        · have hf : ∀ l : List Nat, D.flat (l.map byteD) = l.map byteD := by
            intro l
            induction l with
            | nil => rfl
            | cons n l ih => rw [List.map_cons, D.flat, List.flatMap_cons, ← D.flat, ih]; rfl
          rw [hf, List.getElem?_map, List.getElem?_map] at hd
          have hk : k < len := by
            cases hr : (List.range len)[k]? with
            | none => rw [hr] at hd; cases hd
            | some j => have := (List.getElem?_eq_some_iff.1 hr).1; simpa using this
          rw [List.getElem?_range hk] at hd
          obtain rfl : byteD (zs.getD k 0).toNat = d := by simpa using hd
          have := hrange k (by omega)
          unfold byteD
          rw [Int.toNat_of_nonneg this.1]
          exact .v _ _
theorem walk_of {f : FuncId} (hdo : ∀ cs : List Nat, (∀ b, b ∈ cs → b < 256) → Does Tryz.prog f [] [bytesD cs] (Bo true) []) (a : Option Addr) (len cap : Nat) (zs : List Int) (w : World) (h : IsRow .u8 w a len cap zs) :
    Calls Tryz.prog f #[.slice a len cap] w fun e W' => e = .returned (.bool true) ∧ Below w.heap.size w W' := by
  obtain ⟨cs, hcs, hfz⟩ := code_fz h
  refine calls_of (hdo cs hcs) w [.slice a len cap] rfl (fun i d x hd hx => ?_)
  rcases i with _ | i
  · obtain rfl : bytesD cs = d := by simpa using hd
    obtain rfl : Value.slice a len cap = x := by simpa using hx
    exact hfz
  · simp at hd
end Go.Proofs.YtepkimfmncedcaaGreat
