/-
  Functions of the program read as code on plain data. Closed facts of the program alone.
-/
import Derived.KernelRfl
import Derived.Test.YtibknjpbbeackaaGreatRows
import Derived.Test.YtibknjpbbeackaaGreatJSVGo
import Derived.Test.YtibknjpbbeackaaGreatJSVTbD
namespace Go.Proofs.YtibknjpbbeackaaGreat
open Go.RowKit
noncomputable section
def name_impl_value : String := match Tryz.prog.info? 145 with
  | some i => ((i.methods.toList[1]?).map (fun m => m.name)).getD default
  | none => default
def r_Z13_0 : List GI := [gi 2 (.box 2 2000002 (.t 0) none), gi 3 (.box 3 2000003 (.t 1) none), gi 4 (.mov 4 (.k .nul))]
def r_Z13_1 : List GI := [gl 8 2, gi 9 (.nilc 9 8), gf 10 9 0, gl 11 10, gi 12 (.mkf 12 117 [.t 2, .t 3]), gc 13 116 [.t 11, .t 12], gt 5 13]
def r_Z13_2 : List GI := [gl 14 2, gi 15 (.nilc 15 14), gf 16 15 0, gl 17 16, gt 18 5, gi 19 (.slc 19 (.t 17) (some (.t 18)) none 1), gt 6 19]
def r_Z13_3 : List GI := [gt 20 6, gi 21 (.mkf 21 118 [.t 2, .t 3]), gc 22 116 [.t 20, .t 21], gt 7 22]
def r_Z13_4 : List GI := [gl 23 2, gt 24 6, gt 25 7, gi 26 (.slc 26 (.t 24) (some (.t 25)) none 1), gi 27 (.nilc 27 23), gf 28 27 0, g0 (.sto 28 (.t 26) none)]
def r_Z13_5 : List GI := [gt 29 6, gt 30 7, gi 31 (.slc 31 (.t 29) none (some (.t 30)) 1), gt 4 31]
def dc_Z13 : DC := .seq (.z r_Z13_0) (.seq (.z r_Z13_1) (.seq (.z r_Z13_2) (.seq (.z r_Z13_3) (.seq (.reg r_Z13_4 (some [0, 0, 0, 6, 15, 31, 63])) (.seq (.z r_Z13_5) .ret)))))
theorem c_Z13 : cfun Tryz.prog [] 75 = some (32, dc_Z13, [(Res.tmp 4)]) := by kernel_rfl
def r_Z10_0 : List GI := [gi 4 (.mov 4 (.k (.v (.bool false))))]
def r_Z10_1 : List GI := [gl 5 1, gi 6 (.nilc 6 5), gf 7 6 1, gl 8 7, gt 9 0, gl 10 2, ⟨.cal 11 (.t 8) [.t 9, .t 10], some 11, none, true⟩, gd 12 .geq 11 0, gt 4 12]
def dc_Z10 : DC := .seq (.z r_Z10_0) (.seq (.reg r_Z10_1 (some [0, 1, 3, 7, 0, 0, 63, 127, 255])) .ret)
theorem c_Z10 : cfun Tryz.prog [] 117 = some (13, dc_Z10, [(Res.tmp 4)]) := by kernel_rfl
def r_Z11_0 : List GI := [gi 4 (.mov 4 (.k (.v (.bool false))))]
def r_Z11_1 : List GI := [gl 5 1, gi 6 (.nilc 6 5), gf 7 6 1, gl 8 7, gt 9 0, gl 10 2, ⟨.cal 11 (.t 8) [.t 9, .t 10], some 11, none, true⟩, gd 12 .gtr 11 0, gt 4 12]
def dc_Z11 : DC := .seq (.z r_Z11_0) (.seq (.reg r_Z11_1 (some [0, 1, 3, 7, 0, 0, 63, 127, 255])) .ret)
theorem c_Z11 : cfun Tryz.prog [] 118 = some (13, dc_Z11, [(Res.tmp 4)]) := by kernel_rfl
def r_Z20_0 : List GI := [gi 2 (.box 2 2000002 (.t 0) none), gi 3 (.box 3 2000003 (.t 1) none), gi 4 (.mov 4 (.k (.v .nilFunc)))]
def r_Z20_1 : List GI := [gi 5 (.mkf 5 115 [.t 2, .t 3]), gt 4 5]
def dc_Z20 : DC := .seq (.z r_Z20_0) (.seq (.z r_Z20_1) .ret)
theorem c_Z20 : cfun Tryz.prog [] 74 = some (6, dc_Z20, [(Res.tmp 4)]) := by kernel_rfl
def r_Z18_0 : List GI := [gl 5 1, gl 6 2, gi 7 (.build 7 [.nul, .v .nilFunc] [(0, (none, .t 5)), (1, (none, .t 6))]), gi 4 (.alloc 4 2000004 [.nul, .v .nilFunc]), g0 (.sto 4 (.t 7) (some 2))]
def r_Z18_1 : List GI := [gf 8 4 0, gl 9 8, gn 10 9, gd 11 .gtr 10 0]
def r_Z18_2 : List GI := [gt 12 0, gf 13 4 0, gl 14 13, gi 15 (.iad 15 14 (.k (I 0)) 1), gl 16 15, gc 17 75 [.t 4, .t 16], ⟨.cal 18 (.t 12) [.t 17], some 18, none, true⟩, gi 19 (.un 19 UnOp.not (.t 18))]
def dc_Z18 : DC := .seq (.z r_Z18_0) (.block 0 (.loop (.seq (.seq (.z r_Z18_1) (.cond (.t 11) .skip (.exit 0))) (.block 1 (.seq (.z r_Z18_2) (.cond (.t 19) .ret .skip))))))
theorem c_Z18 : cfun Tryz.prog [] 115 = some (20, dc_Z18, []) := by kernel_rfl
def r_Z16_0 : List GI := [gk 4 0]
def r_Z16_1 : List GI := [gt 8 0, gn 9 8, gk 5 0, gt 6 9]
def r_Z16_2 : List GI := [gt 10 5, gt 11 6, gb 12 .lss 10 11]
def r_Z16_3 : List GI := [gt 13 5, gt 14 6, gb 15 .add 13 14, gd 16 .quo 15 2, gt 7 16]
def r_Z16_4 : List GI := [gt 17 1, gt 18 0, gt 19 7, ga 20 18 19 1, gl 21 20, ⟨.cal 22 (.t 17) [.t 21], some 22, none, true⟩]
def r_Z16_5 : List GI := [gt 23 7, gt 6 23]
def r_Z16_6 : List GI := [gt 24 7, gd 25 .add 24 1, gt 5 25]
def r_Z16_7 : List GI := [gt 26 5, gt 4 26]
def dc_Z16 : DC := .seq (.z r_Z16_0) (.seq (.z r_Z16_1) (.seq (.block 0 (.loop (.seq (.seq (.z r_Z16_2) (.cond (.t 12) .skip (.exit 0))) (.block 1 (.seq (.z r_Z16_3) (.seq (.z r_Z16_4) (.cond (.t 22) (.z r_Z16_5) (.z r_Z16_6)))))))) (.seq (.z r_Z16_7) .ret)))
theorem c_Z16 : cfun Tryz.prog [] 116 = some (27, dc_Z16, [(Res.tmp 4)]) := by kernel_rfl
def r_Z100_0 : List GI := [gi 4 (.mov 4 (.k .nul))]
def r_Z100_1 : List GI := [gt 5 0, gc 6 94 [.t 5], gt 7 1, gc 8 173 [.t 6, .t 7], gt 4 8]
def dc_Z100 : DC := .seq (.z r_Z100_0) (.seq (.z r_Z100_1) .ret)
theorem c_Z100 : cfun Tryz.prog [] 141 = some (9, dc_Z100, [(Res.tmp 4)]) := by kernel_rfl
def r_Z14_0 : List GI := [gi 4 (.mov 4 (.k .nul))]
def r_Z14_1 : List GI := [gt 6 0, gc 7 185 [.t 6], gt 5 7]
def r_Z14_2 : List GI := [gt 8 5, gt 9 1, gc 10 58 [.t 8, .t 9]]
def r_Z14_3 : List GI := [gt 11 5, gt 4 11]
def dc_Z14 : DC := .seq (.z r_Z14_0) (.seq (.z r_Z14_1) (.seq (.z r_Z14_2) (.seq (.z r_Z14_3) .ret)))
theorem c_Z14 : cfun Tryz.prog [] 173 = some (12, dc_Z14, [(Res.tmp 4)]) := by kernel_rfl
def r_Z76_0 : List GI := [gi 2 (.mov 2 (.k .nul))]
def r_Z76_1 : List GI := [gt 3 0, gc 4 87 [.t 3], gc 5 86 [.t 4], gt 2 5]
def dc_Z76 : DC := .seq (.z r_Z76_0) (.seq (.z r_Z76_1) .ret)
theorem c_Z76 : cfun Tryz.prog [] 56 = some (6, dc_Z76, [(Res.tmp 2)]) := by kernel_rfl
def r_Z114_0 : List GI := [gi 2 (.mov 2 (.k .nul))]
def r_Z114_1 : List GI := [gi 3 (.alloc 3 2000003 [.nul])]
def r_Z114_2 : List GI := [gt 5 0]
def r_Z114_3 : List GI := [gt 4 6]
def r_Z114_4 : List GI := [gl 7 3, gt 8 4, gi 9 (.bsl 9 1 none [.nul] [(0, .t 8)]), gi 10 (.app 10 2000010 (.t 7) (.t 9) 1 24), g0 (.sto 3 (.t 10) none)]
def r_Z114_5 : List GI := [gl 11 3, gn 12 11, gd 13 .gtr 12 400]
def r_Z114_6 : List GI := [gl 14 3, gt 2 14]
def dc_Z114 : DC := .seq (.z r_Z114_0) (.seq (.z r_Z114_1) (.seq (.seq (.z r_Z114_2) (.block 0 (.rng (.t 5) [6] (.z r_Z114_3) (.block 1 (.seq (.z r_Z114_4) (.seq (.z r_Z114_5) (.cond (.t 13) (.exit 0) .skip))))))) (.seq (.z r_Z114_6) .ret)))
theorem c_Z114 : cfun Tryz.prog [] 87 = some (15, dc_Z114, [(Res.tmp 2)]) := by kernel_rfl
def r_Z99_0 : List GI := [gi 2 (.mov 2 (.k .nul))]
def r_Z99_1 : List GI := [gt 3 0, gn 4 3, gd 5 .gtr 4 400]
def r_Z99_2 : List GI := [gi 2 (.mov 2 (.k .nul))]
def r_Z99_3 : List GI := [gt 6 0, gt 2 6]
def dc_Z99 : DC := .seq (.z r_Z99_0) (.seq (.seq (.z r_Z99_1) (.cond (.t 5) (.seq (.z r_Z99_2) .ret) .skip)) (.seq (.z r_Z99_3) .ret))
theorem c_Z99 : cfun Tryz.prog [] 86 = some (7, dc_Z99, [(Res.tmp 2)]) := by kernel_rfl
def r_Z112_0 : List GI := [gi 2 (.box 2 2000002 (.t 0) (some 5)), gi 4 (.mov 4 (.k (.v (.bool false))))]
def r_Z112_1 : List GI := [gt 5 1, gc 6 71 [.t 5], gt 7 6, ⟨.lod 8 2 (some 5), some 8, some (7, true), false⟩, ⟨.mov 9 (.t 1), some 9, some (7, true), false⟩, ⟨.call 10 165 [.t 8, .t 9, .k (I 8)], some 10, some (7, true), true⟩, gi 11 (.pick 11 (.t 7) (.t 10) (.k (.v (.bool false)))), gt 4 11]
def dc_Z112 : DC := .seq (.z r_Z112_0) (.seq (.z r_Z112_1) .ret)
theorem c_Z112 : cfun Tryz.prog [] 122 = some (12, dc_Z112, [(Res.tmp 4)]) := by kernel_rfl
def r_Z132_0 : List GI := [gk 2 0]
def r_Z132_1 : List GI := [gt 4 0, gd 5 .eql 4 1, gt 6 5, ⟨.mov 7 (.t 0), some 7, some (6, false), false⟩, ⟨.bin 8 .eql (.t 7) (.k (I 2)), some 8, some (6, false), false⟩, gi 9 (.pick 9 (.t 6) (.k (.v (.bool true))) (.t 8)), gt 3 9]
def r_Z132_2 : List GI := [gk 2 0]
def r_Z132_3 : List GI := [gt 11 0, gd 12 .eql 11 10, gt 13 12, ⟨.mov 14 (.t 0), some 14, some (13, false), false⟩, ⟨.bin 15 .eql (.t 14) (.k (I 11)), some 15, some (13, false), false⟩, gi 16 (.pick 16 (.t 13) (.k (.v (.bool true))) (.t 15)), gt 10 16]
def r_Z132_4 : List GI := [gk 2 1]
def r_Z132_5 : List GI := [gt 18 0, gi 19 (.bin 19 .leq (.k (I 3)) (.t 18)), gt 20 19, ⟨.mov 21 (.t 0), some 21, some (20, true), false⟩, ⟨.bin 22 .leq (.t 21) (.k (I 9)), some 22, some (20, true), false⟩, gi 23 (.pick 23 (.t 20) (.t 22) (.k (.v (.bool false)))), gt 17 23]
def r_Z132_6 : List GI := [gk 2 2]
def r_Z132_7 : List GI := [gi 2 (.mov 2 (.k (.v (.int .i64 (-1)))))]
def dc_Z132 : DC := .seq (.z r_Z132_0) (.seq (.block 0 (.seq (.z r_Z132_1) (.cond (.t 3) (.seq (.z r_Z132_2) .ret) (.seq (.z r_Z132_3) (.cond (.t 10) (.seq (.z r_Z132_4) .ret) (.seq (.z r_Z132_5) (.cond (.t 17) (.seq (.z r_Z132_6) .ret) .skip))))))) (.seq (.z r_Z132_7) .ret))
theorem c_Z132 : cfun Tryz.prog [] 181 = some (24, dc_Z132, [(Res.tmp 2)]) := by kernel_rfl
def r_Z85_0 : List GI := [gi 3 (.box 3 2000003 (.t 0) (some 5)), gi 6 (.mov 6 (.k (.v (.bool false))))]
def r_Z85_1 : List GI := [gt 9 2, gd 10 .lss 9 0, gt 11 10, ⟨.fad 12 3 4, some 12, some (11, false), false⟩, ⟨.lod 13 12 none, some 13, some (11, false), false⟩, ⟨.len 14 (.t 13), some 14, some (11, false), false⟩, ⟨.fad 15 3 0, some 15, some (11, false), false⟩, ⟨.lod 16 15 none, some 16, some (11, false), false⟩, ⟨.call 17 181 [.t 16], some 17, some (11, false), true⟩, ⟨.bin 18 .neq (.t 14) (.t 17), some 18, some (11, false), false⟩, gi 19 (.pick 19 (.t 11) (.k (.v (.bool true))) (.t 18))]
def r_Z85_2 : List GI := [gi 6 (.mov 6 (.k (.v (.bool false))))]
def r_Z85_3 : List GI := [gf 20 3 0, gl 21 20]
def r_Z85_4 : List GI := [gd 23 .eql 21 1, gt 22 23]
def r_Z85_5 : List GI := [gf 24 3 1, gl 25 24, gt 26 1, gc 27 182 [.t 25, .t 26], gt 28 27, ⟨.fad 29 3 2, some 29, some (28, true), false⟩, ⟨.lod 30 29 (some 2), some 30, some (28, true), false⟩, ⟨.build 31 [.v (.bool false), I 0] [], some 31, some (28, true), false⟩, ⟨.eqs 32 false [false, true] (.t 30) (.t 31), some 32, some (28, true), false⟩, gi 33 (.pick 33 (.t 28) (.t 32) (.k (.v (.bool false)))), gt 6 33]
def r_Z85_6 : List GI := [gd 35 .eql 21 2, gt 34 35]
def r_Z85_7 : List GI := [gf 36 3 1, gl 37 36, gd 38 .eql 37 0, gt 39 38, ⟨.fad 40 3 2, some 40, some (39, true), false⟩, ⟨.lod 41 40 (some 2), some 41, some (39, true), false⟩, ⟨.call 42 163 [.t 41], some 42, some (39, true), true⟩, gi 43 (.pick 43 (.t 39) (.t 42) (.k (.v (.bool false)))), gt 6 43]
def r_Z85_8 : List GI := [gf 44 3 1, gl 45 44, gd 46 .neq 45 0, gt 47 46, ⟨.fad 48 3 2, some 48, some (47, false), false⟩, ⟨.lod 49 48 (some 2), some 49, some (47, false), false⟩, ⟨.build 50 [.v (.bool false), I 0] [], some 50, some (47, false), false⟩, ⟨.eqs 51 true [false, true] (.t 49) (.t 50), some 51, some (47, false), false⟩, gi 52 (.pick 52 (.t 47) (.k (.v (.bool true))) (.t 51))]
def r_Z85_9 : List GI := [gi 6 (.mov 6 (.k (.v (.bool false))))]
def r_Z85_10 : List GI := [gf 53 3 4, gl 54 53, gn 55 54, gk 56 0]
def r_Z85_11 : List GI := [gb 57 .lss 56 55]
def r_Z85_12 : List GI := [ga 58 54 56 5, gs 59 58 5, gi 8 (.alloc 8 2000008 [I 0, I 0, .v (.bool false), I 0, .nul]), g0 (.sto 8 (.t 59) (some 5))]
def r_Z85_13 : List GI := [gs 60 8 5, gt 61 1, gt 62 2, gd 63 .sub 62 1, gc 64 165 [.t 60, .t 61, .t 63], gi 65 (.un 65 UnOp.not (.t 64))]
def r_Z85_14 : List GI := [gi 6 (.mov 6 (.k (.v (.bool false))))]
def r_Z85_15 : List GI := [gd 66 .add 56 1, gt 56 66]
def r_Z85_16 : List GI := [gi 6 (.mov 6 (.k (.v (.bool true))))]
def dc_Z85 : DC := .seq (.z r_Z85_0) (.seq (.seq (.reg r_Z85_1 (some [0, 1, 3, 7, 15, 31, 7, 71, 199, 511, 1023])) (.cond (.t 19) (.seq (.z r_Z85_2) .ret) .skip)) (.seq (.seq (.z r_Z85_3) (.block 0 (.seq (.z r_Z85_4) (.cond (.t 22) (.seq (.z r_Z85_5) .ret) (.seq (.z r_Z85_6) (.cond (.t 34) (.seq (.z r_Z85_7) .ret) .skip)))))) (.seq (.seq (.z r_Z85_8) (.cond (.t 52) (.seq (.z r_Z85_9) .ret) .skip)) (.seq (.seq (.z r_Z85_10) (.block 1 (.loop (.seq (.z r_Z85_11) (.seq (.cond (.t 57) .skip (.exit 1)) (.seq (.block 2 (.seq (.z r_Z85_12) (.seq (.z r_Z85_13) (.cond (.t 65) (.seq (.z r_Z85_14) .ret) .skip)))) (.z r_Z85_15))))))) (.seq (.z r_Z85_16) .ret)))))
theorem c_Z85 : cfun Tryz.prog [] 165 = some (67, dc_Z85, [(Res.tmp 6)]) := by kernel_rfl
def r_Z74_0 : List GI := [gi 1 (.box 1 2000001 (.t 0) (some 2)), gk 2 0]
def r_Z74_1 : List GI := [gf 4 1 0, gl 5 4, gt 3 5]
def r_Z74_2 : List GI := [gk 2 1]
def r_Z74_3 : List GI := [gf 7 1 1, gl 8 7, gd 9 .eql 8 0, gt 6 9]
def r_Z74_4 : List GI := [gk 2 0]
def r_Z74_5 : List GI := [gk 2 2]
def dc_Z74 : DC := .seq (.z r_Z74_0) (.seq (.block 0 (.seq (.z r_Z74_1) (.cond (.t 3) (.seq (.z r_Z74_2) .ret) (.seq (.z r_Z74_3) (.cond (.t 6) (.seq (.z r_Z74_4) .ret) .skip))))) (.seq (.z r_Z74_5) .ret))
theorem c_Z74 : cfun Tryz.prog [] 130 = some (10, dc_Z74, [(Res.tmp 2)]) := by kernel_rfl
def r_Z48_0 : List GI := [gi 2 (.box 2 2000002 (.t 0) (some 2)), gi 4 (.alloc 4 2000004 [.v (.bool false), I 0])]
def r_Z48_1 : List GI := [gf 8 2 0, gs 9 8 2, gt 10 1, gc 11 227 [.t 9, .t 10], gt 7 11, gi 12 (.ext 12 7 0), gi 13 (.ext 13 7 1), gt 5 12, gt 6 13]
def r_Z48_2 : List GI := [gt 14 5, gt 15 6, gi 16 (.mm 16 false (.t 14) (.t 15)), gc 17 206 [.t 16], g0 (.sto 4 (.t 17) (some 2))]
def dc_Z48 : DC := .seq (.z r_Z48_0) (.seq (.z r_Z48_1) (.seq (.z r_Z48_2) .ret))
theorem c_Z48 : cfun Tryz.prog [] 226 = some (18, dc_Z48, [(Res.cell 4 (some 2))]) := by kernel_rfl
def r_Z30_0 : List GI := [gi 2 (.box 2 2000002 (.t 0) (some 1)), gi 4 (.alloc 4 2000004 [.v (.bool false), I 0])]
def r_Z30_1 : List GI := [gt 5 1, gf 6 2 0, gl 7 6, ga 8 5 7 2, gs 9 8 2, g0 (.sto 4 (.t 9) (some 2))]
def dc_Z30 : DC := .seq (.z r_Z30_0) (.seq (.z r_Z30_1) .ret)
theorem c_Z30 : cfun Tryz.prog [] 207 = some (10, dc_Z30, [(Res.cell 4 (some 2))]) := by kernel_rfl
def r_Z26_0 : List GI := [gi 2 (.box 2 2000002 (.t 0) (some 2)), gi 4 (.alloc 4 2000004 [.v (.bool false), I 0])]
def r_Z26_1 : List GI := [gf 5 2 0, gs 6 5 2, g0 (.sto 4 (.t 6) (some 2))]
def dc_Z26 : DC := .seq (.z r_Z26_0) (.seq (.z r_Z26_1) .ret)
theorem c_Z26 : cfun Tryz.prog [] 208 = some (7, dc_Z26, [(Res.cell 4 (some 2))]) := by kernel_rfl
def r_Z24_0 : List GI := [gi 2 (.box 2 2000002 (.t 0) (some 2)), gi 4 (.alloc 4 2000004 [.v (.bool false), I 0])]
def r_Z24_1 : List GI := [gf 5 2 0, gs 6 5 2, gt 7 1, ⟨.call 8 214 [.t 6, .t 7, .k (.fn 218 [])], some 8, none, true⟩, g0 (.sto 4 (.t 8) (some 2))]
def dc_Z24 : DC := .seq (.z r_Z24_0) (.seq (.z r_Z24_1) .ret)
theorem c_Z24 : cfun Tryz.prog [] 217 = some (9, dc_Z24, [(Res.cell 4 (some 2))]) := by kernel_rfl
def r_Z22_0 : List GI := [gk 4 0]
def r_Z22_1 : List GI := [gt 5 0, gt 6 1, gb 7 .sub 5 6, gt 4 7]
def dc_Z22 : DC := .seq (.z r_Z22_0) (.seq (.z r_Z22_1) .ret)
theorem c_Z22 : cfun Tryz.prog [] 218 = some (8, dc_Z22, [(Res.tmp 4)]) := by kernel_rfl
def r_Z33_0 : List GI := [gi 2 (.box 2 2000002 (.t 0) (some 2)), gi 4 (.alloc 4 2000004 [.v (.bool false), I 0])]
def r_Z33_1 : List GI := [gf 5 2 0, gs 6 5 2, gt 7 1, ⟨.call 8 222 [.t 6, .t 7, .k (.fn 223 [])], some 8, none, true⟩, g0 (.sto 4 (.t 8) (some 2))]
def dc_Z33 : DC := .seq (.z r_Z33_0) (.seq (.z r_Z33_1) .ret)
theorem c_Z33 : cfun Tryz.prog [] 221 = some (9, dc_Z33, [(Res.cell 4 (some 2))]) := by kernel_rfl
def r_Z27_0 : List GI := [gi 4 (.mov 4 (.k (.v (.bool false))))]
def r_Z27_1 : List GI := [gt 5 0, gt 6 1, gb 7 .eql 5 6, gt 4 7]
def dc_Z27 : DC := .seq (.z r_Z27_0) (.seq (.z r_Z27_1) .ret)
theorem c_Z27 : cfun Tryz.prog [] 223 = some (8, dc_Z27, [(Res.tmp 4)]) := by kernel_rfl
def r_Z43_0 : List GI := [gi 2 (.box 2 2000002 (.t 0) (some 2)), gi 4 (.alloc 4 2000004 [.v (.bool false), I 0])]
def r_Z43_1 : List GI := [gf 5 2 0, gs 6 5 2, gt 7 1, ⟨.call 8 222 [.t 6, .t 7, .k (.fn 225 [])], some 8, none, true⟩, g0 (.sto 4 (.t 8) (some 2))]
def dc_Z43 : DC := .seq (.z r_Z43_0) (.seq (.z r_Z43_1) .ret)
theorem c_Z43 : cfun Tryz.prog [] 224 = some (9, dc_Z43, [(Res.cell 4 (some 2))]) := by kernel_rfl
def r_Z31_0 : List GI := [gi 4 (.mov 4 (.k (.v (.bool false))))]
def r_Z31_1 : List GI := [gt 5 0, gt 6 1, gb 7 .lss 5 6, gt 4 7]
def dc_Z31 : DC := .seq (.z r_Z31_0) (.seq (.z r_Z31_1) .ret)
theorem c_Z31 : cfun Tryz.prog [] 225 = some (8, dc_Z31, [(Res.tmp 4)]) := by kernel_rfl
def r_Z52_0 : List GI := [gi 2 (.box 2 2000002 (.t 0) (some 1)), gi 4 (.alloc 4 2000004 [.v (.bool false), I 0])]
def r_Z52_1 : List GI := [gf 5 2 0, gl 6 5, gt 7 1, ⟨.inv 8 (.t 6) name_impl_value [.t 7], some 8, none, true⟩, gc 9 130 [.t 8], gc 10 205 [.t 9], gc 11 206 [.t 10], g0 (.sto 4 (.t 11) (some 2))]
def dc_Z52 : DC := .seq (.z r_Z52_0) (.seq (.z r_Z52_1) .ret)
theorem c_Z52 : cfun Tryz.prog [] 209 = some (12, dc_Z52, [(Res.cell 4 (some 2))]) := by kernel_rfl
def r_Z44_0 : List GI := [gi 2 (.box 2 2000002 (.t 0) (some 1)), gi 4 (.alloc 4 2000004 [.v (.bool false), I 0])]
def r_Z44_1 : List GI := [gf 5 2 0, gl 6 5, gt 7 1, ⟨.inv 8 (.t 6) name_impl_value [.t 7], some 8, none, true⟩, gi 9 (.fld 9 (.t 8) 0 none), gc 10 211 [.t 9], gc 11 206 [.t 10], g0 (.sto 4 (.t 11) (some 2))]
def dc_Z44 : DC := .seq (.z r_Z44_0) (.seq (.z r_Z44_1) .ret)
theorem c_Z44 : cfun Tryz.prog [] 210 = some (12, dc_Z44, [(Res.cell 4 (some 2))]) := by kernel_rfl
def r_Z64_0 : List GI := [gi 2 (.box 2 2000002 (.t 0) (some 2)), gi 4 (.alloc 4 2000004 [.v (.bool false), I 0])]
def r_Z64_1 : List GI := [gf 8 2 0, gs 9 8 2, gt 10 1, gc 11 227 [.t 9, .t 10], gt 7 11, gi 12 (.ext 12 7 0), gi 13 (.ext 13 7 1), gt 5 12, gt 6 13]
def r_Z64_2 : List GI := [gt 14 5, gt 15 6, gi 16 (.mm 16 true (.t 14) (.t 15)), gc 17 206 [.t 16], g0 (.sto 4 (.t 17) (some 2))]
def dc_Z64 : DC := .seq (.z r_Z64_0) (.seq (.z r_Z64_1) (.seq (.z r_Z64_2) .ret))
theorem c_Z64 : cfun Tryz.prog [] 228 = some (18, dc_Z64, [(Res.cell 4 (some 2))]) := by kernel_rfl
def r_Z133_0 : List GI := [gi 3 (.box 3 2000003 (.t 1) (some 2)), gi 4 (.mov 4 (.k (.v .nilIface)))]
def r_Z133_1 : List GI := [gt 5 0]
def r_Z133_2 : List GI := [gd 7 .eql 5 3, gt 6 7]
def r_Z133_3 : List GI := [gs 8 3 2, gi 9 (.build 9 [.v .nilIface, .v .nilIface] [(0, (some 2, .t 8))]), gi 10 (.ifc 10 186 (.t 9)), gt 4 10]
def r_Z133_4 : List GI := [gd 12 .eql 5 4, gt 11 12]
def r_Z133_5 : List GI := [gs 13 3 2, gi 14 (.build 14 [.v .nilIface, .v .nilIface] [(0, (some 2, .t 13))]), gi 15 (.ifc 15 187 (.t 14)), gt 4 15]
def r_Z133_6 : List GI := [gd 17 .eql 5 5, gt 16 17]
def r_Z133_7 : List GI := [gs 18 3 2, gi 19 (.build 19 [.v .nilIface, .v .nilIface] [(0, (some 2, .t 18))]), gi 20 (.ifc 20 188 (.t 19)), gt 4 20]
def r_Z133_8 : List GI := [gd 22 .eql 5 6, gt 21 22]
def r_Z133_9 : List GI := [gs 23 3 2, gi 24 (.build 24 [.v .nilIface, .v .nilIface] [(0, (some 2, .t 23))]), gi 25 (.ifc 25 189 (.t 24)), gt 4 25]
def r_Z133_10 : List GI := [gd 27 .eql 5 7, gt 26 27]
def r_Z133_11 : List GI := [gs 28 3 2, gi 29 (.build 29 [.v .nilIface, .v .nilIface] [(0, (some 2, .t 28))]), gi 30 (.ifc 30 190 (.t 29)), gt 4 30]
def r_Z133_12 : List GI := [gd 32 .eql 5 8, gt 31 32]
def r_Z133_13 : List GI := [gs 33 3 2, gi 34 (.build 34 [.v .nilIface, .v .nilIface] [(0, (some 2, .t 33))]), gi 35 (.ifc 35 191 (.t 34)), gt 4 35]
def r_Z133_14 : List GI := [gs 36 3 2, gi 37 (.build 37 [.v .nilIface, .v .nilIface] [(0, (some 2, .t 36))]), gi 38 (.ifc 38 192 (.t 37)), gt 4 38]
def dc_Z133 : DC := .seq (.z r_Z133_0) (.seq (.seq (.z r_Z133_1) (.block 0 (.seq (.z r_Z133_2) (.cond (.t 6) (.seq (.z r_Z133_3) .ret) (.seq (.z r_Z133_4) (.cond (.t 11) (.seq (.z r_Z133_5) .ret) (.seq (.z r_Z133_6) (.cond (.t 16) (.seq (.z r_Z133_7) .ret) (.seq (.z r_Z133_8) (.cond (.t 21) (.seq (.z r_Z133_9) .ret) (.seq (.z r_Z133_10) (.cond (.t 26) (.seq (.z r_Z133_11) .ret) (.seq (.z r_Z133_12) (.cond (.t 31) (.seq (.z r_Z133_13) .ret) .skip)))))))))))))) (.seq (.z r_Z133_14) .ret))
theorem c_Z133 : cfun Tryz.prog [] 131 = some (39, dc_Z133, [(Res.tmp 4)]) := by kernel_rfl
def r_Z35_0 : List GI := [gi 3 (.box 3 2000003 (.t 0) (some 2)), gi 6 (.alloc 6 2000006 [.v (.bool false), I 0])]
def r_Z35_1 : List GI := [gs 11 3 2, gt 12 1, gc 13 212 [.t 11, .t 12], gt 10 13, gi 14 (.ext 14 10 0), gi 15 (.ext 15 10 1), gi 16 (.ext 16 10 2), gt 7 14, gt 8 15, gt 9 16]
def r_Z35_2 : List GI := [gt 17 9]
def r_Z35_3 : List GI := [gt 18 2, gt 19 7, gt 20 8, ⟨.cal 21 (.t 18) [.t 19, .t 20], some 21, none, true⟩, gc 22 216 [.t 21], g0 (.sto 6 (.t 22) (some 2))]
def r_Z35_4 : List GI := [gi 23 (.build 23 [.v (.bool false), I 0] [(0, (none, .k (.v (.bool true))))]), g0 (.sto 6 (.t 23) (some 2))]
def dc_Z35 : DC := .seq (.z r_Z35_0) (.seq (.seq (.z r_Z35_1) (.seq (.z r_Z35_2) (.cond (.t 17) (.seq (.z r_Z35_3) .ret) .skip))) (.seq (.z r_Z35_4) .ret))
theorem c_Z35 : cfun Tryz.prog [] 214 = some (24, dc_Z35, [(Res.cell 6 (some 2))]) := by kernel_rfl
def r_Z36_0 : List GI := [gi 3 (.box 3 2000003 (.t 0) (some 2)), gi 6 (.alloc 6 2000006 [.v (.bool false), I 0])]
def r_Z36_1 : List GI := [gs 11 3 2, gt 12 1, gc 13 212 [.t 11, .t 12], gt 10 13, gi 14 (.ext 14 10 0), gi 15 (.ext 15 10 1), gi 16 (.ext 16 10 2), gt 7 14, gt 8 15, gt 9 16]
def r_Z36_2 : List GI := [gt 17 9]
def r_Z36_3 : List GI := [gt 18 2, gt 19 7, gt 20 8, ⟨.cal 21 (.t 18) [.t 19, .t 20], some 21, none, true⟩, gc 22 211 [.t 21], gc 23 206 [.t 22], g0 (.sto 6 (.t 23) (some 2))]
def r_Z36_4 : List GI := [gi 24 (.build 24 [.v (.bool false), I 0] [(0, (none, .k (.v (.bool true))))]), g0 (.sto 6 (.t 24) (some 2))]
def dc_Z36 : DC := .seq (.z r_Z36_0) (.seq (.seq (.z r_Z36_1) (.seq (.z r_Z36_2) (.cond (.t 17) (.seq (.z r_Z36_3) .ret) .skip))) (.seq (.z r_Z36_4) .ret))
theorem c_Z36 : cfun Tryz.prog [] 222 = some (25, dc_Z36, [(Res.cell 6 (some 2))]) := by kernel_rfl
def r_Z65_0 : List GI := [gi 2 (.box 2 2000002 (.t 0) (some 2)), gk 4 0, gk 5 0, gi 6 (.mov 6 (.k (.v (.bool false))))]
def r_Z65_1 : List GI := [gf 9 2 0, gl 10 9, gt 11 1, ⟨.inv 12 (.t 10) name_impl_value [.t 11], some 12, none, true⟩, gf 13 2 1, gl 14 13, gt 15 1, ⟨.inv 16 (.t 14) name_impl_value [.t 15], some 16, none, true⟩, gi 7 (.alloc 7 2000007 [.v (.bool false), I 0]), gi 8 (.alloc 8 2000008 [.v (.bool false), I 0]), g0 (.sto 7 (.t 12) (some 2)), g0 (.sto 8 (.t 16) (some 2))]
def r_Z65_2 : List GI := [gf 17 7 1, gl 18 17, gf 19 8 1, gl 20 19, gf 21 7 0, gl 22 21, gi 23 (.un 23 UnOp.not (.t 22)), gt 24 23, ⟨.fad 25 8 0, some 25, some (24, true), false⟩, ⟨.lod 26 25 none, some 26, some (24, true), false⟩, ⟨.un 27 UnOp.not (.t 26), some 27, some (24, true), false⟩, gi 28 (.pick 28 (.t 24) (.t 27) (.k (.v (.bool false)))), gt 4 18, gt 5 20, gt 6 28]
def dc_Z65 : DC := .seq (.z r_Z65_0) (.seq (.reg r_Z65_1 (some [0, 1, 0, 7, 0, 16, 0, 127, 0, 0, 1023, 2047])) (.seq (.reg r_Z65_2 (some [0, 1, 0, 4, 0, 16, 48, 112, 240, 496, 1008, 2032, 243, 4351, 16383])) .ret))
theorem c_Z65 : cfun Tryz.prog [] 212 = some (29, dc_Z65, [(Res.tmp 4), (Res.tmp 5), (Res.tmp 6)]) := by kernel_rfl
end
end Go.Proofs.YtibknjpbbeackaaGreat
