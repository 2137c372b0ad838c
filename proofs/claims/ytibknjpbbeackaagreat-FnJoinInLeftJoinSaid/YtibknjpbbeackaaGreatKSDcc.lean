/-
  Functions of the program read as code on plain data. Closed facts of the program alone.
-/
import Derived.KernelRfl
import Derived.Test.YtibknjpbbeackaaGreatRows
import Derived.Test.YtibknjpbbeackaaGreatJSVGo
import Derived.Test.YtibknjpbbeackaaGreatJSVTbD
namespace Go.Proofs.YtibknjpbbeackaaGreat
open Go.RowKit
noncomputable section
def r_Z104_0 : List GI := [gi 4 (.box 4 2000004 (.t 0) (some 2)), gi 5 (.box 5 2000005 (.t 1) (some 2)), gi 6 (.box 6 2000006 (.t 2) (some 5)), gi 8 (.alloc 8 2000008 [I 0, .nul])]
def r_Z104_1 : List GI := [gi 14 (.mov 14 (.k .nul)), gt 9 14]
def r_Z104_2 : List GI := [gk 10 0]
def r_Z104_3 : List GI := [gt 15 10, gf 16 4 1, gl 17 16, gn 18 17, gb 19 .lss 15 18]
def r_Z104_4 : List GI := [gi 11 (.mov 11 (.k (.v (.bool false))))]
def r_Z104_5 : List GI := [gk 12 0]
def r_Z104_6 : List GI := [gt 22 12, gf 23 5 1, gl 24 23, gn 25 24, gb 26 .lss 22 25]
def r_Z104_7 : List GI := [gf 29 4 1, gl 30 29, gt 31 10, ga 32 30 31 1, gl 33 32, gf 34 5 1, gl 35 34, gt 36 12, ga 37 35 36 1, gl 38 37, gc 39 111 [.t 33, .t 38], gt 13 39]
def r_Z104_8 : List GI := [gs 40 6 5, gt 41 13, gc 42 109 [.t 40, .t 41]]
def r_Z104_9 : List GI := [gi 11 (.mov 11 (.k (.v (.bool true))))]
def r_Z104_10 : List GI := [gt 43 9, gt 44 13, gi 45 (.bsl 45 1 none [.nul] [(0, .t 44)]), gi 46 (.app 46 2000046 (.t 43) (.t 45) 1 24), gt 9 46]
def r_Z104_11 : List GI := [gt 27 12, gd 28 .add 27 1, gt 12 28]
def r_Z104_12 : List GI := [gt 47 3, gt 48 47, ⟨.mov 49 (.t 11), some 49, some (48, true), false⟩, ⟨.un 50 UnOp.not (.t 49), some 50, some (48, true), false⟩, gi 51 (.pick 51 (.t 48) (.t 50) (.k (.v (.bool false))))]
def r_Z104_13 : List GI := [gt 52 9, gf 53 4 1, gl 54 53, gt 55 10, ga 56 54 55 1, gl 57 56, gf 58 5 0, gl 59 58, gc 60 112 [.t 59], gc 61 111 [.t 57, .t 60], gi 62 (.bsl 62 1 none [.nul] [(0, .t 61)]), gi 63 (.app 63 2000063 (.t 52) (.t 62) 1 24), gt 9 63]
def r_Z104_14 : List GI := [gt 20 10, gd 21 .add 20 1, gt 10 21]
def r_Z104_15 : List GI := [gf 64 4 0, gl 65 64, gf 66 5 0, gl 67 66, gb 68 .add 65 67, gt 69 9, gc 70 63 [.t 68, .t 69], g0 (.sto 8 (.t 70) (some 2))]
def dc_Z104 : DC := .seq (.z r_Z104_0) (.seq (.z r_Z104_1) (.seq (.seq (.z r_Z104_2) (.block 0 (.loop (.seq (.seq (.z r_Z104_3) (.cond (.t 19) .skip (.exit 0))) (.seq (.block 1 (.seq (.z r_Z104_4) (.seq (.seq (.z r_Z104_5) (.block 2 (.loop (.seq (.seq (.z r_Z104_6) (.cond (.t 26) .skip (.exit 2))) (.seq (.block 3 (.seq (.reg r_Z104_7 (some [0, 1, 0, 7, 15, 0, 32, 0, 224, 480, 1023, 2047])) (.seq (.z r_Z104_8) (.cond (.t 42) (.seq (.z r_Z104_9) (.z r_Z104_10)) .skip)))) (.z r_Z104_11)))))) (.seq (.z r_Z104_12) (.cond (.t 51) (.reg r_Z104_13 (some [0, 0, 2, 0, 14, 30, 0, 64, 192, 510, 1022, 2047, 4095])) .skip))))) (.z r_Z104_14)))))) (.seq (.z r_Z104_15) .ret)))
theorem c_Z104 : cfun Tryz.prog [] 66 = some (71, dc_Z104, [(Res.cell 8 (some 2))]) := by kernel_rfl
def r_Z68_0 : List GI := [gi 1 (.box 1 2000001 (.t 0) (some 2)), gi 2 (.alloc 2 2000002 [I 0, .nul])]
def r_Z68_1 : List GI := [gf 5 1 0, gl 6 5, gi 7 (.build 7 [I 0, .nul] [(0, (none, .t 6))]), gi 3 (.alloc 3 2000003 [I 0, .nul]), g0 (.sto 3 (.t 7) (some 2))]
def r_Z68_2 : List GI := [gk 4 0]
def r_Z68_3 : List GI := [gt 8 4, gf 9 1 1, gl 10 9, gn 11 10, gb 12 .lss 8 11]
def r_Z68_4 : List GI := [gt 15 4, gd 16 .eql 15 0, gt 17 16, ⟨.fad 18 1 1, some 18, some (17, false), false⟩, ⟨.lod 19 18 none, some 19, some (17, false), false⟩, ⟨.mov 20 (.t 4), some 20, some (17, false), false⟩, ⟨.bin 21 .sub (.t 20) (.k (I 1)), some 21, some (17, false), false⟩, ⟨.iad 22 19 (.t 21) 1, some 22, some (17, false), false⟩, ⟨.lod 23 22 none, some 23, some (17, false), false⟩, ⟨.fad 24 1 1, some 24, some (17, false), false⟩, ⟨.lod 25 24 none, some 25, some (17, false), false⟩, ⟨.mov 26 (.t 4), some 26, some (17, false), false⟩, ⟨.iad 27 25 (.t 26) 1, some 27, some (17, false), false⟩, ⟨.lod 28 27 none, some 28, some (17, false), false⟩, ⟨.call 29 107 [.t 23, .t 28], some 29, some (17, false), true⟩, ⟨.bin 30 .neq (.t 29) (.k (I 0)), some 30, some (17, false), false⟩, gi 31 (.pick 31 (.t 17) (.k (.v (.bool true))) (.t 30))]
def r_Z68_5 : List GI := [gf 32 3 1, gl 33 32, gf 34 1 1, gl 35 34, gt 36 4, ga 37 35 36 1, gl 38 37, gc 39 83 [.t 38], gi 40 (.bsl 40 1 none [.nul] [(0, .t 39)]), gi 41 (.app 41 2000041 (.t 33) (.t 40) 1 24), gf 42 3 1, g0 (.sto 42 (.t 41) none)]
def r_Z68_6 : List GI := [gt 13 4, gd 14 .add 13 1, gt 4 14]
def r_Z68_7 : List GI := [gs 43 3 2, g0 (.sto 2 (.t 43) (some 2))]
def dc_Z68 : DC := .seq (.z r_Z68_0) (.seq (.z r_Z68_1) (.seq (.seq (.z r_Z68_2) (.block 0 (.loop (.seq (.seq (.z r_Z68_3) (.cond (.t 12) .skip (.exit 0))) (.seq (.block 1 (.seq (.reg r_Z68_4 (some [0, 1, 3, 7, 15, 7, 39, 127, 255, 7, 519, 7, 3591, 7687, 16383, 32767, 65535])) (.cond (.t 31) (.reg r_Z68_5 (some [0, 1, 0, 4, 0, 28, 60, 124, 252, 511, 1023, 2047])) .skip))) (.z r_Z68_6)))))) (.seq (.z r_Z68_7) .ret)))
theorem c_Z68 : cfun Tryz.prog [] 68 = some (44, dc_Z68, [(Res.cell 2 (some 2))]) := by kernel_rfl
def r_Z149_0 : List GI := [gi 2 (.box 2 2000002 (.t 0) (some 2)), gi 3 (.box 3 2000003 (.t 1) (some 2)), gi 4 (.alloc 4 2000004 [I 0, .nul])]
def r_Z149_1 : List GI := [gf 5 2 0, gl 6 5, gi 7 (.mov 7 (.k .nul)), gf 8 2 1, gl 9 8, gi 10 (.app 10 2000010 (.t 7) (.t 9) 1 24), gf 11 3 1, gl 12 11, gi 13 (.app 13 2000013 (.t 10) (.t 12) 1 24), gc 14 63 [.t 6, .t 13], g0 (.sto 4 (.t 14) (some 2))]
def dc_Z149 : DC := .seq (.z r_Z149_0) (.seq (.reg r_Z149_1 (some [0, 1, 0, 0, 8, 28, 0, 64, 252, 511, 1023])) .ret)
theorem c_Z149 : cfun Tryz.prog [] 67 = some (15, dc_Z149, [(Res.cell 4 (some 2))]) := by kernel_rfl
def r_Z118_0 : List GI := [gi 4 (.mov 4 (.k (.v (.bool false))))]
def r_Z118_1 : List GI := [gt 6 0, gn 7 6, gt 8 1, gn 9 8, gb 10 .neq 7 9]
def r_Z118_2 : List GI := [gi 4 (.mov 4 (.k (.v (.bool false))))]
def r_Z118_3 : List GI := [gk 5 0]
def r_Z118_4 : List GI := [gt 11 5, gt 12 0, gn 13 12, gb 14 .lss 11 13]
def r_Z118_5 : List GI := [gt 17 0, gt 18 5, ga 19 17 18 1, gl 20 19, gt 21 1, gt 22 5, ga 23 21 22 1, gl 24 23, gc 25 70 [.t 20, .t 24], gi 26 (.un 26 UnOp.not (.t 25))]
def r_Z118_6 : List GI := [gi 4 (.mov 4 (.k (.v (.bool false))))]
def r_Z118_7 : List GI := [gt 15 5, gd 16 .add 15 1, gt 5 16]
def r_Z118_8 : List GI := [gi 4 (.mov 4 (.k (.v (.bool true))))]
def dc_Z118 : DC := .seq (.z r_Z118_0) (.seq (.seq (.z r_Z118_1) (.cond (.t 10) (.seq (.z r_Z118_2) .ret) .skip)) (.seq (.seq (.z r_Z118_3) (.block 0 (.loop (.seq (.seq (.z r_Z118_4) (.cond (.t 14) .skip (.exit 0))) (.seq (.block 1 (.seq (.reg r_Z118_5 (some [0, 0, 3, 7, 0, 0, 48, 112, 255, 511])) (.cond (.t 26) (.seq (.z r_Z118_6) .ret) .skip))) (.z r_Z118_7)))))) (.seq (.z r_Z118_8) .ret)))
theorem c_Z118 : cfun Tryz.prog [] 40 = some (27, dc_Z118, [(Res.tmp 4)]) := by kernel_rfl
def r_Z87_0 : List GI := [gi 2 (.box 2 2000002 (.t 0) (some 2)), gi 3 (.box 3 2000003 (.t 1) (some 2)), gi 4 (.mov 4 (.k (.v (.bool false))))]
def r_Z87_1 : List GI := [gf 5 2 0, gl 6 5, gf 7 3 0, gl 8 7, gb 9 .eql 6 8, gt 10 9, ⟨.fad 11 2 1, some 11, some (10, true), false⟩, ⟨.lod 12 11 none, some 12, some (10, true), false⟩, ⟨.fad 13 3 1, some 13, some (10, true), false⟩, ⟨.lod 14 13 none, some 14, some (10, true), false⟩, ⟨.call 15 40 [.t 12, .t 14], some 15, some (10, true), true⟩, gi 16 (.pick 16 (.t 10) (.t 15) (.k (.v (.bool false)))), gt 4 16]
def dc_Z87 : DC := .seq (.z r_Z87_0) (.seq (.z r_Z87_1) .ret)
theorem c_Z87 : cfun Tryz.prog [] 18 = some (17, dc_Z87, [(Res.tmp 4)]) := by kernel_rfl
def r_Z96_0 : List GI := [gi 1 (.box 1 2000001 (.t 0) (some 2)), gi 2 (.mov 2 (.k (.v (.bool false))))]
def r_Z96_1 : List GI := [gf 3 1 1, gl 4 3, gf 5 1 0, gl 6 5, gc 7 44 [.t 4, .t 6], gt 8 7, ⟨.fad 9 1 1, some 9, some (8, true), false⟩, ⟨.lod 10 9 none, some 10, some (8, true), false⟩, ⟨.call 11 47 [.t 10, .k (.fn 46 [])], some 11, some (8, true), true⟩, gi 12 (.pick 12 (.t 8) (.t 11) (.k (.v (.bool false)))), gt 2 12]
def dc_Z96 : DC := .seq (.z r_Z96_0) (.seq (.z r_Z96_1) .ret)
theorem c_Z96 : cfun Tryz.prog [] 26 = some (13, dc_Z96, [(Res.tmp 2)]) := by kernel_rfl
def r_Z0_0 : List GI := [gi 4 (.mov 4 (.k (.v (.bool false))))]
def r_Z0_1 : List GI := [gt 6 0, gn 7 6, gd 8 .sub 7 1, gt 5 8]
def r_Z0_2 : List GI := [gt 9 5, gd 10 .gtr 9 0]
def r_Z0_3 : List GI := [gt 13 1, gt 14 0, gt 15 5, ga 16 14 15 1, gl 17 16, gt 18 0, gt 19 5, gd 20 .sub 19 1, ga 21 18 20 1, gl 22 21, ⟨.cal 23 (.t 13) [.t 17, .t 22], some 23, none, true⟩, gd 24 .lss 23 0]
def r_Z0_4 : List GI := [gi 4 (.mov 4 (.k (.v (.bool false))))]
def r_Z0_5 : List GI := [gt 11 5, gd 12 .sub 11 1, gt 5 12]
def r_Z0_6 : List GI := [gi 4 (.mov 4 (.k (.v (.bool true))))]
def dc_Z0 : DC := .seq (.z r_Z0_0) (.seq (.seq (.z r_Z0_1) (.block 0 (.loop (.seq (.seq (.z r_Z0_2) (.cond (.t 10) .skip (.exit 0))) (.seq (.block 1 (.seq (.reg r_Z0_3 (some [0, 0, 0, 6, 14, 0, 0, 64, 224, 480, 1023, 2047])) (.cond (.t 24) (.seq (.z r_Z0_4) .ret) .skip))) (.z r_Z0_5)))))) (.seq (.z r_Z0_6) .ret))
theorem c_Z0 : cfun Tryz.prog [] 47 = some (25, dc_Z0, [(Res.tmp 4)]) := by kernel_rfl
def r_Z113_0 : List GI := [gi 2 (.mov 2 (.k .nul))]
def r_Z113_1 : List GI := [gi 3 (.mov 3 (.k .nul))]
def r_Z113_2 : List GI := [gt 6 0, gn 7 6, gk 8 0]
def r_Z113_3 : List GI := [gb 9 .lss 8 7]
def r_Z113_4 : List GI := [ga 10 6 8 1, gl 11 10, gt 5 11]
def r_Z113_5 : List GI := [gt 12 3, gt 13 5, gc 14 59 [.t 13], gi 15 (.bsl 15 1 none [.nul] [(0, .t 14)]), gi 16 (.app 16 2000016 (.t 12) (.t 15) 1 24), gt 3 16]
def r_Z113_6 : List GI := [gd 17 .add 8 1, gt 8 17]
def r_Z113_7 : List GI := [gt 18 3, gt 2 18]
def dc_Z113 : DC := .seq (.z r_Z113_0) (.seq (.z r_Z113_1) (.seq (.seq (.z r_Z113_2) (.block 0 (.loop (.seq (.z r_Z113_3) (.seq (.cond (.t 9) .skip (.exit 0)) (.seq (.block 1 (.seq (.z r_Z113_4) (.z r_Z113_5))) (.z r_Z113_6))))))) (.seq (.z r_Z113_7) .ret)))
theorem c_Z113 : cfun Tryz.prog [] 36 = some (19, dc_Z113, [(Res.tmp 2)]) := by kernel_rfl
def r_Z80_0 : List GI := [gi 4 (.alloc 4 2000004 [I 0, .nul])]
def r_Z80_1 : List GI := [gt 5 1, ⟨.call 6 58 [.t 5, .k (.fn 46 [])], some 6, none, true⟩]
def r_Z80_2 : List GI := [gt 7 0, gt 8 1, gi 9 (.build 9 [I 0, .nul] [(0, (none, .t 7)), (1, (none, .t 8))]), g0 (.sto 4 (.t 9) (some 2))]
def dc_Z80 : DC := .seq (.z r_Z80_0) (.seq (.z r_Z80_1) (.seq (.z r_Z80_2) .ret))
theorem c_Z80 : cfun Tryz.prog [] 35 = some (10, dc_Z80, [(Res.cell 4 (some 2))]) := by kernel_rfl
def r_Z8_0 : List GI := [gi 2 (.mov 2 (.k .nul))]
def r_Z8_1 : List GI := [gt 3 0, gi 4 (.isn 4 false (.t 3))]
def r_Z8_2 : List GI := [gi 2 (.mov 2 (.k .nul))]
def r_Z8_3 : List GI := [gi 5 (.mov 5 (.k .nul)), gt 6 0, gi 7 (.app 7 2000007 (.t 5) (.t 6) 2 16), gt 2 7]
def dc_Z8 : DC := .seq (.z r_Z8_0) (.seq (.seq (.z r_Z8_1) (.cond (.t 4) (.seq (.z r_Z8_2) .ret) .skip)) (.seq (.z r_Z8_3) .ret))
theorem c_Z8 : cfun Tryz.prog [] 59 = some (8, dc_Z8, [(Res.tmp 2)]) := by kernel_rfl
def r_Z1_0 : List GI := [gi 2 (.box 2 2000002 (.t 0) none), gi 4 (.mov 4 (.k .nul))]
def r_Z1_1 : List GI := [gt 6 1]
def r_Z1_2 : List GI := [gt 5 7]
def r_Z1_3 : List GI := [gl 8 2, gt 9 5, gi 10 (.bsl 10 1 none [.nul] [(0, .t 9)]), gi 11 (.app 11 2000011 (.t 8) (.t 10) 1 24), g0 (.sto 2 (.t 11) none)]
def r_Z1_4 : List GI := [gl 12 2, gt 4 12]
def dc_Z1 : DC := .seq (.z r_Z1_0) (.seq (.seq (.z r_Z1_1) (.block 0 (.rng (.t 6) [7] (.z r_Z1_2) (.block 1 (.z r_Z1_3))))) (.seq (.z r_Z1_4) .ret))
theorem c_Z1 : cfun Tryz.prog [] 189 = some (13, dc_Z1, [(Res.tmp 4)]) := by kernel_rfl
def r_Z17_0 : List GI := [gi 2 (.mov 2 (.k .nul))]
def r_Z17_1 : List GI := [gt 3 0, gc 4 189 [.k .nul, .t 3], gt 2 4]
def dc_Z17 : DC := .seq (.z r_Z17_0) (.seq (.z r_Z17_1) .ret)
theorem c_Z17 : cfun Tryz.prog [] 185 = some (5, dc_Z17, [(Res.tmp 2)]) := by kernel_rfl
def r_Z4_0 : List GI := [gi 1 (.box 1 2000001 (.t 0) none), gi 2 (.mov 2 (.k (.v .nilFunc)))]
def r_Z4_1 : List GI := [gi 3 (.mkf 3 138 [.t 1]), gt 2 3]
def dc_Z4 : DC := .seq (.z r_Z4_0) (.seq (.z r_Z4_1) .ret)
theorem c_Z4 : cfun Tryz.prog [] 94 = some (4, dc_Z4, [(Res.tmp 2)]) := by kernel_rfl
def r_Z2_0 : List GI := [gl 5 1, gn 6 5, gk 7 0]
def r_Z2_1 : List GI := [gb 8 .lss 7 6]
def r_Z2_2 : List GI := [ga 9 5 7 1, gl 10 9, gt 4 10]
def r_Z2_3 : List GI := [gt 11 0, gt 12 4, ⟨.cal 13 (.t 11) [.t 12], some 13, none, true⟩, gi 14 (.un 14 UnOp.not (.t 13))]
def r_Z2_4 : List GI := [gd 15 .add 7 1, gt 7 15]
def dc_Z2 : DC := .seq (.z r_Z2_0) (.block 0 (.loop (.seq (.z r_Z2_1) (.seq (.cond (.t 8) .skip (.exit 0)) (.seq (.block 1 (.seq (.z r_Z2_2) (.seq (.z r_Z2_3) (.cond (.t 14) .ret .skip)))) (.z r_Z2_4))))))
theorem c_Z2 : cfun Tryz.prog [] 138 = some (16, dc_Z2, []) := by kernel_rfl
end
end Go.Proofs.YtibknjpbbeackaaGreat
