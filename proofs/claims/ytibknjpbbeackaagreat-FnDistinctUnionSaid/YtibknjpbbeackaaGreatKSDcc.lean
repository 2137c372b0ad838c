/-
  Functions of the program read as code on plain data. Closed facts of the program alone.
-/
import Derived.KernelRfl
import Derived.Test.YtibknjpbbeackaaGreatRows
import Derived.Test.YtibknjpbbeackaaGreatJSVGo
import Derived.Test.YtibknjpbbeackaaGreatJSVTbD
namespace Go.Proofs.YtibknjpbbeackaaGreat
open Go.RowKit
noncomputable section
def r_Z106_0 : List GI := [gi 4 (.box 4 2000004 (.t 0) (some 2)), gi 5 (.box 5 2000005 (.t 1) (some 2)), gi 6 (.box 6 2000006 (.t 2) (some 5)), gi 8 (.alloc 8 2000008 [I 0, .nul])]
def r_Z106_1 : List GI := [gi 14 (.mov 14 (.k .nul)), gt 9 14]
def r_Z106_2 : List GI := [gk 10 0]
def r_Z106_3 : List GI := [gt 15 10, gf 16 4 1, gl 17 16, gn 18 17, gb 19 .lss 15 18]
def r_Z106_4 : List GI := [gi 11 (.mov 11 (.k (.v (.bool false))))]
def r_Z106_5 : List GI := [gk 12 0]
def r_Z106_6 : List GI := [gt 22 12, gf 23 5 1, gl 24 23, gn 25 24, gb 26 .lss 22 25]
def r_Z106_7 : List GI := [gf 29 4 1, gl 30 29, gt 31 10, ga 32 30 31 1, gl 33 32, gf 34 5 1, gl 35 34, gt 36 12, ga 37 35 36 1, gl 38 37, gc 39 111 [.t 33, .t 38], gt 13 39]
def r_Z106_8 : List GI := [gs 40 6 5, gt 41 13, gc 42 109 [.t 40, .t 41]]
def r_Z106_9 : List GI := [gi 11 (.mov 11 (.k (.v (.bool true))))]
def r_Z106_10 : List GI := [gt 43 9, gt 44 13, gi 45 (.bsl 45 1 none [.nul] [(0, .t 44)]), gi 46 (.app 46 2000046 (.t 43) (.t 45) 1 24), gt 9 46]
def r_Z106_11 : List GI := [gt 27 12, gd 28 .add 27 1, gt 12 28]
def r_Z106_12 : List GI := [gt 47 3, gt 48 47, ⟨.mov 49 (.t 11), some 49, some (48, true), false⟩, ⟨.un 50 UnOp.not (.t 49), some 50, some (48, true), false⟩, gi 51 (.pick 51 (.t 48) (.t 50) (.k (.v (.bool false))))]
def r_Z106_13 : List GI := [gt 52 9, gf 53 4 1, gl 54 53, gt 55 10, ga 56 54 55 1, gl 57 56, gf 58 5 0, gl 59 58, gc 60 112 [.t 59], gc 61 111 [.t 57, .t 60], gi 62 (.bsl 62 1 none [.nul] [(0, .t 61)]), gi 63 (.app 63 2000063 (.t 52) (.t 62) 1 24), gt 9 63]
def r_Z106_14 : List GI := [gt 20 10, gd 21 .add 20 1, gt 10 21]
def r_Z106_15 : List GI := [gf 64 4 0, gl 65 64, gf 66 5 0, gl 67 66, gb 68 .add 65 67, gt 69 9, gc 70 63 [.t 68, .t 69], g0 (.sto 8 (.t 70) (some 2))]
def dc_Z106 : DC := .seq (.z r_Z106_0) (.seq (.z r_Z106_1) (.seq (.seq (.z r_Z106_2) (.block 0 (.loop (.seq (.seq (.z r_Z106_3) (.cond (.t 19) .skip (.exit 0))) (.seq (.block 1 (.seq (.z r_Z106_4) (.seq (.seq (.z r_Z106_5) (.block 2 (.loop (.seq (.seq (.z r_Z106_6) (.cond (.t 26) .skip (.exit 2))) (.seq (.block 3 (.seq (.reg r_Z106_7 (some [0, 1, 0, 7, 15, 0, 32, 0, 224, 480, 1023, 2047])) (.seq (.z r_Z106_8) (.cond (.t 42) (.seq (.z r_Z106_9) (.z r_Z106_10)) .skip)))) (.z r_Z106_11)))))) (.seq (.z r_Z106_12) (.cond (.t 51) (.reg r_Z106_13 (some [0, 0, 2, 0, 14, 30, 0, 64, 192, 510, 1022, 2047, 4095])) .skip))))) (.z r_Z106_14)))))) (.seq (.z r_Z106_15) .ret)))
theorem c_Z106 : cfun Tryz.prog [] 66 = some (71, dc_Z106, [(Res.cell 8 (some 2))]) := by kernel_rfl
def r_Z70_0 : List GI := [gi 1 (.box 1 2000001 (.t 0) (some 2)), gi 2 (.alloc 2 2000002 [I 0, .nul])]
def r_Z70_1 : List GI := [gf 5 1 0, gl 6 5, gi 7 (.build 7 [I 0, .nul] [(0, (none, .t 6))]), gi 3 (.alloc 3 2000003 [I 0, .nul]), g0 (.sto 3 (.t 7) (some 2))]
def r_Z70_2 : List GI := [gk 4 0]
def r_Z70_3 : List GI := [gt 8 4, gf 9 1 1, gl 10 9, gn 11 10, gb 12 .lss 8 11]
def r_Z70_4 : List GI := [gt 15 4, gd 16 .eql 15 0, gt 17 16, ⟨.fad 18 1 1, some 18, some (17, false), false⟩, ⟨.lod 19 18 none, some 19, some (17, false), false⟩, ⟨.mov 20 (.t 4), some 20, some (17, false), false⟩, ⟨.bin 21 .sub (.t 20) (.k (I 1)), some 21, some (17, false), false⟩, ⟨.iad 22 19 (.t 21) 1, some 22, some (17, false), false⟩, ⟨.lod 23 22 none, some 23, some (17, false), false⟩, ⟨.fad 24 1 1, some 24, some (17, false), false⟩, ⟨.lod 25 24 none, some 25, some (17, false), false⟩, ⟨.mov 26 (.t 4), some 26, some (17, false), false⟩, ⟨.iad 27 25 (.t 26) 1, some 27, some (17, false), false⟩, ⟨.lod 28 27 none, some 28, some (17, false), false⟩, ⟨.call 29 107 [.t 23, .t 28], some 29, some (17, false), true⟩, ⟨.bin 30 .neq (.t 29) (.k (I 0)), some 30, some (17, false), false⟩, gi 31 (.pick 31 (.t 17) (.k (.v (.bool true))) (.t 30))]
def r_Z70_5 : List GI := [gf 32 3 1, gl 33 32, gf 34 1 1, gl 35 34, gt 36 4, ga 37 35 36 1, gl 38 37, gc 39 83 [.t 38], gi 40 (.bsl 40 1 none [.nul] [(0, .t 39)]), gi 41 (.app 41 2000041 (.t 33) (.t 40) 1 24), gf 42 3 1, g0 (.sto 42 (.t 41) none)]
def r_Z70_6 : List GI := [gt 13 4, gd 14 .add 13 1, gt 4 14]
def r_Z70_7 : List GI := [gs 43 3 2, g0 (.sto 2 (.t 43) (some 2))]
def dc_Z70 : DC := .seq (.z r_Z70_0) (.seq (.z r_Z70_1) (.seq (.seq (.z r_Z70_2) (.block 0 (.loop (.seq (.seq (.z r_Z70_3) (.cond (.t 12) .skip (.exit 0))) (.seq (.block 1 (.seq (.reg r_Z70_4 (some [0, 1, 3, 7, 15, 7, 39, 127, 255, 7, 519, 7, 3591, 7687, 16383, 32767, 65535])) (.cond (.t 31) (.reg r_Z70_5 (some [0, 1, 0, 4, 0, 28, 60, 124, 252, 511, 1023, 2047])) .skip))) (.z r_Z70_6)))))) (.seq (.z r_Z70_7) .ret)))
theorem c_Z70 : cfun Tryz.prog [] 68 = some (44, dc_Z70, [(Res.cell 2 (some 2))]) := by kernel_rfl
def r_Z151_0 : List GI := [gi 2 (.box 2 2000002 (.t 0) (some 2)), gi 3 (.box 3 2000003 (.t 1) (some 2)), gi 4 (.alloc 4 2000004 [I 0, .nul])]
def r_Z151_1 : List GI := [gf 5 2 0, gl 6 5, gi 7 (.mov 7 (.k .nul)), gf 8 2 1, gl 9 8, gi 10 (.app 10 2000010 (.t 7) (.t 9) 1 24), gf 11 3 1, gl 12 11, gi 13 (.app 13 2000013 (.t 10) (.t 12) 1 24), gc 14 63 [.t 6, .t 13], g0 (.sto 4 (.t 14) (some 2))]
def dc_Z151 : DC := .seq (.z r_Z151_0) (.seq (.reg r_Z151_1 (some [0, 1, 0, 0, 8, 28, 0, 64, 252, 511, 1023])) .ret)
theorem c_Z151 : cfun Tryz.prog [] 67 = some (15, dc_Z151, [(Res.cell 4 (some 2))]) := by kernel_rfl
def r_Z120_0 : List GI := [gi 4 (.mov 4 (.k (.v (.bool false))))]
def r_Z120_1 : List GI := [gt 6 0, gn 7 6, gt 8 1, gn 9 8, gb 10 .neq 7 9]
def r_Z120_2 : List GI := [gi 4 (.mov 4 (.k (.v (.bool false))))]
def r_Z120_3 : List GI := [gk 5 0]
def r_Z120_4 : List GI := [gt 11 5, gt 12 0, gn 13 12, gb 14 .lss 11 13]
def r_Z120_5 : List GI := [gt 17 0, gt 18 5, ga 19 17 18 1, gl 20 19, gt 21 1, gt 22 5, ga 23 21 22 1, gl 24 23, gc 25 70 [.t 20, .t 24], gi 26 (.un 26 UnOp.not (.t 25))]
def r_Z120_6 : List GI := [gi 4 (.mov 4 (.k (.v (.bool false))))]
def r_Z120_7 : List GI := [gt 15 5, gd 16 .add 15 1, gt 5 16]
def r_Z120_8 : List GI := [gi 4 (.mov 4 (.k (.v (.bool true))))]
def dc_Z120 : DC := .seq (.z r_Z120_0) (.seq (.seq (.z r_Z120_1) (.cond (.t 10) (.seq (.z r_Z120_2) .ret) .skip)) (.seq (.seq (.z r_Z120_3) (.block 0 (.loop (.seq (.seq (.z r_Z120_4) (.cond (.t 14) .skip (.exit 0))) (.seq (.block 1 (.seq (.reg r_Z120_5 (some [0, 0, 3, 7, 0, 0, 48, 112, 255, 511])) (.cond (.t 26) (.seq (.z r_Z120_6) .ret) .skip))) (.z r_Z120_7)))))) (.seq (.z r_Z120_8) .ret)))
theorem c_Z120 : cfun Tryz.prog [] 40 = some (27, dc_Z120, [(Res.tmp 4)]) := by kernel_rfl
def r_Z90_0 : List GI := [gi 2 (.box 2 2000002 (.t 0) (some 2)), gi 3 (.box 3 2000003 (.t 1) (some 2)), gi 4 (.mov 4 (.k (.v (.bool false))))]
def r_Z90_1 : List GI := [gf 5 2 0, gl 6 5, gf 7 3 0, gl 8 7, gb 9 .eql 6 8, gt 10 9, ⟨.fad 11 2 1, some 11, some (10, true), false⟩, ⟨.lod 12 11 none, some 12, some (10, true), false⟩, ⟨.fad 13 3 1, some 13, some (10, true), false⟩, ⟨.lod 14 13 none, some 14, some (10, true), false⟩, ⟨.call 15 40 [.t 12, .t 14], some 15, some (10, true), true⟩, gi 16 (.pick 16 (.t 10) (.t 15) (.k (.v (.bool false)))), gt 4 16]
def dc_Z90 : DC := .seq (.z r_Z90_0) (.seq (.z r_Z90_1) .ret)
theorem c_Z90 : cfun Tryz.prog [] 18 = some (17, dc_Z90, [(Res.tmp 4)]) := by kernel_rfl
def r_Z98_0 : List GI := [gi 1 (.box 1 2000001 (.t 0) (some 2)), gi 2 (.mov 2 (.k (.v (.bool false))))]
def r_Z98_1 : List GI := [gf 3 1 1, gl 4 3, gf 5 1 0, gl 6 5, gc 7 44 [.t 4, .t 6], gt 8 7, ⟨.fad 9 1 1, some 9, some (8, true), false⟩, ⟨.lod 10 9 none, some 10, some (8, true), false⟩, ⟨.call 11 47 [.t 10, .k (.fn 46 [])], some 11, some (8, true), true⟩, gi 12 (.pick 12 (.t 8) (.t 11) (.k (.v (.bool false)))), gt 2 12]
def dc_Z98 : DC := .seq (.z r_Z98_0) (.seq (.z r_Z98_1) .ret)
theorem c_Z98 : cfun Tryz.prog [] 26 = some (13, dc_Z98, [(Res.tmp 2)]) := by kernel_rfl
def r_Z0_0 : List GI := [gi 4 (.mov 4 (.k (.v (.bool false))))]
def r_Z0_1 : List GI := [gt 6 0, gn 7 6, gd 8 .sub 7 1, gt 5 8]
def r_Z0_2 : List GI := [gt 9 5, gd 10 .gtr 9 0]
def r_Z0_3 : List GI := [gt 13 1, gt 14 0, gt 15 5, ga 16 14 15 1, gl 17 16, gt 18 0, gt 19 5, gd 20 .sub 19 1, ga 21 18 20 1, gl 22 21, ⟨.cal 23 (.t 13) [.t 17, .t 22], some 23, none, true⟩, gd 24 .lss 23 0]
def r_Z0_4 : List GI := [gi 4 (.mov 4 (.k (.v (.bool false))))]
def r_Z0_5 : List GI := [gt 11 5, gd 12 .sub 11 1, gt 5 12]
def r_Z0_6 : List GI := [gi 4 (.mov 4 (.k (.v (.bool true))))]
def dc_Z0 : DC := .seq (.z r_Z0_0) (.seq (.seq (.z r_Z0_1) (.block 0 (.loop (.seq (.seq (.z r_Z0_2) (.cond (.t 10) .skip (.exit 0))) (.seq (.block 1 (.seq (.reg r_Z0_3 (some [0, 0, 0, 6, 14, 0, 0, 64, 224, 480, 1023, 2047])) (.cond (.t 24) (.seq (.z r_Z0_4) .ret) .skip))) (.z r_Z0_5)))))) (.seq (.z r_Z0_6) .ret))
theorem c_Z0 : cfun Tryz.prog [] 47 = some (25, dc_Z0, [(Res.tmp 4)]) := by kernel_rfl
def r_Z154_0 : List GI := [gi 4 (.alloc 4 2000004 [I 0, .nul]), gi 5 (.mov 5 (.k (.v (.bool false))))]
def r_Z154_1 : List GI := [gt 6 1, gt 7 0, gc 8 44 [.t 6, .t 7], gi 9 (.un 9 UnOp.not (.t 8))]
def r_Z154_2 : List GI := [gi 10 (.build 10 [I 0, .nul] []), g0 (.sto 4 (.t 10) (some 2)), gi 5 (.mov 5 (.k (.v (.bool false))))]
def r_Z154_3 : List GI := [gt 11 0, gt 12 1, gc 13 36 [.t 12], gc 14 35 [.t 11, .t 13], g0 (.sto 4 (.t 14) (some 2)), gi 5 (.mov 5 (.k (.v (.bool true))))]
def dc_Z154 : DC := .seq (.z r_Z154_0) (.seq (.seq (.z r_Z154_1) (.cond (.t 9) (.seq (.z r_Z154_2) .ret) .skip)) (.seq (.z r_Z154_3) .ret))
theorem c_Z154 : cfun Tryz.prog [] 24 = some (15, dc_Z154, [(Res.cell 4 (some 2)), (Res.tmp 5)]) := by kernel_rfl
def r_Z115_0 : List GI := [gi 2 (.mov 2 (.k .nul))]
def r_Z115_1 : List GI := [gi 3 (.mov 3 (.k .nul))]
def r_Z115_2 : List GI := [gt 6 0, gn 7 6, gk 8 0]
def r_Z115_3 : List GI := [gb 9 .lss 8 7]
def r_Z115_4 : List GI := [ga 10 6 8 1, gl 11 10, gt 5 11]
def r_Z115_5 : List GI := [gt 12 3, gt 13 5, gc 14 59 [.t 13], gi 15 (.bsl 15 1 none [.nul] [(0, .t 14)]), gi 16 (.app 16 2000016 (.t 12) (.t 15) 1 24), gt 3 16]
def r_Z115_6 : List GI := [gd 17 .add 8 1, gt 8 17]
def r_Z115_7 : List GI := [gt 18 3, gt 2 18]
def dc_Z115 : DC := .seq (.z r_Z115_0) (.seq (.z r_Z115_1) (.seq (.seq (.z r_Z115_2) (.block 0 (.loop (.seq (.z r_Z115_3) (.seq (.cond (.t 9) .skip (.exit 0)) (.seq (.block 1 (.seq (.z r_Z115_4) (.z r_Z115_5))) (.z r_Z115_6))))))) (.seq (.z r_Z115_7) .ret)))
theorem c_Z115 : cfun Tryz.prog [] 36 = some (19, dc_Z115, [(Res.tmp 2)]) := by kernel_rfl
def r_Z82_0 : List GI := [gi 4 (.alloc 4 2000004 [I 0, .nul])]
def r_Z82_1 : List GI := [gt 5 1, ⟨.call 6 58 [.t 5, .k (.fn 46 [])], some 6, none, true⟩]
def r_Z82_2 : List GI := [gt 7 0, gt 8 1, gi 9 (.build 9 [I 0, .nul] [(0, (none, .t 7)), (1, (none, .t 8))]), g0 (.sto 4 (.t 9) (some 2))]
def dc_Z82 : DC := .seq (.z r_Z82_0) (.seq (.z r_Z82_1) (.seq (.z r_Z82_2) .ret))
theorem c_Z82 : cfun Tryz.prog [] 35 = some (10, dc_Z82, [(Res.cell 4 (some 2))]) := by kernel_rfl
def r_Z9_0 : List GI := [gi 2 (.mov 2 (.k .nul))]
def r_Z9_1 : List GI := [gt 3 0, gi 4 (.isn 4 false (.t 3))]
def r_Z9_2 : List GI := [gi 2 (.mov 2 (.k .nul))]
def r_Z9_3 : List GI := [gi 5 (.mov 5 (.k .nul)), gt 6 0, gi 7 (.app 7 2000007 (.t 5) (.t 6) 2 16), gt 2 7]
def dc_Z9 : DC := .seq (.z r_Z9_0) (.seq (.seq (.z r_Z9_1) (.cond (.t 4) (.seq (.z r_Z9_2) .ret) .skip)) (.seq (.z r_Z9_3) .ret))
theorem c_Z9 : cfun Tryz.prog [] 59 = some (8, dc_Z9, [(Res.tmp 2)]) := by kernel_rfl
def r_Z59_0 : List GI := [gi 1 (.box 1 2000001 (.t 0) (some 2)), gi 2 (.alloc 2 2000002 [I 0, .nul]), gi 3 (.mov 3 (.k (.v (.bool false))))]
def r_Z59_1 : List GI := [gs 5 1 2, gc 6 26 [.t 5], gi 7 (.un 7 UnOp.not (.t 6))]
def r_Z59_2 : List GI := [gi 8 (.build 8 [I 0, .nul] []), g0 (.sto 2 (.t 8) (some 2)), gi 3 (.mov 3 (.k (.v (.bool false))))]
def r_Z59_3 : List GI := [gf 9 1 1, gl 10 9, gc 11 36 [.t 10], ⟨.call 12 41 [.t 11, .k (.fn 42 [])], some 12, none, true⟩, gt 4 12]
def r_Z59_4 : List GI := [gf 13 1 0, gl 14 13, gt 15 4, gi 16 (.build 16 [I 0, .nul] [(0, (none, .t 14)), (1, (none, .t 15))]), g0 (.sto 2 (.t 16) (some 2)), gi 3 (.mov 3 (.k (.v (.bool true))))]
def dc_Z59 : DC := .seq (.z r_Z59_0) (.seq (.seq (.z r_Z59_1) (.cond (.t 7) (.seq (.z r_Z59_2) .ret) .skip)) (.seq (.z r_Z59_3) (.seq (.z r_Z59_4) .ret)))
theorem c_Z59 : cfun Tryz.prog [] 20 = some (17, dc_Z59, [(Res.cell 2 (some 2)), (Res.tmp 3)]) := by kernel_rfl
def r_Z1_0 : List GI := [gi 4 (.mov 4 (.k .nul))]
def r_Z1_1 : List GI := [gt 8 0, gn 9 8, gd 10 .lss 9 2]
def r_Z1_2 : List GI := [gt 11 0, gt 4 11]
def r_Z1_3 : List GI := [gk 5 1]
def r_Z1_4 : List GI := [gt 12 5, gt 13 0, gn 14 13, gb 15 .lss 12 14]
def r_Z1_5 : List GI := [gt 18 1, gt 19 0, gt 20 5, ga 21 19 20 1, gl 22 21, gt 23 0, gt 24 5, gd 25 .sub 24 1, ga 26 23 25 1, gl 27 26, ⟨.cal 28 (.t 18) [.t 22, .t 27], some 28, none, true⟩]
def r_Z1_6 : List GI := [gt 29 0, gt 30 5, gi 31 (.slc 31 (.t 29) (some (.t 30)) none 1), gt 6 31]
def r_Z1_7 : List GI := [gk 7 1]
def r_Z1_8 : List GI := [gt 32 7, gt 33 6, gn 34 33, gb 35 .lss 32 34]
def r_Z1_9 : List GI := [gt 38 1, gt 39 6, gt 40 7, ga 41 39 40 1, gl 42 41, gt 43 6, gt 44 7, gd 45 .sub 44 1, ga 46 43 45 1, gl 47 46, ⟨.cal 48 (.t 38) [.t 42, .t 47], some 48, none, true⟩, gi 49 (.un 49 UnOp.not (.t 48))]
def r_Z1_10 : List GI := [gt 50 0, gt 51 5, gt 52 6, gt 53 7, ga 54 52 53 1, gl 55 54, ga 56 50 51 1, g0 (.sto 56 (.t 55) none)]
def r_Z1_11 : List GI := [gt 57 5, gd 58 .add 57 1, gt 5 58]
def r_Z1_12 : List GI := [gt 36 7, gd 37 .add 36 1, gt 7 37]
def r_Z1_13 : List GI := [gt 59 0, gt 60 5, gi 61 (.slc 61 (.t 59) (some (.t 60)) none 1), g0 (.clr none (.t 61) 1 .nul)]
def r_Z1_14 : List GI := [gt 62 0, gt 63 5, gi 64 (.slc 64 (.t 62) none (some (.t 63)) 1), gt 4 64]
def r_Z1_15 : List GI := [gt 16 5, gd 17 .add 16 1, gt 5 17]
def r_Z1_16 : List GI := [gt 65 0, gt 4 65]
def dc_Z1 : DC := .seq (.z r_Z1_0) (.seq (.seq (.z r_Z1_1) (.cond (.t 10) (.seq (.z r_Z1_2) .ret) .skip)) (.seq (.seq (.z r_Z1_3) (.block 0 (.loop (.seq (.seq (.z r_Z1_4) (.cond (.t 15) .skip (.exit 0))) (.seq (.block 1 (.seq (.reg r_Z1_5 (some [0, 0, 0, 6, 14, 0, 0, 64, 224, 480, 1023])) (.cond (.t 28) (.seq (.z r_Z1_6) (.seq (.seq (.z r_Z1_7) (.block 2 (.loop (.seq (.seq (.z r_Z1_8) (.cond (.t 35) .skip (.exit 2))) (.seq (.block 3 (.seq (.reg r_Z1_9 (some [0, 0, 0, 6, 14, 0, 0, 64, 224, 480, 1023, 2047])) (.cond (.t 49) (.seq (.z r_Z1_10) (.z r_Z1_11)) .skip))) (.z r_Z1_12)))))) (.seq (.z r_Z1_13) (.seq (.z r_Z1_14) .ret)))) .skip))) (.z r_Z1_15)))))) (.seq (.z r_Z1_16) .ret)))
theorem c_Z1 : cfun Tryz.prog [] 41 = some (66, dc_Z1, [(Res.tmp 4)]) := by kernel_rfl
def r_Z10_0 : List GI := [gi 4 (.mov 4 (.k (.v (.bool false))))]
def r_Z10_1 : List GI := [gt 6 0, gn 7 6, gt 8 1, gn 9 8, gb 10 .neq 7 9]
def r_Z10_2 : List GI := [gi 4 (.mov 4 (.k (.v (.bool false))))]
def r_Z10_3 : List GI := [gt 11 0, gn 12 11, gk 13 0]
def r_Z10_4 : List GI := [gb 14 .lss 13 12]
def r_Z10_5 : List GI := [gt 15 13, gt 5 15]
def r_Z10_6 : List GI := [gt 16 0, gt 17 5, ga 18 16 17 2, gs 19 18 2, gt 20 1, gt 21 5, ga 22 20 21 2, gs 23 22 2, gi 24 (.eqs 24 true [false, true] (.t 19) (.t 23))]
def r_Z10_7 : List GI := [gi 4 (.mov 4 (.k (.v (.bool false))))]
def r_Z10_8 : List GI := [gd 25 .add 13 1, gt 13 25]
def r_Z10_9 : List GI := [gi 4 (.mov 4 (.k (.v (.bool true))))]
def dc_Z10 : DC := .seq (.z r_Z10_0) (.seq (.seq (.z r_Z10_1) (.cond (.t 10) (.seq (.z r_Z10_2) .ret) .skip)) (.seq (.seq (.z r_Z10_3) (.block 0 (.loop (.seq (.z r_Z10_4) (.seq (.cond (.t 14) .skip (.exit 0)) (.seq (.block 1 (.seq (.z r_Z10_5) (.seq (.reg r_Z10_6 (some [0, 0, 3, 7, 0, 0, 48, 112, 255])) (.cond (.t 24) (.seq (.z r_Z10_7) .ret) .skip)))) (.z r_Z10_8))))))) (.seq (.z r_Z10_9) .ret)))
theorem c_Z10 : cfun Tryz.prog [] 42 = some (26, dc_Z10, [(Res.tmp 4)]) := by kernel_rfl
def r_Z2_0 : List GI := [gi 2 (.box 2 2000002 (.t 0) none), gi 4 (.mov 4 (.k .nul))]
def r_Z2_1 : List GI := [gt 6 1]
def r_Z2_2 : List GI := [gt 5 7]
def r_Z2_3 : List GI := [gl 8 2, gt 9 5, gi 10 (.bsl 10 1 none [.nul] [(0, .t 9)]), gi 11 (.app 11 2000011 (.t 8) (.t 10) 1 24), g0 (.sto 2 (.t 11) none)]
def r_Z2_4 : List GI := [gl 12 2, gt 4 12]
def dc_Z2 : DC := .seq (.z r_Z2_0) (.seq (.seq (.z r_Z2_1) (.block 0 (.rng (.t 6) [7] (.z r_Z2_2) (.block 1 (.z r_Z2_3))))) (.seq (.z r_Z2_4) .ret))
theorem c_Z2 : cfun Tryz.prog [] 189 = some (13, dc_Z2, [(Res.tmp 4)]) := by kernel_rfl
def r_Z17_0 : List GI := [gi 2 (.mov 2 (.k .nul))]
def r_Z17_1 : List GI := [gt 3 0, gc 4 189 [.k .nul, .t 3], gt 2 4]
def dc_Z17 : DC := .seq (.z r_Z17_0) (.seq (.z r_Z17_1) .ret)
theorem c_Z17 : cfun Tryz.prog [] 185 = some (5, dc_Z17, [(Res.tmp 2)]) := by kernel_rfl
def r_Z5_0 : List GI := [gi 1 (.box 1 2000001 (.t 0) none), gi 2 (.mov 2 (.k (.v .nilFunc)))]
def r_Z5_1 : List GI := [gi 3 (.mkf 3 138 [.t 1]), gt 2 3]
def dc_Z5 : DC := .seq (.z r_Z5_0) (.seq (.z r_Z5_1) .ret)
theorem c_Z5 : cfun Tryz.prog [] 94 = some (4, dc_Z5, [(Res.tmp 2)]) := by kernel_rfl
def r_Z3_0 : List GI := [gl 5 1, gn 6 5, gk 7 0]
def r_Z3_1 : List GI := [gb 8 .lss 7 6]
def r_Z3_2 : List GI := [ga 9 5 7 1, gl 10 9, gt 4 10]
def r_Z3_3 : List GI := [gt 11 0, gt 12 4, ⟨.cal 13 (.t 11) [.t 12], some 13, none, true⟩, gi 14 (.un 14 UnOp.not (.t 13))]
def r_Z3_4 : List GI := [gd 15 .add 7 1, gt 7 15]
def dc_Z3 : DC := .seq (.z r_Z3_0) (.block 0 (.loop (.seq (.z r_Z3_1) (.seq (.cond (.t 8) .skip (.exit 0)) (.seq (.block 1 (.seq (.z r_Z3_2) (.seq (.z r_Z3_3) (.cond (.t 14) .ret .skip)))) (.z r_Z3_4))))))
theorem c_Z3 : cfun Tryz.prog [] 138 = some (16, dc_Z3, []) := by kernel_rfl
end
end Go.Proofs.YtibknjpbbeackaaGreat
