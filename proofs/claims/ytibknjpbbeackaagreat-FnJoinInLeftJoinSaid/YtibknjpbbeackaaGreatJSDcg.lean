/-
  Functions of the program read as code on plain data. Closed facts of the program alone.
-/
import Derived.KernelRfl
import Derived.Test.YtibknjpbbeackaaGreatRows
import Derived.Test.YtibknjpbbeackaaGreatJSVGo
import Derived.Test.YtibknjpbbeackaaGreatJSVTbD
namespace Go.Proofs.YtibknjpbbeackaaGreat
open Go.RowKit
noncomputable section
def r_Z72_0 : List GI := [gi 2 (.mov 2 (.k .nul))]
def r_Z72_1 : List GI := [gi 5 (.mov 5 (.k .nul)), gt 3 5]
def r_Z72_2 : List GI := [gt 6 0, gc 7 53 [.t 6, .k (I 2)], gi 8 (.bin 8 .add (.k (I 2)) (.t 7)), gt 4 8]
def r_Z72_3 : List GI := [gt 9 4, gd 10 .gtr 9 0]
def r_Z72_4 : List GI := [gt 13 3, gt 14 0, gc 15 53 [.t 14, .k (I 2)], gi 16 (.bin 16 .add (.k (I 1)) (.t 15)), gi 17 (.bsl 17 1 none [I 0] [(0, .t 16)]), gi 18 (.app 18 2000018 (.t 13) (.t 17) 1 8), gt 3 18]
def r_Z72_5 : List GI := [gt 11 4, gd 12 .sub 11 1, gt 4 12]
def r_Z72_6 : List GI := [gt 19 3, gt 2 19]
def dc_Z72 : DC := .seq (.z r_Z72_0) (.seq (.z r_Z72_1) (.seq (.seq (.z r_Z72_2) (.block 0 (.loop (.seq (.seq (.z r_Z72_3) (.cond (.t 10) .skip (.exit 0))) (.seq (.block 1 (.z r_Z72_4)) (.z r_Z72_5)))))) (.seq (.z r_Z72_6) .ret)))
theorem c_Z72 : cfun Tryz.prog [] 50 = some (20, dc_Z72, [(Res.tmp 2)]) := by kernel_rfl
def r_Z156_0 : List GI := [gi 4 (.alloc 4 2000004 [I 0, I 0, .nul, .nul, .nul])]
def r_Z156_1 : List GI := [gt 6 0, gt 7 1, gc 8 79 [.t 6, .t 7], gi 5 (.alloc 5 2000005 [I 0, I 0, .nul, .nul, .nul]), g0 (.sto 5 (.t 8) (some 5))]
def r_Z156_2 : List GI := [gt 9 0, gc 10 53 [.t 9, .k (I 18)]]
def r_Z156_3 : List GI := [gd 12 .eql 10 0, gt 11 12]
def r_Z156_4 : List GI := [gt 13 0, gi 14 (.bsl 14 1 none [I 0, I 0, I 0, I 0] [(0, .k (I 0)), (1, .k (I 9)), (2, .k (I 1)), (3, .k (I 4))]), gc 15 80 [.t 13, .t 14], gf 16 5 0, g0 (.sto 16 (.t 15) none)]
def r_Z156_5 : List GI := [gd 18 .eql 10 1, gt 17 18]
def r_Z156_6 : List GI := [gt 19 0, gi 20 (.bsl 20 1 none [I 0, I 0, I 0] [(0, .k (.v (.int .i64 (-1)))), (1, .k (I 4)), (2, .k (I 1))]), gc 21 80 [.t 19, .t 20], gf 22 5 1, g0 (.sto 22 (.t 21) none)]
def r_Z156_7 : List GI := [gd 24 .eql 10 2, gt 23 24]
def r_Z156_8 : List GI := [gf 25 5 3, gl 26 25, gt 27 0, gi 28 (.bsl 28 1 none [I 0, I 0] [(0, .k (I 0)), (1, .k (I 9))]), gc 29 80 [.t 27, .t 28], gi 30 (.bsl 30 1 none [I 0] [(0, .t 29)]), gi 31 (.app 31 2000031 (.t 26) (.t 30) 1 8), gf 32 5 3, g0 (.sto 32 (.t 31) none)]
def r_Z156_9 : List GI := [gd 34 .eql 10 3, gt 33 34]
def r_Z156_10 : List GI := [gf 35 5 2, gl 36 35, gt 37 0, gc 38 81 [.t 37, .k (I 2)], gi 39 (.bsl 39 5 (some 5) [.agg [I 0, I 0, .v (.bool false), I 0, .nul]] [(0, .t 38)]), gi 40 (.app 40 2000040 (.t 36) (.t 39) 5 56), gf 41 5 2, g0 (.sto 41 (.t 40) none)]
def r_Z156_11 : List GI := [gs 42 5 5, g0 (.sto 4 (.t 42) (some 5))]
def dc_Z156 : DC := .seq (.z r_Z156_0) (.seq (.z r_Z156_1) (.seq (.seq (.z r_Z156_2) (.block 0 (.seq (.z r_Z156_3) (.cond (.t 11) (.z r_Z156_4) (.seq (.z r_Z156_5) (.cond (.t 17) (.z r_Z156_6) (.seq (.z r_Z156_7) (.cond (.t 23) (.reg r_Z156_8 (some [0, 1, 0, 0, 12, 28, 63, 127, 255])) (.seq (.z r_Z156_9) (.cond (.t 33) (.reg r_Z156_10 (some [0, 1, 0, 4, 12, 31, 63, 127])) .skip)))))))))) (.seq (.z r_Z156_11) .ret)))
theorem c_Z156 : cfun Tryz.prog [] 51 = some (43, dc_Z156, [(Res.cell 4 (some 5))]) := by kernel_rfl
def r_Z67_0 : List GI := [gi 2 (.alloc 2 2000002 [I 0, I 0, .nul, .nul, .nul]), gi 3 (.mov 3 (.k .nul))]
def r_Z67_1 : List GI := [gt 4 0, gc 5 30 [.t 4], gc 6 29 [.t 5], gi 7 (.ext 7 6 0), gi 8 (.ext 8 6 1), g0 (.sto 2 (.t 7) (some 5)), gt 3 8]
def dc_Z67 : DC := .seq (.z r_Z67_0) (.seq (.z r_Z67_1) .ret)
theorem c_Z67 : cfun Tryz.prog [] 15 = some (9, dc_Z67, [(Res.cell 2 (some 5)), (Res.tmp 3)]) := by kernel_rfl
def r_Z56_0 : List GI := [gi 2 (.alloc 2 2000002 [I 0, I 0, .nul, .nul, .nul]), gi 3 (.mov 3 (.k .nul))]
def r_Z56_1 : List GI := [gt 7 0, gc 8 50 [.t 7], gt 4 8]
def r_Z56_2 : List GI := [gt 9 0, gt 10 4, gc 11 51 [.t 9, .t 10], gi 5 (.alloc 5 2000005 [I 0, I 0, .nul, .nul, .nul]), g0 (.sto 5 (.t 11) (some 5))]
def r_Z56_3 : List GI := [gt 12 0, gt 13 4, gc 14 52 [.t 12, .t 13], gt 6 14]
def r_Z56_4 : List GI := [gt 15 0, gc 16 53 [.t 15, .k (I 16)], gd 17 .eql 16 0]
def r_Z56_5 : List GI := [gt 18 6, gt 19 0, gt 20 4, gi 21 (.iad 21 20 (.k (I 0)) 1), gl 22 21, gc 23 54 [.t 19, .t 22, .k (I 4)], gi 24 (.iad 24 18 (.k (I 0)) 2), g0 (.sto 24 (.t 23) (some 2))]
def r_Z56_6 : List GI := [gs 25 5 5, gt 26 6, g0 (.sto 2 (.t 25) (some 5)), gt 3 26]
def dc_Z56 : DC := .seq (.z r_Z56_0) (.seq (.z r_Z56_1) (.seq (.z r_Z56_2) (.seq (.z r_Z56_3) (.seq (.seq (.z r_Z56_4) (.cond (.t 17) (.z r_Z56_5) .skip)) (.seq (.z r_Z56_6) .ret)))))
theorem c_Z56 : cfun Tryz.prog [] 29 = some (27, dc_Z56, [(Res.cell 2 (some 5)), (Res.tmp 3)]) := by kernel_rfl
def r_Z46_0 : List GI := [gi 4 (.mov 4 (.k .nul))]
def r_Z46_1 : List GI := [gi 7 (.mov 7 (.k .nul)), gt 5 7]
def r_Z46_2 : List GI := [gk 6 0]
def r_Z46_3 : List GI := [gt 8 6, gt 9 1, gn 10 9, gb 11 .lss 8 10]
def r_Z46_4 : List GI := [gt 14 5, gt 15 0, gt 16 1, gt 17 6, ga 18 16 17 1, gl 19 18, gi 20 (.mm 20 true (.t 19) (.k (I 1))), gi 21 (.mm 21 false (.t 20) (.k (I 6))), gc 22 82 [.t 15, .t 21, .k (I 4)], gi 23 (.bsl 23 2 (some 2) [.agg [I 0, .nul]] [(0, .t 22)]), gi 24 (.app 24 2000024 (.t 14) (.t 23) 2 32), gt 5 24]
def r_Z46_5 : List GI := [gt 12 6, gd 13 .add 12 1, gt 6 13]
def r_Z46_6 : List GI := [gt 25 5, gt 4 25]
def dc_Z46 : DC := .seq (.z r_Z46_0) (.seq (.z r_Z46_1) (.seq (.seq (.z r_Z46_2) (.block 0 (.loop (.seq (.seq (.z r_Z46_3) (.cond (.t 11) .skip (.exit 0))) (.seq (.block 1 (.z r_Z46_4)) (.z r_Z46_5)))))) (.seq (.z r_Z46_6) .ret)))
theorem c_Z46 : cfun Tryz.prog [] 52 = some (26, dc_Z46, [(Res.tmp 4)]) := by kernel_rfl
end
end Go.Proofs.YtibknjpbbeackaaGreat
namespace Go.Proofs.YtibknjpbbeackaaGreat
open Go.RowKit
noncomputable section
def r_Z19_0 : List GI := [gi 2 (.box 2 2000002 (.t 0) (some 5)), gi 4 (.alloc 4 2000004 [I 0, .nul])]
def r_Z19_1 : List GI := [gi 5 (.mov 5 (.k .nul))]
def r_Z19_2 : List GI := [gf 8 2 4, gl 9 8, gn 10 9, gk 11 0]
def r_Z19_3 : List GI := [gb 12 .lss 11 10]
def r_Z19_4 : List GI := [ga 13 9 11 5, gs 14 13 5, gi 7 (.alloc 7 2000007 [I 0, I 0, .nul, .nul, .nul]), g0 (.sto 7 (.t 14) (some 5))]
def r_Z19_5 : List GI := [gt 15 5, gs 16 7 5, gt 17 1, gc 18 32 [.t 16, .t 17], gi 19 (.bsl 19 2 (some 2) [.agg [I 0, .nul]] [(0, .t 18)]), gi 20 (.app 20 2000020 (.t 15) (.t 19) 2 32), gt 5 20]
def r_Z19_6 : List GI := [gd 21 .add 11 1, gt 11 21]
def r_Z19_7 : List GI := [gt 22 1, gs 23 2 5, gt 24 5, ⟨.cal 25 (.t 22) [.t 23, .t 24], some 25, none, true⟩, g0 (.sto 4 (.t 25) (some 2))]
def dc_Z19 : DC := .seq (.z r_Z19_0) (.seq (.z r_Z19_1) (.seq (.seq (.z r_Z19_2) (.block 0 (.loop (.seq (.z r_Z19_3) (.seq (.cond (.t 12) .skip (.exit 0)) (.seq (.block 1 (.seq (.z r_Z19_4) (.z r_Z19_5))) (.z r_Z19_6))))))) (.seq (.z r_Z19_7) .ret)))
theorem c_Z19 : cfun Tryz.prog [] 32 = some (26, dc_Z19, [(Res.cell 4 (some 2))]) := by kernel_rfl
def r_Z134_0 : List GI := [gi 3 (.box 3 2000003 (.t 0) (some 5)), gi 6 (.alloc 6 2000006 [I 0, .nul])]
def r_Z134_1 : List GI := [gf 10 3 0, gl 11 10, gd 12 .eql 11 1]
def r_Z134_2 : List GI := [gt 13 2, gf 14 3 1, gl 15 14, ga 16 13 15 2, gs 17 16 2, g0 (.sto 6 (.t 17) (some 2))]
def r_Z134_3 : List GI := [gi 7 (.mov 7 (.k .nul))]
def r_Z134_4 : List GI := [gt 18 1, gn 19 18, gk 20 0]
def r_Z134_5 : List GI := [gb 21 .lss 20 19]
def r_Z134_6 : List GI := [ga 22 18 20 2, gs 23 22 2, gi 9 (.alloc 9 2000009 [I 0, .nul]), g0 (.sto 9 (.t 23) (some 2))]
def r_Z134_7 : List GI := [gt 24 7, gf 25 9 0, gl 26 25, gi 27 (.bsl 27 1 none [I 0] [(0, .t 26)]), gi 28 (.app 28 2000028 (.t 24) (.t 27) 1 8), gt 7 28]
def r_Z134_8 : List GI := [gd 29 .add 20 1, gt 20 29]
def r_Z134_9 : List GI := [gs 30 3 5, gt 31 7, gc 32 55 [.t 30, .t 31], gs 33 3 5, gt 34 1, gc 35 57 [.t 33, .t 34], gc 36 56 [.t 35], gi 37 (.build 37 [I 0, .nul] [(0, (none, .t 32)), (1, (none, .t 36))]), g0 (.sto 6 (.t 37) (some 2))]
def dc_Z134 : DC := .seq (.z r_Z134_0) (.seq (.seq (.z r_Z134_1) (.cond (.t 12) (.seq (.z r_Z134_2) .ret) .skip)) (.seq (.z r_Z134_3) (.seq (.seq (.z r_Z134_4) (.block 0 (.loop (.seq (.z r_Z134_5) (.seq (.cond (.t 21) .skip (.exit 0)) (.seq (.block 1 (.seq (.z r_Z134_6) (.z r_Z134_7))) (.z r_Z134_8))))))) (.seq (.reg r_Z134_9 (some [0, 0, 3, 0, 0, 31, 63, 127, 255])) .ret))))
theorem c_Z134 : cfun Tryz.prog [] 34 = some (38, dc_Z134, [(Res.cell 6 (some 2))]) := by kernel_rfl
def r_Z139_0 : List GI := [gi 6 (.alloc 6 2000006 [I 0, .nul])]
def r_Z139_1 : List GI := [gt 8 0, gt 9 1, gt 10 2, gc 11 82 [.t 8, .t 9, .t 10], gi 7 (.alloc 7 2000007 [I 0, .nul]), g0 (.sto 7 (.t 11) (some 2))]
def r_Z139_2 : List GI := [gt 12 0, gc 13 53 [.t 12, .k (I 20)]]
def r_Z139_3 : List GI := [gd 15 .eql 13 0, gt 14 15]
def r_Z139_4 : List GI := [gt 16 0, gi 17 (.bsl 17 1 none [I 0, I 0, I 0] [(0, .k (I 0)), (1, .k (I 7)), (2, .k (I 2))]), gc 18 80 [.t 16, .t 17], gf 19 7 0, g0 (.sto 19 (.t 18) none)]
def r_Z139_5 : List GI := [gd 21 .eql 13 1, gt 20 21]
def r_Z139_6 : List GI := [gf 22 7 1, gl 23 22, gn 24 23, gd 25 .gtr 24 0]
def r_Z139_7 : List GI := [gf 26 7 1, gl 27 26, gf 28 7 1, gl 29 28, gi 30 (.iad 30 29 (.k (I 0)) 1), gl 31 30, gc 32 83 [.t 31], gi 33 (.bsl 33 1 none [.nul] [(0, .t 32)]), gi 34 (.app 34 2000034 (.t 27) (.t 33) 1 24), gf 35 7 1, g0 (.sto 35 (.t 34) none)]
def r_Z139_8 : List GI := [gd 37 .eql 13 2, gt 36 37]
def r_Z139_9 : List GI := [gf 38 7 1, gl 39 38, gn 40 39, gd 41 .gtr 40 0]
def r_Z139_10 : List GI := [gf 42 7 1, gl 43 42, gt 44 0, gt 45 1, gc 46 84 [.t 44, .t 45], gi 47 (.iad 47 43 (.k (I 0)) 1), g0 (.sto 47 (.t 46) none)]
def r_Z139_11 : List GI := [gs 48 7 2, g0 (.sto 6 (.t 48) (some 2))]
def dc_Z139 : DC := .seq (.z r_Z139_0) (.seq (.z r_Z139_1) (.seq (.seq (.z r_Z139_2) (.block 0 (.seq (.z r_Z139_3) (.cond (.t 14) (.z r_Z139_4) (.seq (.z r_Z139_5) (.cond (.t 20) (.seq (.z r_Z139_6) (.cond (.t 25) (.reg r_Z139_7 (some [0, 1, 0, 4, 12, 28, 60, 124, 255, 511, 1023])) .skip)) (.seq (.z r_Z139_8) (.cond (.t 36) (.seq (.z r_Z139_9) (.cond (.t 41) (.reg r_Z139_10 (some [0, 1, 0, 0, 12, 31, 63])) .skip)) .skip)))))))) (.seq (.z r_Z139_11) .ret)))
theorem c_Z139 : cfun Tryz.prog [] 54 = some (49, dc_Z139, [(Res.cell 6 (some 2))]) := by kernel_rfl
def r_Z91_0 : List GI := [gi 6 (.alloc 6 2000006 [I 0, .nul])]
def r_Z91_1 : List GI := [gi 9 (.mov 9 (.k .nul)), gt 7 9]
def r_Z91_2 : List GI := [gt 10 0, gt 11 2, gd 12 .add 11 1, gc 13 53 [.t 10, .t 12], gt 8 13]
def r_Z91_3 : List GI := [gt 14 8, gd 15 .gtr 14 0]
def r_Z91_4 : List GI := [gt 18 7, gt 19 0, gt 20 1, gc 21 128 [.t 19, .t 20], gi 22 (.bsl 22 1 none [.nul] [(0, .t 21)]), gi 23 (.app 23 2000023 (.t 18) (.t 22) 1 24), gt 7 23]
def r_Z91_5 : List GI := [gt 16 8, gd 17 .sub 16 1, gt 8 17]
def r_Z91_6 : List GI := [gt 24 1, gt 25 7, gc 26 63 [.t 24, .t 25], g0 (.sto 6 (.t 26) (some 2))]
def dc_Z91 : DC := .seq (.z r_Z91_0) (.seq (.z r_Z91_1) (.seq (.seq (.z r_Z91_2) (.block 0 (.loop (.seq (.seq (.z r_Z91_3) (.cond (.t 15) .skip (.exit 0))) (.seq (.block 1 (.z r_Z91_4)) (.z r_Z91_5)))))) (.seq (.z r_Z91_6) .ret)))
theorem c_Z91 : cfun Tryz.prog [] 82 = some (27, dc_Z91, [(Res.cell 6 (some 2))]) := by kernel_rfl
def r_Z51_0 : List GI := [gi 2 (.box 2 2000002 (.t 0) (some 2)), gi 3 (.box 3 2000003 (.t 1) (some 2)), gi 4 (.mov 4 (.k (.v (.bool false))))]
def r_Z51_1 : List GI := [gs 5 2 2, gc 6 26 [.t 5], gt 7 6, ⟨.lod 8 3 (some 2), some 8, some (7, true), false⟩, ⟨.call 9 26 [.t 8], some 9, some (7, true), true⟩, gi 10 (.pick 10 (.t 7) (.t 9) (.k (.v (.bool false)))), gt 11 10, ⟨.fad 12 2 0, some 12, some (11, true), false⟩, ⟨.lod 13 12 none, some 13, some (11, true), false⟩, ⟨.fad 14 3 0, some 14, some (11, true), false⟩, ⟨.lod 15 14 none, some 15, some (11, true), false⟩, ⟨.bin 16 .eql (.t 13) (.t 15), some 16, some (11, true), false⟩, gi 17 (.pick 17 (.t 11) (.t 16) (.k (.v (.bool false)))), gt 4 17]
def dc_Z51 : DC := .seq (.z r_Z51_0) (.seq (.z r_Z51_1) .ret)
theorem c_Z51 : cfun Tryz.prog [] 43 = some (18, dc_Z51, [(Res.tmp 4)]) := by kernel_rfl
def r_Z137_0 : List GI := [gi 2 (.box 2 2000002 (.t 0) (some 5)), gi 4 (.alloc 4 2000004 [I 0, .nul]), gi 5 (.mov 5 (.k (.v (.bool false))))]
def r_Z137_1 : List GI := [gs 6 2 5, gt 7 1, gc 8 38 [.t 7], gc 9 37 [.t 6, .t 8], gd 10 .eql 9 0]
def r_Z137_2 : List GI := [gi 11 (.build 11 [I 0, .nul] []), g0 (.sto 4 (.t 11) (some 2)), gi 5 (.mov 5 (.k (.v (.bool false))))]
def r_Z137_3 : List GI := [gs 12 2 5, gt 13 1, gc 14 39 [.t 12, .t 13], g0 (.sto 4 (.t 14) (some 2)), gi 5 (.mov 5 (.k (.v (.bool true))))]
def dc_Z137 : DC := .seq (.z r_Z137_0) (.seq (.seq (.reg r_Z137_1 (some [0, 0, 2, 7, 15])) (.cond (.t 10) (.seq (.z r_Z137_2) .ret) .skip)) (.seq (.z r_Z137_3) .ret))
theorem c_Z137 : cfun Tryz.prog [] 17 = some (15, dc_Z137, [(Res.cell 4 (some 2)), (Res.tmp 5)]) := by kernel_rfl
def r_Z151_0 : List GI := [gi 2 (.mov 2 (.k .nul))]
def r_Z151_1 : List GI := [gi 5 (.mov 5 (.k .nul)), gt 3 5]
def r_Z151_2 : List GI := [gk 4 0]
def r_Z151_3 : List GI := [gt 6 4, gt 7 0, gn 8 7, gb 9 .lss 6 8]
def r_Z151_4 : List GI := [gt 12 0, gt 13 4, ga 14 12 13 2, gs 15 14 2, gc 16 62 [.t 15], gi 17 (.un 17 UnOp.not (.t 16))]
def r_Z151_5 : List GI := [gi 18 (.mov 18 (.k .nul)), gt 2 18]
def r_Z151_6 : List GI := [gt 19 3, gt 20 0, gt 21 4, ga 22 20 21 2, gf 23 22 0, gl 24 23, gi 25 (.bsl 25 1 none [I 0] [(0, .t 24)]), gi 26 (.app 26 2000026 (.t 19) (.t 25) 1 8), gt 3 26]
def r_Z151_7 : List GI := [gt 10 4, gd 11 .add 10 1, gt 4 11]
def r_Z151_8 : List GI := [gt 27 3, gt 2 27]
def dc_Z151 : DC := .seq (.z r_Z151_0) (.seq (.z r_Z151_1) (.seq (.seq (.z r_Z151_2) (.block 0 (.loop (.seq (.seq (.z r_Z151_3) (.cond (.t 9) .skip (.exit 0))) (.seq (.block 1 (.seq (.seq (.z r_Z151_4) (.cond (.t 17) (.seq (.z r_Z151_5) .ret) .skip)) (.z r_Z151_6))) (.z r_Z151_7)))))) (.seq (.z r_Z151_8) .ret)))
theorem c_Z151 : cfun Tryz.prog [] 38 = some (28, dc_Z151, [(Res.tmp 2)]) := by kernel_rfl
def r_Z129_0 : List GI := [gi 2 (.box 2 2000002 (.t 0) (some 5)), gi 3 (.box 3 2000003 (.t 1) none), gi 4 (.alloc 4 2000004 [I 0, .nul]), gi 5 (.mov 5 (.k (.v (.bool false))))]
def r_Z129_1 : List GI := [gs 7 2 5, gl 8 3, gc 9 31 [.t 8], gc 10 27 [.t 7, .t 9], gd 11 .eql 10 0]
def r_Z129_2 : List GI := [gi 12 (.build 12 [I 0, .nul] []), g0 (.sto 4 (.t 12) (some 2)), gi 5 (.mov 5 (.k (.v (.bool false))))]
def r_Z129_3 : List GI := [gs 13 2 5, gi 14 (.mkf 14 33 [.t 3]), gc 15 32 [.t 13, .t 14], gi 6 (.alloc 6 2000006 [I 0, .nul]), g0 (.sto 6 (.t 15) (some 2))]
def r_Z129_4 : List GI := [gf 16 6 0, gl 17 16, gf 18 6 1, gl 19 18, gc 20 36 [.t 19], gc 21 35 [.t 17, .t 20], g0 (.sto 4 (.t 21) (some 2)), gi 5 (.mov 5 (.k (.v (.bool true))))]
def dc_Z129 : DC := .seq (.z r_Z129_0) (.seq (.seq (.reg r_Z129_1 (some [0, 0, 2, 7, 15])) (.cond (.t 11) (.seq (.z r_Z129_2) .ret) .skip)) (.seq (.z r_Z129_3) (.seq (.reg r_Z129_4 (some [0, 1, 0, 4, 12, 31, 63, 127])) .ret)))
theorem c_Z129 : cfun Tryz.prog [] 16 = some (22, dc_Z129, [(Res.cell 4 (some 2)), (Res.tmp 5)]) := by kernel_rfl
def r_Z81_0 : List GI := [gi 2 (.mov 2 (.k .nul))]
def r_Z81_1 : List GI := [gi 3 (.mov 3 (.k .nul))]
def r_Z81_2 : List GI := [gt 6 0, gn 7 6, gk 8 0]
def r_Z81_3 : List GI := [gb 9 .lss 8 7]
def r_Z81_4 : List GI := [ga 10 6 8 2, gs 11 10 2, gi 5 (.alloc 5 2000005 [I 0, .nul]), g0 (.sto 5 (.t 11) (some 2))]
def r_Z81_5 : List GI := [gs 12 5 2, gc 13 26 [.t 12], gi 14 (.un 14 UnOp.not (.t 13))]
def r_Z81_6 : List GI := [gi 2 (.mov 2 (.k .nul))]
def r_Z81_7 : List GI := [gt 15 3, gf 16 5 0, gl 17 16, gi 18 (.bsl 18 1 none [I 0] [(0, .t 17)]), gi 19 (.app 19 2000019 (.t 15) (.t 18) 1 8), gt 3 19]
def r_Z81_8 : List GI := [gd 20 .add 8 1, gt 8 20]
def r_Z81_9 : List GI := [gt 21 3, gt 2 21]
def dc_Z81 : DC := .seq (.z r_Z81_0) (.seq (.z r_Z81_1) (.seq (.seq (.z r_Z81_2) (.block 0 (.loop (.seq (.z r_Z81_3) (.seq (.cond (.t 9) .skip (.exit 0)) (.seq (.block 1 (.seq (.z r_Z81_4) (.seq (.seq (.z r_Z81_5) (.cond (.t 14) (.seq (.z r_Z81_6) .ret) .skip)) (.z r_Z81_7)))) (.z r_Z81_8))))))) (.seq (.z r_Z81_9) .ret)))
theorem c_Z81 : cfun Tryz.prog [] 31 = some (22, dc_Z81, [(Res.tmp 2)]) := by kernel_rfl
def r_Z155_0 : List GI := [gi 4 (.alloc 4 2000004 [I 0, I 0, .v (.bool false), I 0, .nul])]
def r_Z155_1 : List GI := [gt 6 0, gt 7 1, gc 8 126 [.t 6, .t 7, .k (I 3)], gi 5 (.alloc 5 2000005 [I 0, I 0, .v (.bool false), I 0, .nul]), g0 (.sto 5 (.t 8) (some 5))]
def r_Z155_2 : List GI := [gt 9 0, gc 10 53 [.t 9, .k (I 18)]]
def r_Z155_3 : List GI := [gd 12 .eql 10 0, gt 11 12]
def r_Z155_4 : List GI := [gt 13 0, gi 14 (.bsl 14 1 none [I 0, I 0, I 0, I 0] [(0, .k (I 0)), (1, .k (I 12)), (2, .k (I 3)), (3, .k (I 10))]), gc 15 80 [.t 13, .t 14], gf 16 5 0, g0 (.sto 16 (.t 15) none)]
def r_Z155_5 : List GI := [gd 18 .eql 10 1, gt 17 18]
def r_Z155_6 : List GI := [gt 19 0, gt 20 1, gi 21 (.bsl 21 1 none [I 0, I 0, I 0] [(0, .k (.v (.int .i64 (-1)))), (1, .k (I 6)), (2, .t 20)]), gc 22 80 [.t 19, .t 21], gf 23 5 1, g0 (.sto 23 (.t 22) none)]
def r_Z155_7 : List GI := [gd 25 .eql 10 2, gt 24 25]
def r_Z155_8 : List GI := [gt 26 0, gc 27 127 [.t 26], gf 28 5 2, g0 (.sto 28 (.t 27) (some 2))]
def r_Z155_9 : List GI := [gs 29 5 5, g0 (.sto 4 (.t 29) (some 5))]
def dc_Z155 : DC := .seq (.z r_Z155_0) (.seq (.z r_Z155_1) (.seq (.seq (.z r_Z155_2) (.block 0 (.seq (.z r_Z155_3) (.cond (.t 11) (.z r_Z155_4) (.seq (.z r_Z155_5) (.cond (.t 17) (.z r_Z155_6) (.seq (.z r_Z155_7) (.cond (.t 24) (.z r_Z155_8) .skip)))))))) (.seq (.z r_Z155_9) .ret)))
theorem c_Z155 : cfun Tryz.prog [] 81 = some (30, dc_Z155, [(Res.cell 4 (some 5))]) := by kernel_rfl
def r_Z141_0 : List GI := [gi 1 (.box 1 2000001 (.t 0) (some 2)), gi 2 (.alloc 2 2000002 [I 0, I 0, .v (.bool false), I 0, .nul])]
def r_Z141_1 : List GI := [gs 3 1 2, gi 4 (.build 4 [I 0, I 0, .v (.bool false), I 0, .nul] [(0, (none, .k (I 2))), (2, (some 2, .t 3))]), g0 (.sto 2 (.t 4) (some 5))]
def dc_Z141 : DC := .seq (.z r_Z141_0) (.seq (.z r_Z141_1) .ret)
theorem c_Z141 : cfun Tryz.prog [] 168 = some (5, dc_Z141, [(Res.cell 2 (some 5))]) := by kernel_rfl
def r_Z106_0 : List GI := [gi 6 (.alloc 6 2000006 [I 0, I 0, .v (.bool false), I 0, .nul])]
def r_Z106_1 : List GI := [gt 11 0, gc 12 53 [.t 11, .k (I 13)], gt 7 12]
def r_Z106_2 : List GI := [gt 13 2, gd 14 .eql 13 0, gt 15 14, ⟨.mov 16 (.t 7), some 16, some (15, false), false⟩, ⟨.bin 17 .gtr (.t 16) (.k (I 10)), some 17, some (15, false), false⟩, gi 18 (.pick 18 (.t 15) (.k (.v (.bool true))) (.t 17))]
def r_Z106_3 : List GI := [gt 19 0, gc 20 53 [.t 19, .k (I 3)], gd 21 .gtr 20 0]
def r_Z106_4 : List GI := [gt 22 0, gt 23 1, gc 24 53 [.t 22, .t 23], gi 25 (.build 25 [I 0, I 0, .v (.bool false), I 0, .nul] [(0, (none, .k (I 1))), (1, (none, .t 24))]), g0 (.sto 6 (.t 25) (some 5))]
def r_Z106_5 : List GI := [gt 26 0, gc 27 169 [.t 26], gc 28 168 [.t 27], g0 (.sto 6 (.t 28) (some 5))]
def r_Z106_6 : List GI := [gt 29 7, gd 30 .rem 29 9, gi 31 (.bin 31 .add (.k (I 3)) (.t 30)), gt 8 31]
def r_Z106_7 : List GI := [gt 32 8, gi 33 (.build 33 [I 0, I 0, .v (.bool false), I 0, .nul] [(0, (none, .t 32))]), gi 9 (.alloc 9 2000009 [I 0, I 0, .v (.bool false), I 0, .nul]), g0 (.sto 9 (.t 33) (some 5))]
def r_Z106_8 : List GI := [gk 10 0]
def r_Z106_9 : List GI := [gt 34 10, gt 35 8, gc 36 170 [.t 35], gb 37 .lss 34 36]
def r_Z106_10 : List GI := [gf 40 9 4, gl 41 40, gt 42 0, gt 43 1, gt 44 2, gd 45 .sub 44 1, gc 46 126 [.t 42, .t 43, .t 45], gi 47 (.bsl 47 5 (some 5) [.agg [I 0, I 0, .v (.bool false), I 0, .nul]] [(0, .t 46)]), gi 48 (.app 48 2000048 (.t 41) (.t 47) 5 56), gf 49 9 4, g0 (.sto 49 (.t 48) none)]
def r_Z106_11 : List GI := [gt 38 10, gd 39 .add 38 1, gt 10 39]
def r_Z106_12 : List GI := [gs 50 9 5, g0 (.sto 6 (.t 50) (some 5))]
def dc_Z106 : DC := .seq (.z r_Z106_0) (.seq (.z r_Z106_1) (.seq (.seq (.z r_Z106_2) (.cond (.t 18) (.seq (.seq (.z r_Z106_3) (.cond (.t 21) (.seq (.z r_Z106_4) .ret) .skip)) (.seq (.z r_Z106_5) .ret)) .skip)) (.seq (.z r_Z106_6) (.seq (.z r_Z106_7) (.seq (.seq (.z r_Z106_8) (.block 0 (.loop (.seq (.seq (.z r_Z106_9) (.cond (.t 37) .skip (.exit 0))) (.seq (.block 1 (.reg r_Z106_10 (some [0, 1, 0, 0, 0, 16, 60, 124, 255, 511, 1023]))) (.z r_Z106_11)))))) (.seq (.z r_Z106_12) .ret))))))
theorem c_Z106 : cfun Tryz.prog [] 126 = some (51, dc_Z106, [(Res.cell 6 (some 5))]) := by kernel_rfl
def r_Z142_0 : List GI := [gi 1 (.box 1 2000001 (.t 0) (some 5)), gi 2 (.alloc 2 2000002 [I 0, I 0, .v (.bool false), I 0, .nul])]
def r_Z142_1 : List GI := [gf 5 1 0, gl 6 5, gf 7 1 1, gl 8 7, gf 9 1 2, gs 10 9 2, gi 11 (.build 11 [I 0, I 0, .v (.bool false), I 0, .nul] [(0, (none, .t 6)), (1, (none, .t 8)), (2, (some 2, .t 10))]), gi 3 (.alloc 3 2000003 [I 0, I 0, .v (.bool false), I 0, .nul]), g0 (.sto 3 (.t 11) (some 5))]
def r_Z142_2 : List GI := [gk 4 0]
def r_Z142_3 : List GI := [gt 12 4, gf 13 1 4, gl 14 13, gn 15 14, gb 16 .lss 12 15]
def r_Z142_4 : List GI := [gf 19 3 4, gl 20 19, gf 21 1 4, gl 22 21, gt 23 4, ga 24 22 23 5, gs 25 24 5, gc 26 183 [.t 25], gi 27 (.bsl 27 5 (some 5) [.agg [I 0, I 0, .v (.bool false), I 0, .nul]] [(0, .t 26)]), gi 28 (.app 28 2000028 (.t 20) (.t 27) 5 56), gf 29 3 4, g0 (.sto 29 (.t 28) none)]
def r_Z142_5 : List GI := [gt 17 4, gd 18 .add 17 1, gt 4 18]
def r_Z142_6 : List GI := [gs 30 3 5, g0 (.sto 2 (.t 30) (some 5))]
def dc_Z142 : DC := .seq (.z r_Z142_0) (.seq (.z r_Z142_1) (.seq (.seq (.z r_Z142_2) (.block 0 (.loop (.seq (.seq (.z r_Z142_3) (.cond (.t 16) .skip (.exit 0))) (.seq (.block 1 (.reg r_Z142_4 (some [0, 1, 0, 4, 0, 28, 60, 124, 252, 511, 1023, 2047]))) (.z r_Z142_5)))))) (.seq (.z r_Z142_6) .ret)))
theorem c_Z142 : cfun Tryz.prog [] 183 = some (31, dc_Z142, [(Res.cell 2 (some 5))]) := by kernel_rfl
def r_Z143_0 : List GI := [gi 1 (.box 1 2000001 (.t 0) (some 5)), gi 2 (.alloc 2 2000002 [I 0, I 0, .nul, .nul, .nul])]
def r_Z143_1 : List GI := [gf 6 1 0, gl 7 6, gf 8 1 1, gl 9 8, gi 10 (.mov 10 (.k .nul)), gf 11 1 3, gl 12 11, gi 13 (.app 13 2000013 (.t 10) (.t 12) 1 8), gi 14 (.build 14 [I 0, I 0, .nul, .nul, .nul] [(0, (none, .t 7)), (1, (none, .t 9)), (3, (none, .t 13))]), gi 3 (.alloc 3 2000003 [I 0, I 0, .nul, .nul, .nul]), g0 (.sto 3 (.t 14) (some 5))]
def r_Z143_2 : List GI := [gk 4 0]
def r_Z143_3 : List GI := [gt 15 4, gf 16 1 2, gl 17 16, gn 18 17, gb 19 .lss 15 18]
def r_Z143_4 : List GI := [gf 22 3 2, gl 23 22, gf 24 1 2, gl 25 24, gt 26 4, ga 27 25 26 5, gs 28 27 5, gc 29 183 [.t 28], gi 30 (.bsl 30 5 (some 5) [.agg [I 0, I 0, .v (.bool false), I 0, .nul]] [(0, .t 29)]), gi 31 (.app 31 2000031 (.t 23) (.t 30) 5 56), gf 32 3 2, g0 (.sto 32 (.t 31) none)]
def r_Z143_5 : List GI := [gt 20 4, gd 21 .add 20 1, gt 4 21]
def r_Z143_6 : List GI := [gk 5 0]
def r_Z143_7 : List GI := [gt 33 5, gf 34 1 4, gl 35 34, gn 36 35, gb 37 .lss 33 36]
def r_Z143_8 : List GI := [gf 40 3 4, gl 41 40, gf 42 1 4, gl 43 42, gt 44 5, ga 45 43 44 5, gs 46 45 5, gc 47 166 [.t 46], gi 48 (.bsl 48 5 (some 5) [.agg [I 0, I 0, .nul, .nul, .nul]] [(0, .t 47)]), gi 49 (.app 49 2000049 (.t 41) (.t 48) 5 88), gf 50 3 4, g0 (.sto 50 (.t 49) none)]
def r_Z143_9 : List GI := [gt 38 5, gd 39 .add 38 1, gt 5 39]
def r_Z143_10 : List GI := [gs 51 3 5, g0 (.sto 2 (.t 51) (some 5))]
def dc_Z143 : DC := .seq (.z r_Z143_0) (.seq (.reg r_Z143_1 (some [0, 1, 0, 4, 0, 0, 32, 112, 255, 0, 1023])) (.seq (.seq (.z r_Z143_2) (.block 0 (.loop (.seq (.seq (.z r_Z143_3) (.cond (.t 19) .skip (.exit 0))) (.seq (.block 1 (.reg r_Z143_4 (some [0, 1, 0, 4, 0, 28, 60, 124, 252, 511, 1023, 2047]))) (.z r_Z143_5)))))) (.seq (.seq (.z r_Z143_6) (.block 2 (.loop (.seq (.seq (.z r_Z143_7) (.cond (.t 37) .skip (.exit 2))) (.seq (.block 3 (.reg r_Z143_8 (some [0, 1, 0, 4, 0, 28, 60, 124, 252, 511, 1023, 2047]))) (.z r_Z143_9)))))) (.seq (.z r_Z143_10) .ret))))
theorem c_Z143 : cfun Tryz.prog [] 166 = some (52, dc_Z143, [(Res.cell 2 (some 5))]) := by kernel_rfl
def r_Z146_0 : List GI := [gi 2 (.box 2 2000002 (.t 0) (some 5)), gi 3 (.box 3 2000003 (.t 1) (some 5)), gi 4 (.alloc 4 2000004 [I 0, I 0, .nul, .nul, .nul])]
def r_Z146_1 : List GI := [gs 5 2 5, gi 6 (.bsl 6 5 (some 5) [.agg [I 0, I 0, .v (.bool false), I 0, .nul]] [(0, .t 5)]), gs 7 3 5, gi 8 (.bsl 8 5 (some 5) [.agg [I 0, I 0, .nul, .nul, .nul]] [(0, .t 7)]), gi 9 (.build 9 [I 0, I 0, .nul, .nul, .nul] [(0, (none, .k (I 2))), (2, (none, .t 6)), (4, (none, .t 8))]), g0 (.sto 4 (.t 9) (some 5))]
def dc_Z146 : DC := .seq (.z r_Z146_0) (.seq (.z r_Z146_1) .ret)
theorem c_Z146 : cfun Tryz.prog [] 124 = some (10, dc_Z146, [(Res.cell 4 (some 5))]) := by kernel_rfl
end
end Go.Proofs.YtibknjpbbeackaaGreat
