/-
  Functions of the program read as code on plain data. Closed facts of the program alone.
-/
import Derived.KernelRfl
import Derived.Test.YtlcmchjeakhajaaGreatRows
import Derived.Test.YtlcmchjeakhajaaGreatJSVGo
import Derived.Test.YtlcmchjeakhajaaGreatJSVTbD
namespace Go.Proofs.YtlcmchjeakhajaaGreat
open Go.RowKit
noncomputable section
theorem mixed : Tryz.prog.follows .mixedOrders = true := by kernel_rfl
def r_Z1_0 : List GI := [gi 2 (.box 2 2000002 (.t 0) none), gi 4 (.mov 4 (.k .nul))]
def r_Z1_1 : List GI := [gt 6 1]
def r_Z1_2 : List GI := [gt 5 7]
def r_Z1_3 : List GI := [gl 8 2, gt 9 5, gi 10 (.bsl 10 1 none [.nul] [(0, .t 9)]), gi 11 (.app 11 2000011 (.t 8) (.t 10) 1 24), g0 (.sto 2 (.t 11) none)]
def r_Z1_4 : List GI := [gl 12 2, gt 4 12]
def dc_Z1 : DC := .seq (.z r_Z1_0) (.seq (.seq (.z r_Z1_1) (.block 0 (.rng (.t 6) [7] (.z r_Z1_2) (.block 1 (.z r_Z1_3))))) (.seq (.z r_Z1_4) .ret))
theorem c_Z1 : cfun Tryz.prog [] 167 = some (13, dc_Z1, [(Res.tmp 4)]) := by kernel_rfl
def r_Z15_0 : List GI := [gi 2 (.mov 2 (.k .nul))]
def r_Z15_1 : List GI := [gt 3 0, gc 4 167 [.k .nul, .t 3], gt 2 4]
def dc_Z15 : DC := .seq (.z r_Z15_0) (.seq (.z r_Z15_1) .ret)
theorem c_Z15 : cfun Tryz.prog [] 163 = some (5, dc_Z15, [(Res.tmp 2)]) := by kernel_rfl
def r_Z4_0 : List GI := [gi 1 (.box 1 2000001 (.t 0) none), gi 2 (.mov 2 (.k (.v .nilFunc)))]
def r_Z4_1 : List GI := [gi 3 (.mkf 3 108 [.t 1]), gt 2 3]
def dc_Z4 : DC := .seq (.z r_Z4_0) (.seq (.z r_Z4_1) .ret)
theorem c_Z4 : cfun Tryz.prog [] 68 = some (4, dc_Z4, [(Res.tmp 2)]) := by kernel_rfl
def r_Z2_0 : List GI := [gl 5 1, gn 6 5, gk 7 0]
def r_Z2_1 : List GI := [gb 8 .lss 7 6]
def r_Z2_2 : List GI := [ga 9 5 7 1, gl 10 9, gt 4 10]
def r_Z2_3 : List GI := [gt 11 0, gt 12 4, ⟨.cal 13 (.t 11) [.t 12], some 13, none, true⟩, gi 14 (.un 14 UnOp.not (.t 13))]
def r_Z2_4 : List GI := [gd 15 .add 7 1, gt 7 15]
def dc_Z2 : DC := .seq (.z r_Z2_0) (.block 0 (.loop (.seq (.z r_Z2_1) (.seq (.cond (.t 8) .skip (.exit 0)) (.seq (.block 1 (.seq (.z r_Z2_2) (.seq (.z r_Z2_3) (.cond (.t 14) .ret .skip)))) (.z r_Z2_4))))))
theorem c_Z2 : cfun Tryz.prog [] 108 = some (16, dc_Z2, []) := by kernel_rfl
def r_Z72_0 : List GI := [gi 2 (.mov 2 (.k .nul))]
def r_Z72_1 : List GI := [gt 3 0, gc 4 61 [.t 3], gc 5 60 [.t 4], gt 2 5]
def dc_Z72 : DC := .seq (.z r_Z72_0) (.seq (.z r_Z72_1) .ret)
theorem c_Z72 : cfun Tryz.prog [] 32 = some (6, dc_Z72, [(Res.tmp 2)]) := by kernel_rfl
def r_Z109_0 : List GI := [gi 2 (.mov 2 (.k .nul))]
def r_Z109_1 : List GI := [gi 3 (.alloc 3 2000003 [.nul])]
def r_Z109_2 : List GI := [gt 5 0]
def r_Z109_3 : List GI := [gt 4 6]
def r_Z109_4 : List GI := [gl 7 3, gt 8 4, gi 9 (.bsl 9 1 none [.nul] [(0, .t 8)]), gi 10 (.app 10 2000010 (.t 7) (.t 9) 1 24), g0 (.sto 3 (.t 10) none)]
def r_Z109_5 : List GI := [gl 11 3, gn 12 11, gd 13 .gtr 12 400]
def r_Z109_6 : List GI := [gl 14 3, gt 2 14]
def dc_Z109 : DC := .seq (.z r_Z109_0) (.seq (.z r_Z109_1) (.seq (.seq (.z r_Z109_2) (.block 0 (.rng (.t 5) [6] (.z r_Z109_3) (.block 1 (.seq (.z r_Z109_4) (.seq (.z r_Z109_5) (.cond (.t 13) (.exit 0) .skip))))))) (.seq (.z r_Z109_6) .ret)))
theorem c_Z109 : cfun Tryz.prog [] 61 = some (15, dc_Z109, [(Res.tmp 2)]) := by kernel_rfl
def r_Z94_0 : List GI := [gi 2 (.mov 2 (.k .nul))]
def r_Z94_1 : List GI := [gt 3 0, gn 4 3, gd 5 .gtr 4 400]
def r_Z94_2 : List GI := [gi 2 (.mov 2 (.k .nul))]
def r_Z94_3 : List GI := [gt 6 0, gt 2 6]
def dc_Z94 : DC := .seq (.z r_Z94_0) (.seq (.seq (.z r_Z94_1) (.cond (.t 5) (.seq (.z r_Z94_2) .ret) .skip)) (.seq (.z r_Z94_3) .ret))
theorem c_Z94 : cfun Tryz.prog [] 60 = some (7, dc_Z94, [(Res.tmp 2)]) := by kernel_rfl
def r_Z119_0 : List GI := [gi 2 (.mov 2 (.k (.v (.pointer none))))]
def r_Z119_1 : List GI := [gt 3 0, gn 4 3, gd 5 .gtr 4 2000]
def r_Z119_2 : List GI := [gt 6 0, gi 7 (.slc 7 (.t 6) none (some (.k (I 2000))) 1), gt 0 7]
def r_Z119_3 : List GI := [gt 8 0, gi 9 (.build 9 [.nul, I 0] [(0, (none, .t 8))]), gi 10 (.box 10 2000010 (.t 9) (some 2)), gt 2 10]
def dc_Z119 : DC := .seq (.z r_Z119_0) (.seq (.seq (.z r_Z119_1) (.cond (.t 5) (.z r_Z119_2) .skip)) (.seq (.z r_Z119_3) .ret))
theorem c_Z119 : cfun Tryz.prog [] 11 = some (11, dc_Z119, [(Res.tmp 2)]) := by kernel_rfl
def r_Z86_0 : List GI := [gk 4 0]
def r_Z86_1 : List GI := [gt 5 1, gt 6 0, gt 7 1, gn 8 7, gc 9 26 [.t 6, .t 8], ga 10 5 9 1, gl 11 10, gt 4 11]
def dc_Z86 : DC := .seq (.z r_Z86_0) (.seq (.z r_Z86_1) .ret)
theorem c_Z86 : cfun Tryz.prog [] 49 = some (12, dc_Z86, [(Res.tmp 4)]) := by kernel_rfl
def r_Z65_0 : List GI := [gk 4 0]
def r_Z65_1 : List GI := [gt 7 0, gt 8 0, gi 9 (.nilc 9 8), gf 10 9 1, gl 11 10, gd 12 .add 11 1, gi 13 (.nilc 13 7), gf 14 13 1, g0 (.sto 14 (.t 12) none)]
def r_Z65_2 : List GI := [gt 15 1, gd 16 .lss 15 1, gt 17 16, ⟨.mov 18 (.t 0), some 18, some (17, false), false⟩, ⟨.nilc 19 18, some 19, some (17, false), false⟩, ⟨.fad 20 19 0, some 20, some (17, false), false⟩, ⟨.lod 21 20 none, some 21, some (17, false), false⟩, ⟨.len 22 (.t 21), some 22, some (17, false), false⟩, ⟨.bin 23 .eql (.t 22) (.k (I 0)), some 23, some (17, false), false⟩, gi 24 (.pick 24 (.t 17) (.k (.v (.bool true))) (.t 23))]
def r_Z65_3 : List GI := [gk 4 0]
def r_Z65_4 : List GI := [gt 25 0, gi 26 (.nilc 26 25), gf 27 26 1, gl 28 27, gd 29 .sub 28 1, gt 5 29]
def r_Z65_5 : List GI := [gt 30 5, gt 31 0, gi 32 (.nilc 32 31), gf 33 32 0, gl 34 33, gn 35 34, gb 36 .lss 30 35]
def r_Z65_6 : List GI := [gt 37 0, gi 38 (.nilc 38 37), gf 39 38 0, gl 40 39, gt 41 5, ga 42 40 41 1, gl 43 42, gi 44 (.cvt 44 .i64 (.t 43)), gt 45 1, gb 46 .rem 44 45, gt 4 46]
def r_Z65_7 : List GI := [gt 47 0, gi 48 (.nilc 48 47), gf 49 48 0, gl 50 49, gt 51 5, gt 52 0, gi 53 (.nilc 53 52), gf 54 53 0, gl 55 54, gn 56 55, gb 57 .rem 51 56, ga 58 50 57 1, gl 59 58, gi 60 (.cvt 60 .i64 (.t 59)), gd 61 .mul 60 131, gt 62 0, gi 63 (.nilc 63 62), gf 64 63 0, gl 65 64, gt 66 5, gd 67 .mul 66 7, gd 68 .add 67 3, gt 69 0, gi 70 (.nilc 70 69), gf 71 70 0, gl 72 71, gn 73 72, gb 74 .rem 68 73, ga 75 65 74 1, gl 76 75, gi 77 (.cvt 77 .i64 (.t 76)), gd 78 .mul 77 1117, gb 79 .add 61 78, gt 80 5, gd 81 .mul 80 29, gb 82 .add 79 81, gt 83 5, gt 84 0, gi 85 (.nilc 85 84), gf 86 85 0, gl 87 86, gn 88 87, gb 89 .quo 83 88, gd 90 .mul 89 53, gb 91 .add 82 90, gt 6 91]
def r_Z65_8 : List GI := [gt 92 6, gt 93 6, gd 94 .quo 93 64, gb 95 .xor 92 94, gt 6 95]
def r_Z65_9 : List GI := [gt 96 6, gt 97 1, gb 98 .rem 96 97, gt 4 98]
def dc_Z65 : DC := .seq (.z r_Z65_0) (.seq (.z r_Z65_1) (.seq (.seq (.z r_Z65_2) (.cond (.t 24) (.seq (.z r_Z65_3) .ret) .skip)) (.seq (.z r_Z65_4) (.seq (.seq (.z r_Z65_5) (.cond (.t 36) (.seq (.z r_Z65_6) .ret) .skip)) (.seq (.reg r_Z65_7 (some [0, 1, 3, 7, 0, 0, 32, 96, 224, 480, 1008, 2047, 4095, 8191, 16383, 0, 32768, 98304, 229376, 0, 524288, 1572864, 0, 4194304, 12582912, 29360128, 62914560, 133693440, 268402688, 536838144, 1073709056, 2147450880, 4294967295, 0, 8589934592, 34359738367, 0, 0, 137438953472, 412316860416, 962072674304, 2061584302080, 4329327034368, 8727373545472, 17592186044415, 35184372088831])) (.seq (.z r_Z65_8) (.seq (.z r_Z65_9) .ret)))))))
theorem c_Z65 : cfun Tryz.prog [] 26 = some (99, dc_Z65, [(Res.tmp 4)]) := by kernel_rfl
def r_Z160_0 : List GI := [gi 4 (.mov 4 (.k .nul))]
def r_Z160_1 : List GI := [gt 6 0, gt 7 1, gc 8 94 [.t 6, .t 7], gt 5 8]
def r_Z160_2 : List GI := [gt 9 0, gc 10 26 [.t 9, .k (I 18)]]
def r_Z160_3 : List GI := [gd 12 .eql 10 0, gt 11 12]
def r_Z160_4 : List GI := [gi 13 (.mov 13 (.k .nul)), gt 4 13]
def r_Z160_5 : List GI := [gd 15 .eql 10 1, gt 14 15]
def r_Z160_6 : List GI := [gt 16 0, gc 17 94 [.t 16, .k (I 7)], gt 4 17]
def r_Z160_7 : List GI := [gd 19 .eql 10 2, gt 18 19]
def r_Z160_8 : List GI := [gt 20 5, gt 21 0, gt 22 5, gn 23 22, gc 24 26 [.t 21, .t 23], gt 25 0, gc 26 93 [.t 25], ga 27 20 24 2, g0 (.sto 27 (.t 26) (some 2))]
def r_Z160_9 : List GI := [gt 28 5, gt 4 28]
def dc_Z160 : DC := .seq (.z r_Z160_0) (.seq (.z r_Z160_1) (.seq (.seq (.z r_Z160_2) (.block 0 (.seq (.z r_Z160_3) (.cond (.t 11) (.seq (.z r_Z160_4) .ret) (.seq (.z r_Z160_5) (.cond (.t 14) (.seq (.z r_Z160_6) .ret) (.seq (.z r_Z160_7) (.cond (.t 18) (.z r_Z160_8) .skip)))))))) (.seq (.z r_Z160_9) .ret)))
theorem c_Z160 : cfun Tryz.prog [] 53 = some (29, dc_Z160, [(Res.tmp 4)]) := by kernel_rfl
def r_Z135_0 : List GI := [gi 2 (.alloc 2 2000002 [.v (.bool false), I 0])]
def r_Z135_1 : List GI := [gt 4 0, gc 5 138 [.t 4], gi 3 (.alloc 3 2000003 [.v (.bool false), I 0]), g0 (.sto 3 (.t 5) (some 2))]
def r_Z135_2 : List GI := [gt 6 0, gc 7 26 [.t 6, .k (I 14)]]
def r_Z135_3 : List GI := [gd 9 .eql 7 0, gt 8 9]
def r_Z135_4 : List GI := [gi 10 (.build 10 [.v (.bool false), I 0] [(0, (none, .k (.v (.bool true)))), (1, (none, .k (I 1)))]), g0 (.sto 2 (.t 10) (some 2))]
def r_Z135_5 : List GI := [gd 12 .eql 7 1, gt 11 12]
def r_Z135_6 : List GI := [gt 13 0, gi 14 (.bsl 14 1 none [I 0, I 0, I 0, I 0] [(0, .k (I 10000)), (1, .k (.v (.int .i64 (-10000)))), (2, .k (I 9999)), (3, .k (.v (.int .i64 (-9999))))]), gc 15 49 [.t 13, .t 14], gi 16 (.build 16 [.v (.bool false), I 0] [(1, (none, .t 15))]), g0 (.sto 2 (.t 16) (some 2))]
def r_Z135_7 : List GI := [gs 17 3 2, g0 (.sto 2 (.t 17) (some 2))]
def dc_Z135 : DC := .seq (.z r_Z135_0) (.seq (.z r_Z135_1) (.seq (.seq (.z r_Z135_2) (.block 0 (.seq (.z r_Z135_3) (.cond (.t 8) (.seq (.z r_Z135_4) .ret) (.seq (.z r_Z135_5) (.cond (.t 11) (.seq (.z r_Z135_6) .ret) .skip)))))) (.seq (.z r_Z135_7) .ret)))
theorem c_Z135 : cfun Tryz.prog [] 93 = some (18, dc_Z135, [(Res.cell 2 (some 2))]) := by kernel_rfl
def r_Z121_0 : List GI := [gi 4 (.mov 4 (.k .nul))]
def r_Z121_1 : List GI := [gi 7 (.mov 7 (.k .nul)), gt 5 7]
def r_Z121_2 : List GI := [gk 6 0]
def r_Z121_3 : List GI := [gt 8 6, gt 9 1, gb 10 .lss 8 9]
def r_Z121_4 : List GI := [gt 13 5, gt 14 0, gc 15 138 [.t 14], gi 16 (.bsl 16 2 (some 2) [.agg [.v (.bool false), I 0]] [(0, .t 15)]), gi 17 (.app 17 2000017 (.t 13) (.t 16) 2 16), gt 5 17]
def r_Z121_5 : List GI := [gt 11 6, gd 12 .add 11 1, gt 6 12]
def r_Z121_6 : List GI := [gt 18 5, gt 4 18]
def dc_Z121 : DC := .seq (.z r_Z121_0) (.seq (.z r_Z121_1) (.seq (.seq (.z r_Z121_2) (.block 0 (.loop (.seq (.seq (.z r_Z121_3) (.cond (.t 10) .skip (.exit 0))) (.seq (.block 1 (.z r_Z121_4)) (.z r_Z121_5)))))) (.seq (.z r_Z121_6) .ret)))
theorem c_Z121 : cfun Tryz.prog [] 94 = some (19, dc_Z121, [(Res.tmp 4)]) := by kernel_rfl
def r_Z88_0 : List GI := [gi 2 (.alloc 2 2000002 [.v (.bool false), I 0])]
def r_Z88_1 : List GI := [gt 3 0, gc 4 26 [.t 3, .k (I 5)], gd 5 .eql 4 0]
def r_Z88_2 : List GI := [gi 6 (.build 6 [.v (.bool false), I 0] [(0, (none, .k (.v (.bool true))))]), g0 (.sto 2 (.t 6) (some 2))]
def r_Z88_3 : List GI := [gt 7 0, gi 8 (.bsl 8 1 none [I 0, I 0, I 0, I 0, I 0] [(0, .k (I 0)), (1, .k (I 1)), (2, .k (I 2)), (3, .k (I 3)), (4, .k (.v (.int .i64 (-1))))]), gc 9 49 [.t 7, .t 8], gi 10 (.build 10 [.v (.bool false), I 0] [(1, (none, .t 9))]), g0 (.sto 2 (.t 10) (some 2))]
def dc_Z88 : DC := .seq (.z r_Z88_0) (.seq (.seq (.z r_Z88_1) (.cond (.t 5) (.seq (.z r_Z88_2) .ret) .skip)) (.seq (.z r_Z88_3) .ret))
theorem c_Z88 : cfun Tryz.prog [] 138 = some (11, dc_Z88, [(Res.cell 2 (some 2))]) := by kernel_rfl
def r_Z69_0 : List GI := [gk 4 0]
def r_Z69_1 : List GI := [gt 7 0, gc 8 152 [.t 7], gt 5 8]
def r_Z69_2 : List GI := [gt 9 1, gc 10 152 [.t 9], gt 6 10]
def r_Z69_3 : List GI := [gt 11 5]
def r_Z69_4 : List GI := [gt 12 6]
def r_Z69_5 : List GI := [gk 4 0]
def r_Z69_6 : List GI := [gi 4 (.mov 4 (.k (.v (.int .i64 (-1)))))]
def r_Z69_7 : List GI := [gt 13 6]
def r_Z69_8 : List GI := [gk 4 1]
def r_Z69_9 : List GI := [gt 14 0, gt 15 1, gb 16 .lss 14 15]
def r_Z69_10 : List GI := [gi 4 (.mov 4 (.k (.v (.int .i64 (-1)))))]
def r_Z69_11 : List GI := [gt 17 0, gt 18 1, gb 19 .gtr 17 18]
def r_Z69_12 : List GI := [gk 4 1]
def r_Z69_13 : List GI := [gk 4 0]
def dc_Z69 : DC := .seq (.z r_Z69_0) (.seq (.z r_Z69_1) (.seq (.z r_Z69_2) (.seq (.seq (.z r_Z69_3) (.cond (.t 11) (.seq (.seq (.z r_Z69_4) (.cond (.t 12) (.seq (.z r_Z69_5) .ret) .skip)) (.seq (.z r_Z69_6) .ret)) .skip)) (.seq (.seq (.z r_Z69_7) (.cond (.t 13) (.seq (.z r_Z69_8) .ret) .skip)) (.seq (.seq (.z r_Z69_9) (.cond (.t 16) (.seq (.z r_Z69_10) .ret) .skip)) (.seq (.seq (.z r_Z69_11) (.cond (.t 19) (.seq (.z r_Z69_12) .ret) .skip)) (.seq (.z r_Z69_13) .ret)))))))
theorem c_Z69 : cfun Tryz.prog [] 126 = some (20, dc_Z69, [(Res.tmp 4)]) := by kernel_rfl
def r_Z105_0 : List GI := [gi 2 (.mov 2 (.k (.v (.bool false))))]
def r_Z105_1 : List GI := [gt 3 0, gt 4 0, gb 5 .neq 3 4, gt 2 5]
def dc_Z105 : DC := .seq (.z r_Z105_0) (.seq (.z r_Z105_1) .ret)
theorem c_Z105 : cfun Tryz.prog [] 152 = some (6, dc_Z105, [(Res.tmp 2)]) := by kernel_rfl
def r_Z71_0 : List GI := [gi 1 (.box 1 2000001 (.t 0) (some 2)), gi 2 (.mov 2 (.k (.v (.bool false))))]
def r_Z71_1 : List GI := [gf 3 1 0, gl 4 3]
def r_Z71_2 : List GI := [gf 5 1 1, gl 6 5, gd 7 .eql 6 0, gt 2 7]
def r_Z71_3 : List GI := [gf 8 1 1, gl 9 8, gi 10 (.bin 10 .leq (.k (.v (.int .i64 (-9999)))) (.t 9)), gt 11 10, ⟨.fad 12 1 1, some 12, some (11, true), false⟩, ⟨.lod 13 12 none, some 13, some (11, true), false⟩, ⟨.bin 14 .leq (.t 13) (.k (I 9999)), some 14, some (11, true), false⟩, gi 15 (.pick 15 (.t 11) (.t 14) (.k (.v (.bool false)))), gt 2 15]
def dc_Z71 : DC := .seq (.z r_Z71_0) (.seq (.seq (.z r_Z71_1) (.cond (.t 4) (.seq (.z r_Z71_2) .ret) .skip)) (.seq (.z r_Z71_3) .ret))
theorem c_Z71 : cfun Tryz.prog [] 158 = some (16, dc_Z71, [(Res.tmp 2)]) := by kernel_rfl
def r_Z126_0 : List GI := [gi 4 (.mov 4 (.k (.v (.bool false))))]
def r_Z126_1 : List GI := [gt 5 0, gi 6 (.bin 6 .leq (.k (I 0)) (.t 5)), gt 7 6, ⟨.mov 8 (.t 0), some 8, some (7, true), false⟩, ⟨.mov 9 (.t 1), some 9, some (7, true), false⟩, ⟨.bin 10 .lss (.t 8) (.t 9), some 10, some (7, true), false⟩, gi 11 (.pick 11 (.t 7) (.t 10) (.k (.v (.bool false)))), gt 4 11]
def dc_Z126 : DC := .seq (.z r_Z126_0) (.seq (.z r_Z126_1) .ret)
theorem c_Z126 : cfun Tryz.prog [] 157 = some (12, dc_Z126, [(Res.tmp 4)]) := by kernel_rfl
def r_Z58_0 : List GI := [gi 2 (.alloc 2 2000002 [.v (.bool false), I 0])]
def r_Z58_1 : List GI := [gt 4 0, gi 5 (.build 5 [.v (.bool false), I 0] [(1, (none, .t 4))]), gi 3 (.alloc 3 2000003 [.v (.bool false), I 0]), g0 (.sto 3 (.t 5) (some 2))]
def r_Z58_2 : List GI := [gs 6 3 2, gc 7 158 [.t 6]]
def r_Z58_3 : List GI := [gs 8 3 2, g0 (.sto 2 (.t 8) (some 2))]
def r_Z58_4 : List GI := [gi 9 (.build 9 [.v (.bool false), I 0] [(0, (none, .k (.v (.bool true))))]), g0 (.sto 2 (.t 9) (some 2))]
def dc_Z58 : DC := .seq (.z r_Z58_0) (.seq (.seq (.z r_Z58_1) (.seq (.z r_Z58_2) (.cond (.t 7) (.seq (.z r_Z58_3) .ret) .skip))) (.seq (.z r_Z58_4) .ret))
theorem c_Z58 : cfun Tryz.prog [] 194 = some (10, dc_Z58, [(Res.cell 2 (some 2))]) := by kernel_rfl
def r_Z130_0 : List GI := [gi 2 (.mov 2 (.k (.v (.bool false))))]
def r_Z130_1 : List GI := [gt 3 0, gn 4 3, gc 5 54 [.t 4], gt 6 5, ⟨.mov 7 (.t 0), some 7, some (6, true), false⟩, ⟨.call 8 141 [.t 7], some 8, some (6, true), true⟩, gi 9 (.pick 9 (.t 6) (.t 8) (.k (.v (.bool false)))), gt 2 9]
def dc_Z130 : DC := .seq (.z r_Z130_0) (.seq (.z r_Z130_1) .ret)
theorem c_Z130 : cfun Tryz.prog [] 98 = some (10, dc_Z130, [(Res.tmp 2)]) := by kernel_rfl
def r_Z79_0 : List GI := [gi 2 (.mov 2 (.k (.v (.bool false))))]
def r_Z79_1 : List GI := [gt 5 0, gn 6 5, gk 7 0]
def r_Z79_2 : List GI := [gb 8 .lss 7 6]
def r_Z79_3 : List GI := [ga 9 5 7 2, gs 10 9 2, gi 4 (.alloc 4 2000004 [.v (.bool false), I 0]), g0 (.sto 4 (.t 10) (some 2))]
def r_Z79_4 : List GI := [gs 11 4 2, gc 12 158 [.t 11], gi 13 (.un 13 UnOp.not (.t 12))]
def r_Z79_5 : List GI := [gi 2 (.mov 2 (.k (.v (.bool false))))]
def r_Z79_6 : List GI := [gd 14 .add 7 1, gt 7 14]
def r_Z79_7 : List GI := [gi 2 (.mov 2 (.k (.v (.bool true))))]
def dc_Z79 : DC := .seq (.z r_Z79_0) (.seq (.seq (.z r_Z79_1) (.block 0 (.loop (.seq (.z r_Z79_2) (.seq (.cond (.t 8) .skip (.exit 0)) (.seq (.block 1 (.seq (.z r_Z79_3) (.seq (.z r_Z79_4) (.cond (.t 13) (.seq (.z r_Z79_5) .ret) .skip)))) (.z r_Z79_6))))))) (.seq (.z r_Z79_7) .ret))
theorem c_Z79 : cfun Tryz.prog [] 141 = some (15, dc_Z79, [(Res.tmp 2)]) := by kernel_rfl
def r_Z96_0 : List GI := [gi 2 (.mov 2 (.k (.v (.bool false))))]
def r_Z96_1 : List GI := [gt 3 0, gi 4 (.bin 4 .leq (.k (I 1)) (.t 3)), gt 5 4, ⟨.mov 6 (.t 0), some 6, some (5, true), false⟩, ⟨.bin 7 .leq (.t 6) (.k (I 6)), some 7, some (5, true), false⟩, gi 8 (.pick 8 (.t 5) (.t 7) (.k (.v (.bool false)))), gt 2 8]
def dc_Z96 : DC := .seq (.z r_Z96_0) (.seq (.z r_Z96_1) .ret)
theorem c_Z96 : cfun Tryz.prog [] 54 = some (9, dc_Z96, [(Res.tmp 2)]) := by kernel_rfl
def r_Z154_0 : List GI := [gi 6 (.mov 6 (.k (.v (.bool false))))]
def r_Z154_1 : List GI := [gt 7 0, gt 8 1, gb 9 .geq 7 8, gt 10 9, ⟨.mov 11 (.t 0), some 11, some (10, true), false⟩, ⟨.mov 12 (.t 2), some 12, some (10, true), false⟩, ⟨.bin 13 .leq (.t 11) (.t 12), some 13, some (10, true), false⟩, gi 14 (.pick 14 (.t 10) (.t 13) (.k (.v (.bool false)))), gt 6 14]
def dc_Z154 : DC := .seq (.z r_Z154_0) (.seq (.z r_Z154_1) .ret)
theorem c_Z154 : cfun Tryz.prog [] 76 = some (15, dc_Z154, [(Res.tmp 6)]) := by kernel_rfl
def r_Z163_0 : List GI := [gi 2 (.alloc 2 2000002 [.v (.bool false), I 0])]
def r_Z163_1 : List GI := [gt 3 0, gc 4 76 [.t 3, .k (.v (.int .i64 (-9999))), .k (I 9999)], gi 5 (.un 5 UnOp.not (.t 4))]
def r_Z163_2 : List GI := [gi 6 (.build 6 [.v (.bool false), I 0] [(0, (none, .k (.v (.bool true))))]), g0 (.sto 2 (.t 6) (some 2))]
def r_Z163_3 : List GI := [gt 7 0, gi 8 (.build 8 [.v (.bool false), I 0] [(1, (none, .t 7))]), g0 (.sto 2 (.t 8) (some 2))]
def dc_Z163 : DC := .seq (.z r_Z163_0) (.seq (.seq (.z r_Z163_1) (.cond (.t 5) (.seq (.z r_Z163_2) .ret) .skip)) (.seq (.z r_Z163_3) .ret))
theorem c_Z163 : cfun Tryz.prog [] 154 = some (9, dc_Z163, [(Res.cell 2 (some 2))]) := by kernel_rfl
def r_Z145_0 : List GI := [gi 2 (.mov 2 (.k (.v (.bool false))))]
def r_Z145_1 : List GI := [gk 3 0]
def r_Z145_2 : List GI := [gt 4 3, gt 5 0, gn 6 5, gb 7 .lss 4 6]
def r_Z145_3 : List GI := [gt 10 0, gt 11 3, ga 12 10 11 2, gs 13 12 2, gc 14 128 [.t 13], gi 15 (.un 15 UnOp.not (.t 14))]
def r_Z145_4 : List GI := [gi 2 (.mov 2 (.k (.v (.bool false))))]
def r_Z145_5 : List GI := [gt 8 3, gd 9 .add 8 1, gt 3 9]
def r_Z145_6 : List GI := [gt 16 0, gn 17 16, gc 18 76 [.t 17, .k (I 1), .k (I 6)], gt 2 18]
def dc_Z145 : DC := .seq (.z r_Z145_0) (.seq (.seq (.z r_Z145_1) (.block 0 (.loop (.seq (.seq (.z r_Z145_2) (.cond (.t 7) .skip (.exit 0))) (.seq (.block 1 (.seq (.z r_Z145_3) (.cond (.t 15) (.seq (.z r_Z145_4) .ret) .skip))) (.z r_Z145_5)))))) (.seq (.z r_Z145_6) .ret))
theorem c_Z145 : cfun Tryz.prog [] 81 = some (19, dc_Z145, [(Res.tmp 2)]) := by kernel_rfl
def r_Z104_0 : List GI := [gi 1 (.box 1 2000001 (.t 0) (some 2)), gi 2 (.mov 2 (.k (.v (.bool false))))]
def r_Z104_1 : List GI := [gf 3 1 1, gl 4 3, gc 5 76 [.t 4, .k (.v (.int .i64 (-9999))), .k (I 9999)], gt 6 5, ⟨.fad 7 1 0, some 7, some (6, true), false⟩, ⟨.lod 8 7 none, some 8, some (6, true), false⟩, ⟨.un 9 UnOp.not (.t 8), some 9, some (6, true), false⟩, ⟨.mov 10 (.t 9), some 10, some (6, true), false⟩, ⟨.fad 11 1 1, some 11, some (10, false), false⟩, ⟨.lod 12 11 none, some 12, some (10, false), false⟩, ⟨.bin 13 .eql (.t 12) (.k (I 0)), some 13, some (10, false), false⟩, ⟨.pick 14 (.t 10) (.k (.v (.bool true))) (.t 13), some 14, some (6, true), false⟩, gi 15 (.pick 15 (.t 6) (.t 14) (.k (.v (.bool false)))), gt 2 15]
def dc_Z104 : DC := .seq (.z r_Z104_0) (.seq (.z r_Z104_1) .ret)
theorem c_Z104 : cfun Tryz.prog [] 128 = some (16, dc_Z104, [(Res.tmp 2)]) := by kernel_rfl
def r_Z44_0 : List GI := [gi 2 (.box 2 2000002 (.t 0) (some 2)), gi 3 (.box 3 2000003 (.t 1) (some 2)), gk 4 0]
def r_Z44_1 : List GI := [gf 6 2 0, gl 7 6, gt 8 7, ⟨.fad 9 3 0, some 9, some (8, true), false⟩, ⟨.lod 10 9 none, some 10, some (8, true), false⟩, gi 11 (.pick 11 (.t 8) (.t 10) (.k (.v (.bool false)))), gt 5 11]
def r_Z44_2 : List GI := [gk 4 0]
def r_Z44_3 : List GI := [gf 13 2 0, gl 14 13, gt 12 14]
def r_Z44_4 : List GI := [gi 4 (.mov 4 (.k (.v (.int .i64 (-1)))))]
def r_Z44_5 : List GI := [gf 16 3 0, gl 17 16, gt 15 17]
def r_Z44_6 : List GI := [gk 4 1]
def r_Z44_7 : List GI := [gf 18 2 1, gl 19 18, gf 20 3 1, gl 21 20, gc 22 126 [.t 19, .t 21], gt 4 22]
def dc_Z44 : DC := .seq (.z r_Z44_0) (.seq (.block 0 (.seq (.z r_Z44_1) (.cond (.t 5) (.seq (.z r_Z44_2) .ret) (.seq (.z r_Z44_3) (.cond (.t 12) (.seq (.z r_Z44_4) .ret) (.seq (.z r_Z44_5) (.cond (.t 15) (.seq (.z r_Z44_6) .ret) .skip))))))) (.seq (.z r_Z44_7) .ret))
theorem c_Z44 : cfun Tryz.prog [] 75 = some (23, dc_Z44, [(Res.tmp 4)]) := by kernel_rfl
def r_Z51_0 : List GI := [gi 2 (.box 2 2000002 (.t 0) (some 2)), gi 3 (.box 3 2000003 (.t 1) (some 2)), gk 4 0]
def r_Z51_1 : List GI := [gs 6 2 2, gs 7 3 2, gi 8 (.eqs 8 false [false, true] (.t 6) (.t 7)), gt 5 8]
def r_Z51_2 : List GI := [gk 4 0]
def r_Z51_3 : List GI := [gf 10 2 0, gl 11 10, gt 12 11, ⟨.fad 13 3 0, some 13, some (12, false), false⟩, ⟨.lod 14 13 none, some 14, some (12, false), false⟩, ⟨.un 15 UnOp.not (.t 14), some 15, some (12, false), false⟩, ⟨.mov 16 (.t 15), some 16, some (12, false), false⟩, ⟨.fad 17 2 1, some 17, some (16, true), false⟩, ⟨.lod 18 17 none, some 18, some (16, true), false⟩, ⟨.fad 19 3 1, some 19, some (16, true), false⟩, ⟨.lod 20 19 none, some 20, some (16, true), false⟩, ⟨.bin 21 .lss (.t 18) (.t 20), some 21, some (16, true), false⟩, ⟨.pick 22 (.t 16) (.t 21) (.k (.v (.bool false))), some 22, some (12, false), false⟩, gi 23 (.pick 23 (.t 12) (.k (.v (.bool true))) (.t 22)), gt 9 23]
def r_Z51_4 : List GI := [gi 4 (.mov 4 (.k (.v (.int .i64 (-1)))))]
def r_Z51_5 : List GI := [gk 4 1]
def dc_Z51 : DC := .seq (.z r_Z51_0) (.seq (.block 0 (.seq (.z r_Z51_1) (.cond (.t 5) (.seq (.z r_Z51_2) .ret) (.seq (.z r_Z51_3) (.cond (.t 9) (.seq (.z r_Z51_4) .ret) .skip))))) (.seq (.z r_Z51_5) .ret))
theorem c_Z51 : cfun Tryz.prog [] 129 = some (24, dc_Z51, [(Res.tmp 4)]) := by kernel_rfl
end
end Go.Proofs.YtlcmchjeakhajaaGreat
