/-
  Functions of the program read as code on plain data. Closed facts of the program alone.
-/
import Derived.KernelRfl
import Derived.Test.YtibknjpbbeackaaGreatRows
import Derived.Test.YtibknjpbbeackaaGreatJSVGo
import Derived.Test.YtibknjpbbeackaaGreatJSVTbD
namespace Go.Proofs.YtibknjpbbeackaaGreat
open Go.RowKit
noncomputable section
theorem mixed : Tryz.prog.follows .mixedOrders = true := by kernel_rfl
def r_Z124_0 : List GI := [gi 2 (.mov 2 (.k (.v (.pointer none))))]
def r_Z124_1 : List GI := [gt 3 0, gn 4 3, gd 5 .gtr 4 2000]
def r_Z124_2 : List GI := [gt 6 0, gi 7 (.slc 7 (.t 6) none (some (.k (I 2000))) 1), gt 0 7]
def r_Z124_3 : List GI := [gt 8 0, gi 9 (.build 9 [.nul, I 0] [(0, (none, .t 8))]), gi 10 (.box 10 2000010 (.t 9) (some 2)), gt 2 10]
def dc_Z124 : DC := .seq (.z r_Z124_0) (.seq (.seq (.z r_Z124_1) (.cond (.t 5) (.z r_Z124_2) .skip)) (.seq (.z r_Z124_3) .ret))
theorem c_Z124 : cfun Tryz.prog [] 30 = some (11, dc_Z124, [(Res.tmp 2)]) := by kernel_rfl
def r_Z90_0 : List GI := [gk 4 0]
def r_Z90_1 : List GI := [gt 5 1, gt 6 0, gt 7 1, gn 8 7, gc 9 53 [.t 6, .t 8], ga 10 5 9 1, gl 11 10, gt 4 11]
def dc_Z90 : DC := .seq (.z r_Z90_0) (.seq (.z r_Z90_1) .ret)
theorem c_Z90 : cfun Tryz.prog [] 80 = some (12, dc_Z90, [(Res.tmp 4)]) := by kernel_rfl
def r_Z69_0 : List GI := [gk 4 0]
def r_Z69_1 : List GI := [gt 7 0, gt 8 0, gi 9 (.nilc 9 8), gf 10 9 1, gl 11 10, gd 12 .add 11 1, gi 13 (.nilc 13 7), gf 14 13 1, g0 (.sto 14 (.t 12) none)]
def r_Z69_2 : List GI := [gt 15 1, gd 16 .lss 15 1, gt 17 16, ⟨.mov 18 (.t 0), some 18, some (17, false), false⟩, ⟨.nilc 19 18, some 19, some (17, false), false⟩, ⟨.fad 20 19 0, some 20, some (17, false), false⟩, ⟨.lod 21 20 none, some 21, some (17, false), false⟩, ⟨.len 22 (.t 21), some 22, some (17, false), false⟩, ⟨.bin 23 .eql (.t 22) (.k (I 0)), some 23, some (17, false), false⟩, gi 24 (.pick 24 (.t 17) (.k (.v (.bool true))) (.t 23))]
def r_Z69_3 : List GI := [gk 4 0]
def r_Z69_4 : List GI := [gt 25 0, gi 26 (.nilc 26 25), gf 27 26 1, gl 28 27, gd 29 .sub 28 1, gt 5 29]
def r_Z69_5 : List GI := [gt 30 5, gt 31 0, gi 32 (.nilc 32 31), gf 33 32 0, gl 34 33, gn 35 34, gb 36 .lss 30 35]
def r_Z69_6 : List GI := [gt 37 0, gi 38 (.nilc 38 37), gf 39 38 0, gl 40 39, gt 41 5, ga 42 40 41 1, gl 43 42, gi 44 (.cvt 44 .i64 (.t 43)), gt 45 1, gb 46 .rem 44 45, gt 4 46]
def r_Z69_7 : List GI := [gt 47 0, gi 48 (.nilc 48 47), gf 49 48 0, gl 50 49, gt 51 5, gt 52 0, gi 53 (.nilc 53 52), gf 54 53 0, gl 55 54, gn 56 55, gb 57 .rem 51 56, ga 58 50 57 1, gl 59 58, gi 60 (.cvt 60 .i64 (.t 59)), gd 61 .mul 60 131, gt 62 0, gi 63 (.nilc 63 62), gf 64 63 0, gl 65 64, gt 66 5, gd 67 .mul 66 7, gd 68 .add 67 3, gt 69 0, gi 70 (.nilc 70 69), gf 71 70 0, gl 72 71, gn 73 72, gb 74 .rem 68 73, ga 75 65 74 1, gl 76 75, gi 77 (.cvt 77 .i64 (.t 76)), gd 78 .mul 77 1117, gb 79 .add 61 78, gt 80 5, gd 81 .mul 80 29, gb 82 .add 79 81, gt 83 5, gt 84 0, gi 85 (.nilc 85 84), gf 86 85 0, gl 87 86, gn 88 87, gb 89 .quo 83 88, gd 90 .mul 89 53, gb 91 .add 82 90, gt 6 91]
def r_Z69_8 : List GI := [gt 92 6, gt 93 6, gd 94 .quo 93 64, gb 95 .xor 92 94, gt 6 95]
def r_Z69_9 : List GI := [gt 96 6, gt 97 1, gb 98 .rem 96 97, gt 4 98]
def dc_Z69 : DC := .seq (.z r_Z69_0) (.seq (.z r_Z69_1) (.seq (.seq (.z r_Z69_2) (.cond (.t 24) (.seq (.z r_Z69_3) .ret) .skip)) (.seq (.z r_Z69_4) (.seq (.seq (.z r_Z69_5) (.cond (.t 36) (.seq (.z r_Z69_6) .ret) .skip)) (.seq (.reg r_Z69_7 (some [0, 1, 3, 7, 0, 0, 32, 96, 224, 480, 1008, 2047, 4095, 8191, 16383, 0, 32768, 98304, 229376, 0, 524288, 1572864, 0, 4194304, 12582912, 29360128, 62914560, 133693440, 268402688, 536838144, 1073709056, 2147450880, 4294967295, 0, 8589934592, 34359738367, 0, 0, 137438953472, 412316860416, 962072674304, 2061584302080, 4329327034368, 8727373545472, 17592186044415, 35184372088831])) (.seq (.z r_Z69_8) (.seq (.z r_Z69_9) .ret)))))))
theorem c_Z69 : cfun Tryz.prog [] 53 = some (99, dc_Z69, [(Res.tmp 4)]) := by kernel_rfl
def r_Z164_0 : List GI := [gi 4 (.mov 4 (.k .nul))]
def r_Z164_1 : List GI := [gt 6 0, gt 7 1, gc 8 128 [.t 6, .t 7], gt 5 8]
def r_Z164_2 : List GI := [gt 9 0, gc 10 53 [.t 9, .k (I 18)]]
def r_Z164_3 : List GI := [gd 12 .eql 10 0, gt 11 12]
def r_Z164_4 : List GI := [gi 13 (.mov 13 (.k .nul)), gt 4 13]
def r_Z164_5 : List GI := [gd 15 .eql 10 1, gt 14 15]
def r_Z164_6 : List GI := [gt 16 0, gc 17 128 [.t 16, .k (I 7)], gt 4 17]
def r_Z164_7 : List GI := [gd 19 .eql 10 2, gt 18 19]
def r_Z164_8 : List GI := [gt 20 5, gt 21 0, gt 22 5, gn 23 22, gc 24 53 [.t 21, .t 23], gt 25 0, gc 26 127 [.t 25], ga 27 20 24 2, g0 (.sto 27 (.t 26) (some 2))]
def r_Z164_9 : List GI := [gt 28 5, gt 4 28]
def dc_Z164 : DC := .seq (.z r_Z164_0) (.seq (.z r_Z164_1) (.seq (.seq (.z r_Z164_2) (.block 0 (.seq (.z r_Z164_3) (.cond (.t 11) (.seq (.z r_Z164_4) .ret) (.seq (.z r_Z164_5) (.cond (.t 14) (.seq (.z r_Z164_6) .ret) (.seq (.z r_Z164_7) (.cond (.t 18) (.z r_Z164_8) .skip)))))))) (.seq (.z r_Z164_9) .ret)))
theorem c_Z164 : cfun Tryz.prog [] 84 = some (29, dc_Z164, [(Res.tmp 4)]) := by kernel_rfl
def r_Z140_0 : List GI := [gi 2 (.alloc 2 2000002 [.v (.bool false), I 0])]
def r_Z140_1 : List GI := [gt 4 0, gc 5 169 [.t 4], gi 3 (.alloc 3 2000003 [.v (.bool false), I 0]), g0 (.sto 3 (.t 5) (some 2))]
def r_Z140_2 : List GI := [gt 6 0, gc 7 53 [.t 6, .k (I 14)]]
def r_Z140_3 : List GI := [gd 9 .eql 7 0, gt 8 9]
def r_Z140_4 : List GI := [gi 10 (.build 10 [.v (.bool false), I 0] [(0, (none, .k (.v (.bool true)))), (1, (none, .k (I 1)))]), g0 (.sto 2 (.t 10) (some 2))]
def r_Z140_5 : List GI := [gd 12 .eql 7 1, gt 11 12]
def r_Z140_6 : List GI := [gt 13 0, gi 14 (.bsl 14 1 none [I 0, I 0, I 0, I 0] [(0, .k (I 10000)), (1, .k (.v (.int .i64 (-10000)))), (2, .k (I 9999)), (3, .k (.v (.int .i64 (-9999))))]), gc 15 80 [.t 13, .t 14], gi 16 (.build 16 [.v (.bool false), I 0] [(1, (none, .t 15))]), g0 (.sto 2 (.t 16) (some 2))]
def r_Z140_7 : List GI := [gs 17 3 2, g0 (.sto 2 (.t 17) (some 2))]
def dc_Z140 : DC := .seq (.z r_Z140_0) (.seq (.z r_Z140_1) (.seq (.seq (.z r_Z140_2) (.block 0 (.seq (.z r_Z140_3) (.cond (.t 8) (.seq (.z r_Z140_4) .ret) (.seq (.z r_Z140_5) (.cond (.t 11) (.seq (.z r_Z140_6) .ret) .skip)))))) (.seq (.z r_Z140_7) .ret)))
theorem c_Z140 : cfun Tryz.prog [] 127 = some (18, dc_Z140, [(Res.cell 2 (some 2))]) := by kernel_rfl
def r_Z126_0 : List GI := [gi 4 (.mov 4 (.k .nul))]
def r_Z126_1 : List GI := [gi 7 (.mov 7 (.k .nul)), gt 5 7]
def r_Z126_2 : List GI := [gk 6 0]
def r_Z126_3 : List GI := [gt 8 6, gt 9 1, gb 10 .lss 8 9]
def r_Z126_4 : List GI := [gt 13 5, gt 14 0, gc 15 169 [.t 14], gi 16 (.bsl 16 2 (some 2) [.agg [.v (.bool false), I 0]] [(0, .t 15)]), gi 17 (.app 17 2000017 (.t 13) (.t 16) 2 16), gt 5 17]
def r_Z126_5 : List GI := [gt 11 6, gd 12 .add 11 1, gt 6 12]
def r_Z126_6 : List GI := [gt 18 5, gt 4 18]
def dc_Z126 : DC := .seq (.z r_Z126_0) (.seq (.z r_Z126_1) (.seq (.seq (.z r_Z126_2) (.block 0 (.loop (.seq (.seq (.z r_Z126_3) (.cond (.t 10) .skip (.exit 0))) (.seq (.block 1 (.z r_Z126_4)) (.z r_Z126_5)))))) (.seq (.z r_Z126_6) .ret)))
theorem c_Z126 : cfun Tryz.prog [] 128 = some (19, dc_Z126, [(Res.tmp 4)]) := by kernel_rfl
def r_Z92_0 : List GI := [gi 2 (.alloc 2 2000002 [.v (.bool false), I 0])]
def r_Z92_1 : List GI := [gt 3 0, gc 4 53 [.t 3, .k (I 5)], gd 5 .eql 4 0]
def r_Z92_2 : List GI := [gi 6 (.build 6 [.v (.bool false), I 0] [(0, (none, .k (.v (.bool true))))]), g0 (.sto 2 (.t 6) (some 2))]
def r_Z92_3 : List GI := [gt 7 0, gi 8 (.bsl 8 1 none [I 0, I 0, I 0, I 0, I 0] [(0, .k (I 0)), (1, .k (I 1)), (2, .k (I 2)), (3, .k (I 3)), (4, .k (.v (.int .i64 (-1))))]), gc 9 80 [.t 7, .t 8], gi 10 (.build 10 [.v (.bool false), I 0] [(1, (none, .t 9))]), g0 (.sto 2 (.t 10) (some 2))]
def dc_Z92 : DC := .seq (.z r_Z92_0) (.seq (.seq (.z r_Z92_1) (.cond (.t 5) (.seq (.z r_Z92_2) .ret) .skip)) (.seq (.z r_Z92_3) .ret))
theorem c_Z92 : cfun Tryz.prog [] 169 = some (11, dc_Z92, [(Res.cell 2 (some 2))]) := by kernel_rfl
def r_Z73_0 : List GI := [gk 4 0]
def r_Z73_1 : List GI := [gt 7 0, gc 8 164 [.t 7], gt 5 8]
def r_Z73_2 : List GI := [gt 9 1, gc 10 164 [.t 9], gt 6 10]
def r_Z73_3 : List GI := [gt 11 5]
def r_Z73_4 : List GI := [gt 12 6]
def r_Z73_5 : List GI := [gk 4 0]
def r_Z73_6 : List GI := [gi 4 (.mov 4 (.k (.v (.int .i64 (-1)))))]
def r_Z73_7 : List GI := [gt 13 6]
def r_Z73_8 : List GI := [gk 4 1]
def r_Z73_9 : List GI := [gt 14 0, gt 15 1, gb 16 .lss 14 15]
def r_Z73_10 : List GI := [gi 4 (.mov 4 (.k (.v (.int .i64 (-1)))))]
def r_Z73_11 : List GI := [gt 17 0, gt 18 1, gb 19 .gtr 17 18]
def r_Z73_12 : List GI := [gk 4 1]
def r_Z73_13 : List GI := [gk 4 0]
def dc_Z73 : DC := .seq (.z r_Z73_0) (.seq (.z r_Z73_1) (.seq (.z r_Z73_2) (.seq (.seq (.z r_Z73_3) (.cond (.t 11) (.seq (.seq (.z r_Z73_4) (.cond (.t 12) (.seq (.z r_Z73_5) .ret) .skip)) (.seq (.z r_Z73_6) .ret)) .skip)) (.seq (.seq (.z r_Z73_7) (.cond (.t 13) (.seq (.z r_Z73_8) .ret) .skip)) (.seq (.seq (.z r_Z73_9) (.cond (.t 16) (.seq (.z r_Z73_10) .ret) .skip)) (.seq (.seq (.z r_Z73_11) (.cond (.t 19) (.seq (.z r_Z73_12) .ret) .skip)) (.seq (.z r_Z73_13) .ret)))))))
theorem c_Z73 : cfun Tryz.prog [] 119 = some (20, dc_Z73, [(Res.tmp 4)]) := by kernel_rfl
def r_Z110_0 : List GI := [gi 2 (.mov 2 (.k (.v (.bool false))))]
def r_Z110_1 : List GI := [gt 3 0, gt 4 0, gb 5 .neq 3 4, gt 2 5]
def dc_Z110 : DC := .seq (.z r_Z110_0) (.seq (.z r_Z110_1) .ret)
theorem c_Z110 : cfun Tryz.prog [] 164 = some (6, dc_Z110, [(Res.tmp 2)]) := by kernel_rfl
def r_Z75_0 : List GI := [gi 1 (.box 1 2000001 (.t 0) (some 2)), gi 2 (.mov 2 (.k (.v (.bool false))))]
def r_Z75_1 : List GI := [gf 3 1 0, gl 4 3]
def r_Z75_2 : List GI := [gf 5 1 1, gl 6 5, gd 7 .eql 6 0, gt 2 7]
def r_Z75_3 : List GI := [gf 8 1 1, gl 9 8, gi 10 (.bin 10 .leq (.k (.v (.int .i64 (-9999)))) (.t 9)), gt 11 10, ⟨.fad 12 1 1, some 12, some (11, true), false⟩, ⟨.lod 13 12 none, some 13, some (11, true), false⟩, ⟨.bin 14 .leq (.t 13) (.k (I 9999)), some 14, some (11, true), false⟩, gi 15 (.pick 15 (.t 11) (.t 14) (.k (.v (.bool false)))), gt 2 15]
def dc_Z75 : DC := .seq (.z r_Z75_0) (.seq (.seq (.z r_Z75_1) (.cond (.t 4) (.seq (.z r_Z75_2) .ret) .skip)) (.seq (.z r_Z75_3) .ret))
theorem c_Z75 : cfun Tryz.prog [] 163 = some (16, dc_Z75, [(Res.tmp 2)]) := by kernel_rfl
def r_Z131_0 : List GI := [gi 4 (.mov 4 (.k (.v (.bool false))))]
def r_Z131_1 : List GI := [gt 5 0, gi 6 (.bin 6 .leq (.k (I 0)) (.t 5)), gt 7 6, ⟨.mov 8 (.t 0), some 8, some (7, true), false⟩, ⟨.mov 9 (.t 1), some 9, some (7, true), false⟩, ⟨.bin 10 .lss (.t 8) (.t 9), some 10, some (7, true), false⟩, gi 11 (.pick 11 (.t 7) (.t 10) (.k (.v (.bool false)))), gt 4 11]
def dc_Z131 : DC := .seq (.z r_Z131_0) (.seq (.z r_Z131_1) .ret)
theorem c_Z131 : cfun Tryz.prog [] 182 = some (12, dc_Z131, [(Res.tmp 4)]) := by kernel_rfl
def r_Z62_0 : List GI := [gi 2 (.alloc 2 2000002 [.v (.bool false), I 0])]
def r_Z62_1 : List GI := [gt 4 0, gi 5 (.build 5 [.v (.bool false), I 0] [(1, (none, .t 4))]), gi 3 (.alloc 3 2000003 [.v (.bool false), I 0]), g0 (.sto 3 (.t 5) (some 2))]
def r_Z62_2 : List GI := [gs 6 3 2, gc 7 163 [.t 6]]
def r_Z62_3 : List GI := [gs 8 3 2, g0 (.sto 2 (.t 8) (some 2))]
def r_Z62_4 : List GI := [gi 9 (.build 9 [.v (.bool false), I 0] [(0, (none, .k (.v (.bool true))))]), g0 (.sto 2 (.t 9) (some 2))]
def dc_Z62 : DC := .seq (.z r_Z62_0) (.seq (.seq (.z r_Z62_1) (.seq (.z r_Z62_2) (.cond (.t 7) (.seq (.z r_Z62_3) .ret) .skip))) (.seq (.z r_Z62_4) .ret))
theorem c_Z62 : cfun Tryz.prog [] 216 = some (10, dc_Z62, [(Res.cell 2 (some 2))]) := by kernel_rfl
def r_Z135_0 : List GI := [gi 2 (.mov 2 (.k (.v (.bool false))))]
def r_Z135_1 : List GI := [gt 3 0, gn 4 3, gc 5 71 [.t 4], gt 6 5, ⟨.mov 7 (.t 0), some 7, some (6, true), false⟩, ⟨.call 8 114 [.t 7], some 8, some (6, true), true⟩, gi 9 (.pick 9 (.t 6) (.t 8) (.k (.v (.bool false)))), gt 2 9]
def dc_Z135 : DC := .seq (.z r_Z135_0) (.seq (.z r_Z135_1) .ret)
theorem c_Z135 : cfun Tryz.prog [] 72 = some (10, dc_Z135, [(Res.tmp 2)]) := by kernel_rfl
def r_Z83_0 : List GI := [gi 2 (.mov 2 (.k (.v (.bool false))))]
def r_Z83_1 : List GI := [gt 5 0, gn 6 5, gk 7 0]
def r_Z83_2 : List GI := [gb 8 .lss 7 6]
def r_Z83_3 : List GI := [ga 9 5 7 2, gs 10 9 2, gi 4 (.alloc 4 2000004 [.v (.bool false), I 0]), g0 (.sto 4 (.t 10) (some 2))]
def r_Z83_4 : List GI := [gs 11 4 2, gc 12 163 [.t 11], gi 13 (.un 13 UnOp.not (.t 12))]
def r_Z83_5 : List GI := [gi 2 (.mov 2 (.k (.v (.bool false))))]
def r_Z83_6 : List GI := [gd 14 .add 7 1, gt 7 14]
def r_Z83_7 : List GI := [gi 2 (.mov 2 (.k (.v (.bool true))))]
def dc_Z83 : DC := .seq (.z r_Z83_0) (.seq (.seq (.z r_Z83_1) (.block 0 (.loop (.seq (.z r_Z83_2) (.seq (.cond (.t 8) .skip (.exit 0)) (.seq (.block 1 (.seq (.z r_Z83_3) (.seq (.z r_Z83_4) (.cond (.t 13) (.seq (.z r_Z83_5) .ret) .skip)))) (.z r_Z83_6))))))) (.seq (.z r_Z83_7) .ret))
theorem c_Z83 : cfun Tryz.prog [] 114 = some (15, dc_Z83, [(Res.tmp 2)]) := by kernel_rfl
def r_Z101_0 : List GI := [gi 2 (.mov 2 (.k (.v (.bool false))))]
def r_Z101_1 : List GI := [gt 3 0, gi 4 (.bin 4 .leq (.k (I 1)) (.t 3)), gt 5 4, ⟨.mov 6 (.t 0), some 6, some (5, true), false⟩, ⟨.bin 7 .leq (.t 6) (.k (I 6)), some 7, some (5, true), false⟩, gi 8 (.pick 8 (.t 5) (.t 7) (.k (.v (.bool false)))), gt 2 8]
def dc_Z101 : DC := .seq (.z r_Z101_0) (.seq (.z r_Z101_1) .ret)
theorem c_Z101 : cfun Tryz.prog [] 71 = some (9, dc_Z101, [(Res.tmp 2)]) := by kernel_rfl
def r_Z159_0 : List GI := [gi 6 (.mov 6 (.k (.v (.bool false))))]
def r_Z159_1 : List GI := [gt 7 0, gt 8 1, gb 9 .geq 7 8, gt 10 9, ⟨.mov 11 (.t 0), some 11, some (10, true), false⟩, ⟨.mov 12 (.t 2), some 12, some (10, true), false⟩, ⟨.bin 13 .leq (.t 11) (.t 12), some 13, some (10, true), false⟩, gi 14 (.pick 14 (.t 10) (.t 13) (.k (.v (.bool false)))), gt 6 14]
def dc_Z159 : DC := .seq (.z r_Z159_0) (.seq (.z r_Z159_1) .ret)
theorem c_Z159 : cfun Tryz.prog [] 101 = some (15, dc_Z159, [(Res.tmp 6)]) := by kernel_rfl
def r_Z167_0 : List GI := [gi 2 (.alloc 2 2000002 [.v (.bool false), I 0])]
def r_Z167_1 : List GI := [gt 3 0, gc 4 101 [.t 3, .k (.v (.int .i64 (-9999))), .k (I 9999)], gi 5 (.un 5 UnOp.not (.t 4))]
def r_Z167_2 : List GI := [gi 6 (.build 6 [.v (.bool false), I 0] [(0, (none, .k (.v (.bool true))))]), g0 (.sto 2 (.t 6) (some 2))]
def r_Z167_3 : List GI := [gt 7 0, gi 8 (.build 8 [.v (.bool false), I 0] [(1, (none, .t 7))]), g0 (.sto 2 (.t 8) (some 2))]
def dc_Z167 : DC := .seq (.z r_Z167_0) (.seq (.seq (.z r_Z167_1) (.cond (.t 5) (.seq (.z r_Z167_2) .ret) .skip)) (.seq (.z r_Z167_3) .ret))
theorem c_Z167 : cfun Tryz.prog [] 180 = some (9, dc_Z167, [(Res.cell 2 (some 2))]) := by kernel_rfl
def r_Z150_0 : List GI := [gi 2 (.mov 2 (.k (.v (.bool false))))]
def r_Z150_1 : List GI := [gk 3 0]
def r_Z150_2 : List GI := [gt 4 3, gt 5 0, gn 6 5, gb 7 .lss 4 6]
def r_Z150_3 : List GI := [gt 10 0, gt 11 3, ga 12 10 11 2, gs 13 12 2, gc 14 156 [.t 13], gi 15 (.un 15 UnOp.not (.t 14))]
def r_Z150_4 : List GI := [gi 2 (.mov 2 (.k (.v (.bool false))))]
def r_Z150_5 : List GI := [gt 8 3, gd 9 .add 8 1, gt 3 9]
def r_Z150_6 : List GI := [gt 16 0, gn 17 16, gc 18 101 [.t 17, .k (I 1), .k (I 6)], gt 2 18]
def dc_Z150 : DC := .seq (.z r_Z150_0) (.seq (.seq (.z r_Z150_1) (.block 0 (.loop (.seq (.seq (.z r_Z150_2) (.cond (.t 7) .skip (.exit 0))) (.seq (.block 1 (.seq (.z r_Z150_3) (.cond (.t 15) (.seq (.z r_Z150_4) .ret) .skip))) (.z r_Z150_5)))))) (.seq (.z r_Z150_6) .ret))
theorem c_Z150 : cfun Tryz.prog [] 106 = some (19, dc_Z150, [(Res.tmp 2)]) := by kernel_rfl
def r_Z109_0 : List GI := [gi 1 (.box 1 2000001 (.t 0) (some 2)), gi 2 (.mov 2 (.k (.v (.bool false))))]
def r_Z109_1 : List GI := [gf 3 1 1, gl 4 3, gc 5 101 [.t 4, .k (.v (.int .i64 (-9999))), .k (I 9999)], gt 6 5, ⟨.fad 7 1 0, some 7, some (6, true), false⟩, ⟨.lod 8 7 none, some 8, some (6, true), false⟩, ⟨.un 9 UnOp.not (.t 8), some 9, some (6, true), false⟩, ⟨.mov 10 (.t 9), some 10, some (6, true), false⟩, ⟨.fad 11 1 1, some 11, some (10, false), false⟩, ⟨.lod 12 11 none, some 12, some (10, false), false⟩, ⟨.bin 13 .eql (.t 12) (.k (I 0)), some 13, some (10, false), false⟩, ⟨.pick 14 (.t 10) (.k (.v (.bool true))) (.t 13), some 14, some (6, true), false⟩, gi 15 (.pick 15 (.t 6) (.t 14) (.k (.v (.bool false)))), gt 2 15]
def dc_Z109 : DC := .seq (.z r_Z109_0) (.seq (.z r_Z109_1) .ret)
theorem c_Z109 : cfun Tryz.prog [] 156 = some (16, dc_Z109, [(Res.tmp 2)]) := by kernel_rfl
def r_Z47_0 : List GI := [gi 2 (.box 2 2000002 (.t 0) (some 2)), gi 3 (.box 3 2000003 (.t 1) (some 2)), gk 4 0]
def r_Z47_1 : List GI := [gf 6 2 0, gl 7 6, gt 8 7, ⟨.fad 9 3 0, some 9, some (8, true), false⟩, ⟨.lod 10 9 none, some 10, some (8, true), false⟩, gi 11 (.pick 11 (.t 8) (.t 10) (.k (.v (.bool false)))), gt 5 11]
def r_Z47_2 : List GI := [gk 4 0]
def r_Z47_3 : List GI := [gf 13 2 0, gl 14 13, gt 12 14]
def r_Z47_4 : List GI := [gi 4 (.mov 4 (.k (.v (.int .i64 (-1)))))]
def r_Z47_5 : List GI := [gf 16 3 0, gl 17 16, gt 15 17]
def r_Z47_6 : List GI := [gk 4 1]
def r_Z47_7 : List GI := [gf 18 2 1, gl 19 18, gf 20 3 1, gl 21 20, gc 22 119 [.t 19, .t 21], gt 4 22]
def dc_Z47 : DC := .seq (.z r_Z47_0) (.seq (.block 0 (.seq (.z r_Z47_1) (.cond (.t 5) (.seq (.z r_Z47_2) .ret) (.seq (.z r_Z47_3) (.cond (.t 12) (.seq (.z r_Z47_4) .ret) (.seq (.z r_Z47_5) (.cond (.t 15) (.seq (.z r_Z47_6) .ret) .skip))))))) (.seq (.z r_Z47_7) .ret))
theorem c_Z47 : cfun Tryz.prog [] 76 = some (23, dc_Z47, [(Res.tmp 4)]) := by kernel_rfl
def r_Z55_0 : List GI := [gi 2 (.box 2 2000002 (.t 0) (some 2)), gi 3 (.box 3 2000003 (.t 1) (some 2)), gk 4 0]
def r_Z55_1 : List GI := [gs 6 2 2, gs 7 3 2, gi 8 (.eqs 8 false [false, true] (.t 6) (.t 7)), gt 5 8]
def r_Z55_2 : List GI := [gk 4 0]
def r_Z55_3 : List GI := [gf 10 2 0, gl 11 10, gt 12 11, ⟨.fad 13 3 0, some 13, some (12, false), false⟩, ⟨.lod 14 13 none, some 14, some (12, false), false⟩, ⟨.un 15 UnOp.not (.t 14), some 15, some (12, false), false⟩, ⟨.mov 16 (.t 15), some 16, some (12, false), false⟩, ⟨.fad 17 2 1, some 17, some (16, true), false⟩, ⟨.lod 18 17 none, some 18, some (16, true), false⟩, ⟨.fad 19 3 1, some 19, some (16, true), false⟩, ⟨.lod 20 19 none, some 20, some (16, true), false⟩, ⟨.bin 21 .lss (.t 18) (.t 20), some 21, some (16, true), false⟩, ⟨.pick 22 (.t 16) (.t 21) (.k (.v (.bool false))), some 22, some (12, false), false⟩, gi 23 (.pick 23 (.t 12) (.k (.v (.bool true))) (.t 22)), gt 9 23]
def r_Z55_4 : List GI := [gi 4 (.mov 4 (.k (.v (.int .i64 (-1)))))]
def r_Z55_5 : List GI := [gk 4 1]
def dc_Z55 : DC := .seq (.z r_Z55_0) (.seq (.block 0 (.seq (.z r_Z55_1) (.cond (.t 5) (.seq (.z r_Z55_2) .ret) (.seq (.z r_Z55_3) (.cond (.t 9) (.seq (.z r_Z55_4) .ret) .skip))))) (.seq (.z r_Z55_5) .ret))
theorem c_Z55 : cfun Tryz.prog [] 157 = some (24, dc_Z55, [(Res.tmp 4)]) := by kernel_rfl
def r_Z77_0 : List GI := [gk 4 0]
def r_Z77_1 : List GI := [gt 7 0, gn 8 7, gk 9 0]
def r_Z77_2 : List GI := [gb 10 .lss 9 8]
def r_Z77_3 : List GI := [gt 11 9, gt 5 11]
def r_Z77_4 : List GI := [gt 12 0, gt 13 5, ga 14 12 13 2, gs 15 14 2, gt 16 1, gt 17 5, ga 18 16 17 2, gs 19 18 2, gc 20 76 [.t 15, .t 19], gt 6 20]
def r_Z77_5 : List GI := [gt 21 6, gd 22 .neq 21 0]
def r_Z77_6 : List GI := [gt 23 6, gt 4 23]
def r_Z77_7 : List GI := [gd 24 .add 9 1, gt 9 24]
def r_Z77_8 : List GI := [gk 4 0]
def dc_Z77 : DC := .seq (.z r_Z77_0) (.seq (.seq (.z r_Z77_1) (.block 0 (.loop (.seq (.z r_Z77_2) (.seq (.cond (.t 10) .skip (.exit 0)) (.seq (.block 1 (.seq (.z r_Z77_3) (.seq (.reg r_Z77_4 (some [0, 0, 3, 7, 0, 0, 48, 112, 255, 511])) (.seq (.z r_Z77_5) (.cond (.t 22) (.seq (.z r_Z77_6) .ret) .skip))))) (.z r_Z77_7))))))) (.seq (.z r_Z77_8) .ret))
theorem c_Z77 : cfun Tryz.prog [] 46 = some (25, dc_Z77, [(Res.tmp 4)]) := by kernel_rfl
def r_Z88_0 : List GI := [gk 4 0]
def r_Z88_1 : List GI := [gk 5 0]
def r_Z88_2 : List GI := [gt 7 5, gt 8 0, gn 9 8, gb 10 .lss 7 9, gt 11 10, ⟨.mov 12 (.t 5), some 12, some (11, true), false⟩, ⟨.mov 13 (.t 1), some 13, some (11, true), false⟩, ⟨.len 14 (.t 13), some 14, some (11, true), false⟩, ⟨.bin 15 .lss (.t 12) (.t 14), some 15, some (11, true), false⟩, gi 16 (.pick 16 (.t 11) (.t 15) (.k (.v (.bool false))))]
def r_Z88_3 : List GI := [gt 19 0, gt 20 5, ga 21 19 20 2, gs 22 21 2, gt 23 1, gt 24 5, ga 25 23 24 2, gs 26 25 2, gc 27 157 [.t 22, .t 26], gt 6 27]
def r_Z88_4 : List GI := [gt 28 6, gd 29 .neq 28 0]
def r_Z88_5 : List GI := [gt 30 6, gt 4 30]
def r_Z88_6 : List GI := [gt 17 5, gd 18 .add 17 1, gt 5 18]
def r_Z88_7 : List GI := [gt 31 0, gn 32 31, gt 33 1, gn 34 33, gb 35 .sub 32 34, gt 4 35]
def dc_Z88 : DC := .seq (.z r_Z88_0) (.seq (.seq (.z r_Z88_1) (.block 0 (.loop (.seq (.seq (.z r_Z88_2) (.cond (.t 16) .skip (.exit 0))) (.seq (.block 1 (.seq (.reg r_Z88_3 (some [0, 0, 3, 7, 0, 0, 48, 112, 255, 511])) (.seq (.z r_Z88_4) (.cond (.t 29) (.seq (.z r_Z88_5) .ret) .skip)))) (.z r_Z88_6)))))) (.seq (.z r_Z88_7) .ret))
theorem c_Z88 : cfun Tryz.prog [] 107 = some (36, dc_Z88, [(Res.tmp 4)]) := by kernel_rfl
def r_Z158_0 : List GI := [gi 2 (.mov 2 (.k .nul))]
def r_Z158_1 : List GI := [gi 3 (.mov 3 (.k .nul)), gt 4 0, gi 5 (.app 5 2000005 (.t 3) (.t 4) 2 16), gt 2 5]
def dc_Z158 : DC := .seq (.z r_Z158_0) (.seq (.z r_Z158_1) .ret)
theorem c_Z158 : cfun Tryz.prog [] 83 = some (6, dc_Z158, [(Res.tmp 2)]) := by kernel_rfl
def r_Z123_0 : List GI := [gi 4 (.mov 4 (.k .nul))]
def r_Z123_1 : List GI := [gk 5 0]
def r_Z123_2 : List GI := [gt 9 0, gn 10 9, gt 6 10]
def r_Z123_3 : List GI := [gt 11 5, gt 12 6, gb 13 .lss 11 12]
def r_Z123_4 : List GI := [gt 14 5, gt 15 6, gb 16 .add 14 15, gd 17 .quo 16 2, gt 7 17]
def r_Z123_5 : List GI := [gt 18 0, gt 19 7, ga 20 18 19 1, gl 21 20, gt 22 1, gc 23 107 [.t 21, .t 22], gd 24 .leq 23 0]
def r_Z123_6 : List GI := [gt 25 7, gd 26 .add 25 1, gt 5 26]
def r_Z123_7 : List GI := [gt 27 7, gt 6 27]
def r_Z123_8 : List GI := [gi 28 (.mov 28 (.k .nul)), gt 29 0, gt 30 5, gi 31 (.slc 31 (.t 29) none (some (.t 30)) 1), gi 32 (.app 32 2000032 (.t 28) (.t 31) 1 24), gt 8 32]
def r_Z123_9 : List GI := [gt 33 8, gt 34 1, gc 35 83 [.t 34], gi 36 (.bsl 36 1 none [.nul] [(0, .t 35)]), gi 37 (.app 37 2000037 (.t 33) (.t 36) 1 24), gt 8 37]
def r_Z123_10 : List GI := [gt 38 8, gt 39 0, gt 40 5, gi 41 (.slc 41 (.t 39) (some (.t 40)) none 1), gi 42 (.app 42 2000042 (.t 38) (.t 41) 1 24), gt 4 42]
def dc_Z123 : DC := .seq (.z r_Z123_0) (.seq (.z r_Z123_1) (.seq (.z r_Z123_2) (.seq (.block 0 (.loop (.seq (.seq (.z r_Z123_3) (.cond (.t 13) .skip (.exit 0))) (.block 1 (.seq (.z r_Z123_4) (.seq (.z r_Z123_5) (.cond (.t 24) (.z r_Z123_6) (.z r_Z123_7)))))))) (.seq (.z r_Z123_8) (.seq (.z r_Z123_9) (.seq (.z r_Z123_10) .ret))))))
theorem c_Z123 : cfun Tryz.prog [] 108 = some (43, dc_Z123, [(Res.tmp 4)]) := by kernel_rfl
end
end Go.Proofs.YtibknjpbbeackaaGreat
