/-
  Functions of the program read as code on plain data. Closed facts of the program alone.
-/
import Derived.KernelRfl
import Derived.Test.YtepkimfmncedcaaGreatRows
import Derived.Test.YtepkimfmncedcaaGreatJSVGo
import Derived.Test.YtepkimfmncedcaaGreatJSVTbD
namespace Go.Proofs.YtepkimfmncedcaaGreat
open Go.RowKit
noncomputable section
def r_Z186_0 : List GI := [gk 2 0]
def r_Z186_1 : List GI := [gt 3 0]
def r_Z186_2 : List GI := [gd 5 .eql 3 1, gt 4 5]
def r_Z186_3 : List GI := [gd 6 .eql 3 2, gt 4 6]
def r_Z186_4 : List GI := [gk 2 0]
def r_Z186_5 : List GI := [gd 8 .eql 3 10, gt 7 8]
def r_Z186_6 : List GI := [gd 9 .eql 3 11, gt 7 9]
def r_Z186_7 : List GI := [gk 2 1]
def r_Z186_8 : List GI := [gd 11 .eql 3 3, gt 10 11]
def r_Z186_9 : List GI := [gd 12 .eql 3 4, gt 10 12]
def r_Z186_10 : List GI := [gd 13 .eql 3 5, gt 10 13]
def r_Z186_11 : List GI := [gd 14 .eql 3 6, gt 10 14]
def r_Z186_12 : List GI := [gd 15 .eql 3 7, gt 10 15]
def r_Z186_13 : List GI := [gd 16 .eql 3 8, gt 10 16]
def r_Z186_14 : List GI := [gd 17 .eql 3 9, gt 10 17]
def r_Z186_15 : List GI := [gk 2 2]
def r_Z186_16 : List GI := [gi 2 (.mov 2 (.k (.v (.int .i64 (-1)))))]
def dc_Z186 : DC := .seq (.z r_Z186_0) (.seq (.seq (.z r_Z186_1) (.block 0 (.seq (.seq (.z r_Z186_2) (.cond (.t 4) .skip (.z r_Z186_3))) (.cond (.t 4) (.seq (.z r_Z186_4) .ret) (.seq (.seq (.z r_Z186_5) (.cond (.t 7) .skip (.z r_Z186_6))) (.cond (.t 7) (.seq (.z r_Z186_7) .ret) (.seq (.seq (.z r_Z186_8) (.cond (.t 10) .skip (.seq (.z r_Z186_9) (.cond (.t 10) .skip (.seq (.z r_Z186_10) (.cond (.t 10) .skip (.seq (.z r_Z186_11) (.cond (.t 10) .skip (.seq (.z r_Z186_12) (.cond (.t 10) .skip (.seq (.z r_Z186_13) (.cond (.t 10) .skip (.z r_Z186_14))))))))))))) (.cond (.t 10) (.seq (.z r_Z186_15) .ret) .skip)))))))) (.seq (.z r_Z186_16) .ret))
theorem c_Z186 : cfun Tryz.prog [] 188 = some (18, dc_Z186, [(Res.tmp 2)]) := by kernel_rfl
def r_Z191_0 : List GI := [gk 2 0]
def r_Z191_1 : List GI := [gt 3 0]
def r_Z191_2 : List GI := [gk 2 1]
def r_Z191_3 : List GI := [gk 2 0]
def dc_Z191 : DC := .seq (.z r_Z191_0) (.seq (.seq (.z r_Z191_1) (.cond (.t 3) (.seq (.z r_Z191_2) .ret) .skip)) (.seq (.z r_Z191_3) .ret))
theorem c_Z191 : cfun Tryz.prog [] 181 = some (4, dc_Z191, [(Res.tmp 2)]) := by kernel_rfl
def r_Z138_0 : List GI := [gi 2 (.box 2 2000002 (.t 0) (some 5)), gi 4 (.mov 4 (.k (.v (.bool false))))]
def r_Z138_1 : List GI := [gt 5 1, gc 6 45 [.t 5, .k (I 1), .k (I 6)], gt 7 6, ⟨.lod 8 2 (some 5), some 8, some (7, true), false⟩, ⟨.mov 9 (.t 1), some 9, some (7, true), false⟩, ⟨.call 10 175 [.t 8, .t 9, .k (I 8)], some 10, some (7, true), true⟩, gi 11 (.pick 11 (.t 7) (.t 10) (.k (.v (.bool false)))), gt 4 11]
def dc_Z138 : DC := .seq (.z r_Z138_0) (.seq (.z r_Z138_1) .ret)
theorem c_Z138 : cfun Tryz.prog [] 125 = some (12, dc_Z138, [(Res.tmp 4)]) := by kernel_rfl
def r_Z146_0 : List GI := [gi 3 (.box 3 2000003 (.t 0) (some 5)), gi 6 (.mov 6 (.k (.v (.bool false))))]
def r_Z146_1 : List GI := [gf 8 3 4, gl 9 8, gn 10 9, gf 11 3 0, gl 12 11, gc 13 188 [.t 12], gb 14 .neq 10 13, gt 15 14, ⟨.fad 16 3 4, some 16, some (15, false), false⟩, ⟨.lod 17 16 none, some 17, some (15, false), false⟩, ⟨.len 18 (.t 17), some 18, some (15, false), false⟩, ⟨.bin 19 .gtr (.t 18) (.k (I 0)), some 19, some (15, false), false⟩, ⟨.mov 20 (.t 19), some 20, some (15, false), false⟩, ⟨.mov 21 (.t 2), some 21, some (20, true), false⟩, ⟨.bin 22 .eql (.t 21) (.k (I 0)), some 22, some (20, true), false⟩, ⟨.pick 23 (.t 20) (.t 22) (.k (.v (.bool false))), some 23, some (15, false), false⟩, gi 24 (.pick 24 (.t 15) (.k (.v (.bool true))) (.t 23))]
def r_Z146_2 : List GI := [gi 6 (.mov 6 (.k (.v (.bool false))))]
def r_Z146_3 : List GI := [gk 7 0]
def r_Z146_4 : List GI := [gt 25 7, gf 26 3 4, gl 27 26, gn 28 27, gb 29 .lss 25 28]
def r_Z146_5 : List GI := [gf 32 3 4, gl 33 32, gt 34 7, ga 35 33 34 5, gs 36 35 5, gt 37 1, gt 38 2, gd 39 .sub 38 1, gc 40 175 [.t 36, .t 37, .t 39], gi 41 (.un 41 UnOp.not (.t 40))]
def r_Z146_6 : List GI := [gi 6 (.mov 6 (.k (.v (.bool false))))]
def r_Z146_7 : List GI := [gt 30 7, gd 31 .add 30 1, gt 7 31]
def r_Z146_8 : List GI := [gf 42 3 0, gl 43 42]
def r_Z146_9 : List GI := [gd 45 .eql 43 1, gt 44 45]
def r_Z146_10 : List GI := [gf 46 3 1, gl 47 46, gt 48 1, gd 49 .sub 48 1, gc 50 45 [.t 47, .k (I 0), .t 49], gt 51 50, ⟨.fad 52 3 2, some 52, some (51, true), false⟩, ⟨.lod 53 52 (some 2), some 53, some (51, true), false⟩, ⟨.build 54 [.v (.bool false), I 0] [], some 54, some (51, true), false⟩, ⟨.eqs 55 false [false, true] (.t 53) (.t 54), some 55, some (51, true), false⟩, gi 56 (.pick 56 (.t 51) (.t 55) (.k (.v (.bool false)))), gt 6 56]
def r_Z146_11 : List GI := [gd 58 .eql 43 2, gt 57 58]
def r_Z146_12 : List GI := [gf 59 3 1, gl 60 59, gd 61 .eql 60 0, gt 62 61, ⟨.fad 63 3 2, some 63, some (62, true), false⟩, ⟨.lod 64 63 (some 2), some 64, some (62, true), false⟩, ⟨.call 65 176 [.t 64], some 65, some (62, true), true⟩, gi 66 (.pick 66 (.t 62) (.t 65) (.k (.v (.bool false)))), gt 6 66]
def r_Z146_13 : List GI := [gf 67 3 1, gl 68 67, gd 69 .eql 68 0, gt 70 69, ⟨.fad 71 3 2, some 71, some (70, true), false⟩, ⟨.lod 72 71 (some 2), some 72, some (70, true), false⟩, ⟨.build 73 [.v (.bool false), I 0] [], some 73, some (70, true), false⟩, ⟨.eqs 74 false [false, true] (.t 72) (.t 73), some 74, some (70, true), false⟩, gi 75 (.pick 75 (.t 70) (.t 74) (.k (.v (.bool false)))), gt 6 75]
def dc_Z146 : DC := .seq (.z r_Z146_0) (.seq (.seq (.reg r_Z146_1 (some [0, 1, 3, 0, 8, 24, 63, 127, 255, 511, 1023, 2047, 4095, 8191, 16383, 32767, 65535])) (.cond (.t 24) (.seq (.z r_Z146_2) .ret) .skip)) (.seq (.seq (.z r_Z146_3) (.block 0 (.loop (.seq (.seq (.z r_Z146_4) (.cond (.t 29) .skip (.exit 0))) (.seq (.block 1 (.seq (.z r_Z146_5) (.cond (.t 41) (.seq (.z r_Z146_6) .ret) .skip))) (.z r_Z146_7)))))) (.seq (.seq (.z r_Z146_8) (.block 2 (.seq (.z r_Z146_9) (.cond (.t 44) (.seq (.z r_Z146_10) .ret) (.seq (.z r_Z146_11) (.cond (.t 57) (.seq (.z r_Z146_12) .ret) .skip)))))) (.seq (.z r_Z146_13) .ret))))
theorem c_Z146 : cfun Tryz.prog [] 175 = some (76, dc_Z146, [(Res.tmp 6)]) := by kernel_rfl
def r_Z157_0 : List GI := [gk 4 0]
def r_Z157_1 : List GI := [gt 6 0, gd 7 .eql 6 0, gt 8 7, ⟨.mov 9 (.t 1), some 9, some (8, false), false⟩, ⟨.bin 10 .eql (.t 9) (.k (I 0)), some 10, some (8, false), false⟩, gi 11 (.pick 11 (.t 8) (.k (.v (.bool true))) (.t 10)), gt 5 11]
def r_Z157_2 : List GI := [gk 4 0]
def r_Z157_3 : List GI := [gt 13 0, gd 14 .eql 13 1, gt 15 14, ⟨.mov 16 (.t 1), some 16, some (15, true), false⟩, ⟨.bin 17 .eql (.t 16) (.k (I 1)), some 17, some (15, true), false⟩, gi 18 (.pick 18 (.t 15) (.t 17) (.k (.v (.bool false)))), gt 12 18]
def r_Z157_4 : List GI := [gk 4 1]
def r_Z157_5 : List GI := [gk 4 2]
def dc_Z157 : DC := .seq (.z r_Z157_0) (.seq (.block 0 (.seq (.z r_Z157_1) (.cond (.t 5) (.seq (.z r_Z157_2) .ret) (.seq (.z r_Z157_3) (.cond (.t 12) (.seq (.z r_Z157_4) .ret) .skip))))) (.seq (.z r_Z157_5) .ret))
theorem c_Z157 : cfun Tryz.prog [] 201 = some (19, dc_Z157, [(Res.tmp 4)]) := by kernel_rfl
def r_Z177_0 : List GI := [gi 4 (.box 4 2000004 (.t 1) (some 2)), gi 5 (.box 5 2000005 (.t 2) (some 2)), gi 6 (.alloc 6 2000006 [.v (.bool false), I 0])]
def r_Z177_1 : List GI := [gt 7 0]
def r_Z177_2 : List GI := [gd 9 .eql 7 8, gt 8 9]
def r_Z177_3 : List GI := [gs 10 4 2, gc 11 178 [.t 10], gs 12 5 2, gc 13 178 [.t 12], gc 14 201 [.t 11, .t 13], gc 15 179 [.t 14], g0 (.sto 6 (.t 15) (some 2))]
def r_Z177_4 : List GI := [gd 17 .eql 7 9, gt 16 17]
def r_Z177_5 : List GI := [gs 18 4 2, gc 19 178 [.t 18], gc 20 180 [.t 19], gs 21 5 2, gc 22 178 [.t 21], gc 23 180 [.t 22], gc 24 201 [.t 20, .t 23], gc 25 180 [.t 24], gc 26 179 [.t 25], g0 (.sto 6 (.t 26) (some 2))]
def r_Z177_6 : List GI := [gf 27 4 0, gl 28 27, gt 29 28, ⟨.fad 30 5 0, some 30, some (29, false), false⟩, ⟨.lod 31 30 none, some 31, some (29, false), false⟩, gi 32 (.pick 32 (.t 29) (.k (.v (.bool true))) (.t 31))]
def r_Z177_7 : List GI := [gi 33 (.build 33 [.v (.bool false), I 0] [(0, (none, .k (.v (.bool true))))]), g0 (.sto 6 (.t 33) (some 2))]
def r_Z177_8 : List GI := [gt 34 0]
def r_Z177_9 : List GI := [gd 36 .eql 34 3, gt 35 36]
def r_Z177_10 : List GI := [gf 37 4 1, gl 38 37, gf 39 5 1, gl 40 39, gb 41 .add 38 40, gc 42 202 [.t 41], g0 (.sto 6 (.t 42) (some 2))]
def r_Z177_11 : List GI := [gd 44 .eql 34 4, gt 43 44]
def r_Z177_12 : List GI := [gf 45 4 1, gl 46 45, gf 47 5 1, gl 48 47, gb 49 .sub 46 48, gc 50 202 [.t 49], g0 (.sto 6 (.t 50) (some 2))]
def r_Z177_13 : List GI := [gd 52 .eql 34 5, gt 51 52]
def r_Z177_14 : List GI := [gf 53 4 1, gl 54 53, gf 55 5 1, gl 56 55, gb 57 .mul 54 56, gc 58 202 [.t 57], g0 (.sto 6 (.t 58) (some 2))]
def r_Z177_15 : List GI := [gd 60 .eql 34 6, gt 59 60]
def r_Z177_16 : List GI := [gf 61 4 1, gl 62 61, gf 63 5 1, gl 64 63, gb 65 .eql 62 64, gc 66 181 [.t 65], gi 67 (.build 67 [.v (.bool false), I 0] [(1, (none, .t 66))]), g0 (.sto 6 (.t 67) (some 2))]
def r_Z177_17 : List GI := [gf 68 4 1, gl 69 68, gf 70 5 1, gl 71 70, gb 72 .lss 69 71, gc 73 181 [.t 72], gi 74 (.build 74 [.v (.bool false), I 0] [(1, (none, .t 73))]), g0 (.sto 6 (.t 74) (some 2))]
def dc_Z177 : DC := .seq (.z r_Z177_0) (.seq (.seq (.z r_Z177_1) (.block 0 (.seq (.z r_Z177_2) (.cond (.t 8) (.seq (.reg r_Z177_3 (some [0, 1, 0, 7, 15, 31, 63])) .ret) (.seq (.z r_Z177_4) (.cond (.t 16) (.seq (.reg r_Z177_5 (some [0, 1, 3, 0, 15, 31, 63, 127, 255, 511])) .ret) .skip)))))) (.seq (.seq (.z r_Z177_6) (.cond (.t 32) (.seq (.z r_Z177_7) .ret) .skip)) (.seq (.seq (.z r_Z177_8) (.block 1 (.seq (.z r_Z177_9) (.cond (.t 35) (.seq (.z r_Z177_10) .ret) (.seq (.z r_Z177_11) (.cond (.t 43) (.seq (.z r_Z177_12) .ret) (.seq (.z r_Z177_13) (.cond (.t 51) (.seq (.z r_Z177_14) .ret) (.seq (.z r_Z177_15) (.cond (.t 59) (.seq (.z r_Z177_16) .ret) .skip)))))))))) (.seq (.z r_Z177_17) .ret))))
theorem c_Z177 : cfun Tryz.prog [] 182 = some (75, dc_Z177, [(Res.cell 6 (some 2))]) := by kernel_rfl
def r_Z163_0 : List GI := [gi 2 (.box 2 2000002 (.t 0) (some 5)), gi 4 (.alloc 4 2000004 [.v (.bool false), I 0])]
def r_Z163_1 : List GI := [gf 5 2 0, gl 6 5]
def r_Z163_2 : List GI := [gd 8 .eql 6 1, gt 7 8]
def r_Z163_3 : List GI := [gt 9 1, gf 10 2 1, gl 11 10, ga 12 9 11 2, gs 13 12 2, g0 (.sto 4 (.t 13) (some 2))]
def r_Z163_4 : List GI := [gd 15 .eql 6 2, gt 14 15]
def r_Z163_5 : List GI := [gf 16 2 2, gs 17 16 2, g0 (.sto 4 (.t 17) (some 2))]
def r_Z163_6 : List GI := [gd 19 .eql 6 10, gt 18 19]
def r_Z163_7 : List GI := [gf 20 2 4, gl 21 20, gi 22 (.iad 22 21 (.k (I 0)) 5), gs 23 22 5, gt 24 1, gc 25 132 [.t 23, .t 24], gc 26 178 [.t 25], gc 27 180 [.t 26], gc 28 179 [.t 27], g0 (.sto 4 (.t 28) (some 2))]
def r_Z163_8 : List GI := [gd 30 .eql 6 11, gt 29 30]
def r_Z163_9 : List GI := [gf 31 2 4, gl 32 31, gi 33 (.iad 33 32 (.k (I 0)) 5), gs 34 33 5, gt 35 1, gc 36 132 [.t 34, .t 35], gi 37 (.fld 37 (.t 36) 0 none), gc 38 181 [.t 37], gi 39 (.build 39 [.v (.bool false), I 0] [(1, (none, .t 38))]), g0 (.sto 4 (.t 39) (some 2))]
def r_Z163_10 : List GI := [gf 40 2 0, gl 41 40, gf 42 2 4, gl 43 42, gi 44 (.iad 44 43 (.k (I 0)) 5), gs 45 44 5, gt 46 1, gc 47 132 [.t 45, .t 46], gf 48 2 4, gl 49 48, gi 50 (.iad 50 49 (.k (I 1)) 5), gs 51 50 5, gt 52 1, gc 53 132 [.t 51, .t 52], gc 54 182 [.t 41, .t 47, .t 53], g0 (.sto 4 (.t 54) (some 2))]
def dc_Z163 : DC := .seq (.z r_Z163_0) (.seq (.seq (.z r_Z163_1) (.block 0 (.seq (.z r_Z163_2) (.cond (.t 7) (.seq (.z r_Z163_3) .ret) (.seq (.z r_Z163_4) (.cond (.t 14) (.seq (.z r_Z163_5) .ret) (.seq (.z r_Z163_6) (.cond (.t 18) (.seq (.z r_Z163_7) .ret) (.seq (.z r_Z163_8) (.cond (.t 29) (.seq (.z r_Z163_9) .ret) .skip)))))))))) (.seq (.reg r_Z163_10 (some [0, 1, 0, 4, 12, 28, 0, 124, 0, 256, 768, 1792, 0, 8188, 16383, 32767])) .ret))
theorem c_Z163 : cfun Tryz.prog [] 132 = some (55, dc_Z163, [(Res.cell 4 (some 2))]) := by kernel_rfl
def r_Z167_0 : List GI := [gk 2 0]
def r_Z167_1 : List GI := [gt 3 0, gd 4 .eql 3 2]
def r_Z167_2 : List GI := [gk 2 2]
def r_Z167_3 : List GI := [gt 5 0, gi 6 (.bin 6 .sub (.k (I 1)) (.t 5)), gt 2 6]
def dc_Z167 : DC := .seq (.z r_Z167_0) (.seq (.seq (.z r_Z167_1) (.cond (.t 4) (.seq (.z r_Z167_2) .ret) .skip)) (.seq (.z r_Z167_3) .ret))
theorem c_Z167 : cfun Tryz.prog [] 180 = some (7, dc_Z167, [(Res.tmp 2)]) := by kernel_rfl
def r_Z180_0 : List GI := [gi 2 (.alloc 2 2000002 [.v (.bool false), I 0])]
def r_Z180_1 : List GI := [gt 3 0, gd 4 .eql 3 2]
def r_Z180_2 : List GI := [gi 5 (.build 5 [.v (.bool false), I 0] [(0, (none, .k (.v (.bool true))))]), g0 (.sto 2 (.t 5) (some 2))]
def r_Z180_3 : List GI := [gt 6 0, gi 7 (.build 7 [.v (.bool false), I 0] [(1, (none, .t 6))]), g0 (.sto 2 (.t 7) (some 2))]
def dc_Z180 : DC := .seq (.z r_Z180_0) (.seq (.seq (.z r_Z180_1) (.cond (.t 4) (.seq (.z r_Z180_2) .ret) .skip)) (.seq (.z r_Z180_3) .ret))
theorem c_Z180 : cfun Tryz.prog [] 179 = some (8, dc_Z180, [(Res.cell 2 (some 2))]) := by kernel_rfl
def r_Z192_0 : List GI := [gi 1 (.box 1 2000001 (.t 0) (some 2)), gk 2 0]
def r_Z192_1 : List GI := [gf 4 1 0, gl 5 4, gt 3 5]
def r_Z192_2 : List GI := [gk 2 2]
def r_Z192_3 : List GI := [gf 7 1 1, gl 8 7, gd 9 .eql 8 0, gt 6 9]
def r_Z192_4 : List GI := [gk 2 0]
def r_Z192_5 : List GI := [gk 2 1]
def dc_Z192 : DC := .seq (.z r_Z192_0) (.seq (.block 0 (.seq (.z r_Z192_1) (.cond (.t 3) (.seq (.z r_Z192_2) .ret) (.seq (.z r_Z192_3) (.cond (.t 6) (.seq (.z r_Z192_4) .ret) .skip))))) (.seq (.z r_Z192_5) .ret))
theorem c_Z192 : cfun Tryz.prog [] 178 = some (10, dc_Z192, [(Res.tmp 2)]) := by kernel_rfl
def r_Z108_0 : List GI := [gi 2 (.box 2 2000002 (.t 0) (some 2)), gi 3 (.box 3 2000003 (.t 1) (some 5)), gi 4 (.alloc 4 2000004 [I 0, .nul])]
def r_Z108_1 : List GI := [gi 7 (.mov 7 (.k .nul)), gt 5 7]
def r_Z108_2 : List GI := [gk 6 0]
def r_Z108_3 : List GI := [gt 8 6, gf 9 2 1, gl 10 9, gn 11 10, gb 12 .lss 8 11]
def r_Z108_4 : List GI := [gs 15 3 5, gf 16 2 1, gl 17 16, gt 18 6, ga 19 17 18 1, gl 20 19, gc 21 131 [.t 15, .t 20]]
def r_Z108_5 : List GI := [gt 22 5, gf 23 2 1, gl 24 23, gt 25 6, ga 26 24 25 1, gl 27 26, gi 28 (.bsl 28 1 none [.nul] [(0, .t 27)]), gi 29 (.app 29 2000029 (.t 22) (.t 28) 1 24), gt 5 29]
def r_Z108_6 : List GI := [gt 13 6, gd 14 .add 13 1, gt 6 14]
def r_Z108_7 : List GI := [gf 30 2 0, gl 31 30, gt 32 5, gc 33 71 [.t 31, .t 32], g0 (.sto 4 (.t 33) (some 2))]
def dc_Z108 : DC := .seq (.z r_Z108_0) (.seq (.z r_Z108_1) (.seq (.seq (.z r_Z108_2) (.block 0 (.loop (.seq (.seq (.z r_Z108_3) (.cond (.t 12) .skip (.exit 0))) (.seq (.block 1 (.seq (.reg r_Z108_4 (some [0, 0, 2, 0, 14, 30, 63])) (.cond (.t 21) (.z r_Z108_5) .skip))) (.z r_Z108_6)))))) (.seq (.z r_Z108_7) .ret)))
theorem c_Z108 : cfun Tryz.prog [] 72 = some (34, dc_Z108, [(Res.cell 4 (some 2))]) := by kernel_rfl
def r_Z189_0 : List GI := [gi 2 (.box 2 2000002 (.t 0) (some 5)), gi 4 (.mov 4 (.k (.v (.bool false))))]
def r_Z189_1 : List GI := [gs 5 2 5, gt 6 1, gc 7 132 [.t 5, .t 6], gc 8 178 [.t 7], gd 9 .eql 8 1, gt 4 9]
def dc_Z189 : DC := .seq (.z r_Z189_0) (.seq (.z r_Z189_1) .ret)
theorem c_Z189 : cfun Tryz.prog [] 131 = some (10, dc_Z189, [(Res.tmp 4)]) := by kernel_rfl
def r_Z130_0 : List GI := [gi 2 (.box 2 2000002 (.t 0) (some 5)), gi 4 (.mov 4 (.k (.v (.bool false))))]
def r_Z130_1 : List GI := [gt 5 1, gc 6 104 [.t 5], gt 7 6, ⟨.lod 8 2 (some 5), some 8, some (7, true), false⟩, ⟨.mov 9 (.t 1), some 9, some (7, true), false⟩, ⟨.call 10 189 [.t 8, .t 9, .k (I 8)], some 10, some (7, true), true⟩, gi 11 (.pick 11 (.t 7) (.t 10) (.k (.v (.bool false)))), gt 4 11]
def dc_Z130 : DC := .seq (.z r_Z130_0) (.seq (.z r_Z130_1) .ret)
theorem c_Z130 : cfun Tryz.prog [] 146 = some (12, dc_Z130, [(Res.tmp 4)]) := by kernel_rfl
def r_Z150_0 : List GI := [gk 2 0]
def r_Z150_1 : List GI := [gt 4 0, gd 5 .eql 4 1, gt 6 5, ⟨.mov 7 (.t 0), some 7, some (6, false), false⟩, ⟨.bin 8 .eql (.t 7) (.k (I 2)), some 8, some (6, false), false⟩, gi 9 (.pick 9 (.t 6) (.k (.v (.bool true))) (.t 8)), gt 3 9]
def r_Z150_2 : List GI := [gk 2 0]
def r_Z150_3 : List GI := [gt 11 0, gd 12 .eql 11 10, gt 13 12, ⟨.mov 14 (.t 0), some 14, some (13, false), false⟩, ⟨.bin 15 .eql (.t 14) (.k (I 11)), some 15, some (13, false), false⟩, gi 16 (.pick 16 (.t 13) (.k (.v (.bool true))) (.t 15)), gt 10 16]
def r_Z150_4 : List GI := [gk 2 1]
def r_Z150_5 : List GI := [gt 18 0, gi 19 (.bin 19 .leq (.k (I 3)) (.t 18)), gt 20 19, ⟨.mov 21 (.t 0), some 21, some (20, true), false⟩, ⟨.bin 22 .leq (.t 21) (.k (I 9)), some 22, some (20, true), false⟩, gi 23 (.pick 23 (.t 20) (.t 22) (.k (.v (.bool false)))), gt 17 23]
def r_Z150_6 : List GI := [gk 2 2]
def r_Z150_7 : List GI := [gi 2 (.mov 2 (.k (.v (.int .i64 (-1)))))]
def dc_Z150 : DC := .seq (.z r_Z150_0) (.seq (.block 0 (.seq (.z r_Z150_1) (.cond (.t 3) (.seq (.z r_Z150_2) .ret) (.seq (.z r_Z150_3) (.cond (.t 10) (.seq (.z r_Z150_4) .ret) (.seq (.z r_Z150_5) (.cond (.t 17) (.seq (.z r_Z150_6) .ret) .skip))))))) (.seq (.z r_Z150_7) .ret))
theorem c_Z150 : cfun Tryz.prog [] 205 = some (24, dc_Z150, [(Res.tmp 2)]) := by kernel_rfl
def r_Z104_0 : List GI := [gi 3 (.box 3 2000003 (.t 0) (some 5)), gi 6 (.mov 6 (.k (.v (.bool false))))]
def r_Z104_1 : List GI := [gt 9 2, gd 10 .lss 9 0, gt 11 10, ⟨.fad 12 3 4, some 12, some (11, false), false⟩, ⟨.lod 13 12 none, some 13, some (11, false), false⟩, ⟨.len 14 (.t 13), some 14, some (11, false), false⟩, ⟨.fad 15 3 0, some 15, some (11, false), false⟩, ⟨.lod 16 15 none, some 16, some (11, false), false⟩, ⟨.call 17 205 [.t 16], some 17, some (11, false), true⟩, ⟨.bin 18 .neq (.t 14) (.t 17), some 18, some (11, false), false⟩, gi 19 (.pick 19 (.t 11) (.k (.v (.bool true))) (.t 18))]
def r_Z104_2 : List GI := [gi 6 (.mov 6 (.k (.v (.bool false))))]
def r_Z104_3 : List GI := [gf 20 3 0, gl 21 20]
def r_Z104_4 : List GI := [gd 23 .eql 21 1, gt 22 23]
def r_Z104_5 : List GI := [gf 24 3 1, gl 25 24, gt 26 1, gc 27 206 [.t 25, .t 26], gt 28 27, ⟨.fad 29 3 2, some 29, some (28, true), false⟩, ⟨.lod 30 29 (some 2), some 30, some (28, true), false⟩, ⟨.build 31 [.v (.bool false), I 0] [], some 31, some (28, true), false⟩, ⟨.eqs 32 false [false, true] (.t 30) (.t 31), some 32, some (28, true), false⟩, gi 33 (.pick 33 (.t 28) (.t 32) (.k (.v (.bool false)))), gt 6 33]
def r_Z104_6 : List GI := [gd 35 .eql 21 2, gt 34 35]
def r_Z104_7 : List GI := [gf 36 3 1, gl 37 36, gd 38 .eql 37 0, gt 39 38, ⟨.fad 40 3 2, some 40, some (39, true), false⟩, ⟨.lod 41 40 (some 2), some 41, some (39, true), false⟩, ⟨.call 42 203 [.t 41], some 42, some (39, true), true⟩, gi 43 (.pick 43 (.t 39) (.t 42) (.k (.v (.bool false)))), gt 6 43]
def r_Z104_8 : List GI := [gf 44 3 1, gl 45 44, gd 46 .neq 45 0, gt 47 46, ⟨.fad 48 3 2, some 48, some (47, false), false⟩, ⟨.lod 49 48 (some 2), some 49, some (47, false), false⟩, ⟨.build 50 [.v (.bool false), I 0] [], some 50, some (47, false), false⟩, ⟨.eqs 51 true [false, true] (.t 49) (.t 50), some 51, some (47, false), false⟩, gi 52 (.pick 52 (.t 47) (.k (.v (.bool true))) (.t 51))]
def r_Z104_9 : List GI := [gi 6 (.mov 6 (.k (.v (.bool false))))]
def r_Z104_10 : List GI := [gf 53 3 4, gl 54 53, gn 55 54, gk 56 0]
def r_Z104_11 : List GI := [gb 57 .lss 56 55]
def r_Z104_12 : List GI := [ga 58 54 56 5, gs 59 58 5, gi 8 (.alloc 8 2000008 [I 0, I 0, .v (.bool false), I 0, .nul]), g0 (.sto 8 (.t 59) (some 5))]
def r_Z104_13 : List GI := [gs 60 8 5, gt 61 1, gt 62 2, gd 63 .sub 62 1, gc 64 189 [.t 60, .t 61, .t 63], gi 65 (.un 65 UnOp.not (.t 64))]
def r_Z104_14 : List GI := [gi 6 (.mov 6 (.k (.v (.bool false))))]
def r_Z104_15 : List GI := [gd 66 .add 56 1, gt 56 66]
def r_Z104_16 : List GI := [gi 6 (.mov 6 (.k (.v (.bool true))))]
def dc_Z104 : DC := .seq (.z r_Z104_0) (.seq (.seq (.reg r_Z104_1 (some [0, 1, 3, 7, 15, 31, 7, 71, 199, 511, 1023])) (.cond (.t 19) (.seq (.z r_Z104_2) .ret) .skip)) (.seq (.seq (.z r_Z104_3) (.block 0 (.seq (.z r_Z104_4) (.cond (.t 22) (.seq (.z r_Z104_5) .ret) (.seq (.z r_Z104_6) (.cond (.t 34) (.seq (.z r_Z104_7) .ret) .skip)))))) (.seq (.seq (.z r_Z104_8) (.cond (.t 52) (.seq (.z r_Z104_9) .ret) .skip)) (.seq (.seq (.z r_Z104_10) (.block 1 (.loop (.seq (.z r_Z104_11) (.seq (.cond (.t 57) .skip (.exit 1)) (.seq (.block 2 (.seq (.z r_Z104_12) (.seq (.z r_Z104_13) (.cond (.t 65) (.seq (.z r_Z104_14) .ret) .skip)))) (.z r_Z104_15))))))) (.seq (.z r_Z104_16) .ret)))))
theorem c_Z104 : cfun Tryz.prog [] 189 = some (67, dc_Z104, [(Res.tmp 6)]) := by kernel_rfl
def r_Z93_0 : List GI := [gi 1 (.box 1 2000001 (.t 0) (some 2)), gk 2 0]
def r_Z93_1 : List GI := [gf 4 1 0, gl 5 4, gt 3 5]
def r_Z93_2 : List GI := [gk 2 1]
def r_Z93_3 : List GI := [gf 7 1 1, gl 8 7, gd 9 .eql 8 0, gt 6 9]
def r_Z93_4 : List GI := [gk 2 0]
def r_Z93_5 : List GI := [gk 2 2]
def dc_Z93 : DC := .seq (.z r_Z93_0) (.seq (.block 0 (.seq (.z r_Z93_1) (.cond (.t 3) (.seq (.z r_Z93_2) .ret) (.seq (.z r_Z93_3) (.cond (.t 6) (.seq (.z r_Z93_4) .ret) .skip))))) (.seq (.z r_Z93_5) .ret))
theorem c_Z93 : cfun Tryz.prog [] 148 = some (10, dc_Z93, [(Res.tmp 2)]) := by kernel_rfl
def r_Z65_0 : List GI := [gi 2 (.box 2 2000002 (.t 0) (some 2)), gi 4 (.alloc 4 2000004 [.v (.bool false), I 0])]
def r_Z65_1 : List GI := [gf 8 2 0, gs 9 8 2, gt 10 1, gc 11 295 [.t 9, .t 10], gt 7 11, gi 12 (.ext 12 7 0), gi 13 (.ext 13 7 1), gt 5 12, gt 6 13]
def r_Z65_2 : List GI := [gt 14 5, gt 15 6, gi 16 (.mm 16 false (.t 14) (.t 15)), gc 17 254 [.t 16], g0 (.sto 4 (.t 17) (some 2))]
def dc_Z65 : DC := .seq (.z r_Z65_0) (.seq (.z r_Z65_1) (.seq (.z r_Z65_2) .ret))
theorem c_Z65 : cfun Tryz.prog [] 294 = some (18, dc_Z65, [(Res.cell 4 (some 2))]) := by kernel_rfl
def r_Z39_0 : List GI := [gi 2 (.box 2 2000002 (.t 0) (some 1)), gi 4 (.alloc 4 2000004 [.v (.bool false), I 0])]
def r_Z39_1 : List GI := [gt 5 1, gf 6 2 0, gl 7 6, ga 8 5 7 2, gs 9 8 2, g0 (.sto 4 (.t 9) (some 2))]
def dc_Z39 : DC := .seq (.z r_Z39_0) (.seq (.z r_Z39_1) .ret)
theorem c_Z39 : cfun Tryz.prog [] 275 = some (10, dc_Z39, [(Res.cell 4 (some 2))]) := by kernel_rfl
def r_Z32_0 : List GI := [gi 2 (.box 2 2000002 (.t 0) (some 2)), gi 4 (.alloc 4 2000004 [.v (.bool false), I 0])]
def r_Z32_1 : List GI := [gf 5 2 0, gs 6 5 2, g0 (.sto 4 (.t 6) (some 2))]
def dc_Z32 : DC := .seq (.z r_Z32_0) (.seq (.z r_Z32_1) .ret)
theorem c_Z32 : cfun Tryz.prog [] 276 = some (7, dc_Z32, [(Res.cell 4 (some 2))]) := by kernel_rfl
def r_Z28_0 : List GI := [gi 2 (.box 2 2000002 (.t 0) (some 2)), gi 4 (.alloc 4 2000004 [.v (.bool false), I 0])]
def r_Z28_1 : List GI := [gf 5 2 0, gs 6 5 2, gt 7 1, ⟨.call 8 282 [.t 6, .t 7, .k (.fn 286 [])], some 8, none, true⟩, g0 (.sto 4 (.t 8) (some 2))]
def dc_Z28 : DC := .seq (.z r_Z28_0) (.seq (.z r_Z28_1) .ret)
theorem c_Z28 : cfun Tryz.prog [] 285 = some (9, dc_Z28, [(Res.cell 4 (some 2))]) := by kernel_rfl
def r_Z25_0 : List GI := [gk 4 0]
def r_Z25_1 : List GI := [gt 5 0, gt 6 1, gb 7 .sub 5 6, gt 4 7]
def dc_Z25 : DC := .seq (.z r_Z25_0) (.seq (.z r_Z25_1) .ret)
theorem c_Z25 : cfun Tryz.prog [] 286 = some (8, dc_Z25, [(Res.tmp 4)]) := by kernel_rfl
def r_Z45_0 : List GI := [gi 2 (.box 2 2000002 (.t 0) (some 2)), gi 4 (.alloc 4 2000004 [.v (.bool false), I 0])]
def r_Z45_1 : List GI := [gf 5 2 0, gs 6 5 2, gt 7 1, ⟨.call 8 290 [.t 6, .t 7, .k (.fn 291 [])], some 8, none, true⟩, g0 (.sto 4 (.t 8) (some 2))]
def dc_Z45 : DC := .seq (.z r_Z45_0) (.seq (.z r_Z45_1) .ret)
theorem c_Z45 : cfun Tryz.prog [] 289 = some (9, dc_Z45, [(Res.cell 4 (some 2))]) := by kernel_rfl
def r_Z34_0 : List GI := [gi 4 (.mov 4 (.k (.v (.bool false))))]
def r_Z34_1 : List GI := [gt 5 0, gt 6 1, gb 7 .eql 5 6, gt 4 7]
def dc_Z34 : DC := .seq (.z r_Z34_0) (.seq (.z r_Z34_1) .ret)
theorem c_Z34 : cfun Tryz.prog [] 291 = some (8, dc_Z34, [(Res.tmp 4)]) := by kernel_rfl
end
end Go.Proofs.YtepkimfmncedcaaGreat
