/-
  Functions of the program read as code on plain data. Closed facts of the program alone.
-/
import Derived.KernelRfl
import Derived.Test.YtibknjpbbeackaaGreatRows
import Derived.Test.YtibknjpbbeackaaGreatJSVGo
import Derived.Test.YtibknjpbbeackaaGreatJSVTbD
namespace Go.Proofs.YtibknjpbbeackaaGreat
open Go.RowKit
noncomputable section
def r_Z116_0 : List GI := [gi 4 (.mov 4 (.k (.v (.bool false))))]
def r_Z116_1 : List GI := [gt 7 1, gc 8 71 [.t 7], gi 9 (.un 9 UnOp.not (.t 8)), gt 10 9, ⟨.mov 11 (.t 0), some 11, some (10, false), false⟩, ⟨.len 12 (.t 11), some 12, some (10, false), false⟩, ⟨.bin 13 .gtr (.t 12) (.k (I 400)), some 13, some (10, false), false⟩, gi 14 (.pick 14 (.t 10) (.k (.v (.bool true))) (.t 13))]
def r_Z116_2 : List GI := [gi 4 (.mov 4 (.k (.v (.bool false))))]
def r_Z116_3 : List GI := [gt 15 0, gn 16 15, gk 17 0]
def r_Z116_4 : List GI := [gb 18 .lss 17 16]
def r_Z116_5 : List GI := [ga 19 15 17 1, gl 20 19, gt 6 20]
def r_Z116_6 : List GI := [gt 21 6, gn 22 21, gt 23 1, gb 24 .neq 22 23, gt 25 24, ⟨.mov 26 (.t 6), some 26, some (25, false), false⟩, ⟨.call 27 72 [.t 26], some 27, some (25, false), true⟩, ⟨.un 28 UnOp.not (.t 27), some 28, some (25, false), false⟩, gi 29 (.pick 29 (.t 25) (.k (.v (.bool true))) (.t 28))]
def r_Z116_7 : List GI := [gi 4 (.mov 4 (.k (.v (.bool false))))]
def r_Z116_8 : List GI := [gd 30 .add 17 1, gt 17 30]
def r_Z116_9 : List GI := [gi 4 (.mov 4 (.k (.v (.bool true))))]
def dc_Z116 : DC := .seq (.z r_Z116_0) (.seq (.seq (.z r_Z116_1) (.cond (.t 14) (.seq (.z r_Z116_2) .ret) .skip)) (.seq (.seq (.z r_Z116_3) (.block 0 (.loop (.seq (.z r_Z116_4) (.seq (.cond (.t 18) .skip (.exit 0)) (.seq (.block 1 (.seq (.z r_Z116_5) (.seq (.z r_Z116_6) (.cond (.t 29) (.seq (.z r_Z116_7) .ret) .skip)))) (.z r_Z116_8))))))) (.seq (.z r_Z116_9) .ret)))
theorem c_Z116 : cfun Tryz.prog [] 44 = some (31, dc_Z116, [(Res.tmp 4)]) := by kernel_rfl
def r_Z108_0 : List GI := [gi 1 (.box 1 2000001 (.t 0) (some 2)), gi 2 (.mov 2 (.k (.v (.bool false))))]
def r_Z108_1 : List GI := [gk 3 0]
def r_Z108_2 : List GI := [gt 4 3, gf 5 1 1, gl 6 5, gn 7 6, gb 8 .lss 4 7]
def r_Z108_3 : List GI := [gf 11 1 1, gl 12 11, gt 13 3, ga 14 12 13 1, gl 15 14, gc 16 106 [.t 15], gi 17 (.un 17 UnOp.not (.t 16)), gt 18 17, ⟨.fad 19 1 1, some 19, some (18, false), false⟩, ⟨.lod 20 19 none, some 20, some (18, false), false⟩, ⟨.mov 21 (.t 3), some 21, some (18, false), false⟩, ⟨.iad 22 20 (.t 21) 1, some 22, some (18, false), false⟩, ⟨.lod 23 22 none, some 23, some (18, false), false⟩, ⟨.len 24 (.t 23), some 24, some (18, false), false⟩, ⟨.fad 25 1 0, some 25, some (18, false), false⟩, ⟨.lod 26 25 none, some 26, some (18, false), false⟩, ⟨.bin 27 .neq (.t 24) (.t 26), some 27, some (18, false), false⟩, gi 28 (.pick 28 (.t 18) (.k (.v (.bool true))) (.t 27)), gt 29 28, ⟨.mov 30 (.t 3), some 30, some (29, false), false⟩, ⟨.bin 31 .gtr (.t 30) (.k (I 0)), some 31, some (29, false), false⟩, ⟨.mov 32 (.t 31), some 32, some (29, false), false⟩, ⟨.fad 33 1 1, some 33, some (32, true), false⟩, ⟨.lod 34 33 none, some 34, some (32, true), false⟩, ⟨.mov 35 (.t 3), some 35, some (32, true), false⟩, ⟨.bin 36 .sub (.t 35) (.k (I 1)), some 36, some (32, true), false⟩, ⟨.iad 37 34 (.t 36) 1, some 37, some (32, true), false⟩, ⟨.lod 38 37 none, some 38, some (32, true), false⟩, ⟨.fad 39 1 1, some 39, some (32, true), false⟩, ⟨.lod 40 39 none, some 40, some (32, true), false⟩, ⟨.mov 41 (.t 3), some 41, some (32, true), false⟩, ⟨.iad 42 40 (.t 41) 1, some 42, some (32, true), false⟩, ⟨.lod 43 42 none, some 43, some (32, true), false⟩, ⟨.call 44 107 [.t 38, .t 43], some 44, some (32, true), true⟩, ⟨.bin 45 .gtr (.t 44) (.k (I 0)), some 45, some (32, true), false⟩, ⟨.pick 46 (.t 32) (.t 45) (.k (.v (.bool false))), some 46, some (29, false), false⟩, gi 47 (.pick 47 (.t 29) (.k (.v (.bool true))) (.t 46))]
def r_Z108_4 : List GI := [gi 2 (.mov 2 (.k (.v (.bool false))))]
def r_Z108_5 : List GI := [gt 9 3, gd 10 .add 9 1, gt 3 10]
def r_Z108_6 : List GI := [gf 48 1 0, gl 49 48, gc 50 101 [.t 49, .k (I 1), .k (I 6)], gt 51 50, ⟨.fad 52 1 1, some 52, some (51, true), false⟩, ⟨.lod 53 52 none, some 53, some (51, true), false⟩, ⟨.len 54 (.t 53), some 54, some (51, true), false⟩, ⟨.bin 55 .leq (.t 54) (.k (I 400)), some 55, some (51, true), false⟩, gi 56 (.pick 56 (.t 51) (.t 55) (.k (.v (.bool false)))), gt 2 56]
def dc_Z108 : DC := .seq (.z r_Z108_0) (.seq (.seq (.z r_Z108_1) (.block 0 (.loop (.seq (.seq (.z r_Z108_2) (.cond (.t 8) .skip (.exit 0))) (.seq (.block 1 (.seq (.reg r_Z108_3 (some [0, 1, 0, 7, 15, 31, 63, 127, 255, 511, 255, 2047, 4095, 8191, 255, 16639, 65535, 131071, 262143, 524287, 1048575, 2097151, 4194303, 8388607, 4194303, 20971519, 67108863, 134217727, 4194303, 272629759, 4194303, 1883242495, 4030726143, 8589934591, 17179869183, 34359738367, 68719476735])) (.cond (.t 47) (.seq (.z r_Z108_4) .ret) .skip))) (.z r_Z108_5)))))) (.seq (.z r_Z108_6) .ret))
theorem c_Z108 : cfun Tryz.prog [] 62 = some (57, dc_Z108, [(Res.tmp 2)]) := by kernel_rfl
def r_Z161_0 : List GI := [gi 4 (.alloc 4 2000004 [I 0, .nul])]
def r_Z161_1 : List GI := [gt 7 0, gi 8 (.build 8 [I 0, .nul] [(0, (none, .t 7))]), gi 5 (.alloc 5 2000005 [I 0, .nul]), g0 (.sto 5 (.t 8) (some 2))]
def r_Z161_2 : List GI := [gt 9 1, gn 10 9, gd 11 .gtr 10 400]
def r_Z161_3 : List GI := [gs 12 5 2, g0 (.sto 4 (.t 12) (some 2))]
def r_Z161_4 : List GI := [gk 6 0]
def r_Z161_5 : List GI := [gt 13 6, gt 14 1, gn 15 14, gb 16 .lss 13 15]
def r_Z161_6 : List GI := [gf 19 5 1, gl 20 19, gt 21 1, gt 22 6, ga 23 21 22 1, gl 24 23, gc 25 108 [.t 20, .t 24], gf 26 5 1, g0 (.sto 26 (.t 25) none)]
def r_Z161_7 : List GI := [gt 17 6, gd 18 .add 17 1, gt 6 18]
def r_Z161_8 : List GI := [gs 27 5 2, g0 (.sto 4 (.t 27) (some 2))]
def dc_Z161 : DC := .seq (.z r_Z161_0) (.seq (.z r_Z161_1) (.seq (.seq (.z r_Z161_2) (.cond (.t 11) (.seq (.z r_Z161_3) .ret) .skip)) (.seq (.seq (.z r_Z161_4) (.block 0 (.loop (.seq (.seq (.z r_Z161_5) (.cond (.t 16) .skip (.exit 0))) (.seq (.block 1 (.reg r_Z161_6 (some [0, 1, 0, 0, 12, 28, 63, 127, 255]))) (.z r_Z161_7)))))) (.seq (.z r_Z161_8) .ret))))
theorem c_Z161 : cfun Tryz.prog [] 63 = some (28, dc_Z161, [(Res.cell 4 (some 2))]) := by kernel_rfl
def r_Z166_0 : List GI := [gk 2 0]
def r_Z166_1 : List GI := [gt 3 0]
def r_Z166_2 : List GI := [gd 5 .eql 3 1, gt 4 5]
def r_Z166_3 : List GI := [gd 6 .eql 3 2, gt 4 6]
def r_Z166_4 : List GI := [gk 2 0]
def r_Z166_5 : List GI := [gd 8 .eql 3 10, gt 7 8]
def r_Z166_6 : List GI := [gd 9 .eql 3 11, gt 7 9]
def r_Z166_7 : List GI := [gk 2 1]
def r_Z166_8 : List GI := [gd 11 .eql 3 3, gt 10 11]
def r_Z166_9 : List GI := [gd 12 .eql 3 4, gt 10 12]
def r_Z166_10 : List GI := [gd 13 .eql 3 5, gt 10 13]
def r_Z166_11 : List GI := [gd 14 .eql 3 6, gt 10 14]
def r_Z166_12 : List GI := [gd 15 .eql 3 7, gt 10 15]
def r_Z166_13 : List GI := [gd 16 .eql 3 8, gt 10 16]
def r_Z166_14 : List GI := [gd 17 .eql 3 9, gt 10 17]
def r_Z166_15 : List GI := [gk 2 2]
def r_Z166_16 : List GI := [gi 2 (.mov 2 (.k (.v (.int .i64 (-1)))))]
def dc_Z166 : DC := .seq (.z r_Z166_0) (.seq (.seq (.z r_Z166_1) (.block 0 (.seq (.seq (.z r_Z166_2) (.cond (.t 4) .skip (.z r_Z166_3))) (.cond (.t 4) (.seq (.z r_Z166_4) .ret) (.seq (.seq (.z r_Z166_5) (.cond (.t 7) .skip (.z r_Z166_6))) (.cond (.t 7) (.seq (.z r_Z166_7) .ret) (.seq (.seq (.z r_Z166_8) (.cond (.t 10) .skip (.seq (.z r_Z166_9) (.cond (.t 10) .skip (.seq (.z r_Z166_10) (.cond (.t 10) .skip (.seq (.z r_Z166_11) (.cond (.t 10) .skip (.seq (.z r_Z166_12) (.cond (.t 10) .skip (.seq (.z r_Z166_13) (.cond (.t 10) .skip (.z r_Z166_14))))))))))))) (.cond (.t 10) (.seq (.z r_Z166_15) .ret) .skip)))))))) (.seq (.z r_Z166_16) .ret))
theorem c_Z166 : cfun Tryz.prog [] 170 = some (18, dc_Z166, [(Res.tmp 2)]) := by kernel_rfl
def r_Z171_0 : List GI := [gk 2 0]
def r_Z171_1 : List GI := [gt 3 0]
def r_Z171_2 : List GI := [gk 2 1]
def r_Z171_3 : List GI := [gk 2 0]
def dc_Z171 : DC := .seq (.z r_Z171_0) (.seq (.seq (.z r_Z171_1) (.cond (.t 3) (.seq (.z r_Z171_2) .ret) .skip)) (.seq (.z r_Z171_3) .ret))
theorem c_Z171 : cfun Tryz.prog [] 161 = some (4, dc_Z171, [(Res.tmp 2)]) := by kernel_rfl
def r_Z120_0 : List GI := [gi 2 (.box 2 2000002 (.t 0) (some 5)), gi 4 (.mov 4 (.k (.v (.bool false))))]
def r_Z120_1 : List GI := [gt 5 1, gc 6 101 [.t 5, .k (I 1), .k (I 6)], gt 7 6, ⟨.lod 8 2 (some 5), some 8, some (7, true), false⟩, ⟨.mov 9 (.t 1), some 9, some (7, true), false⟩, ⟨.call 10 155 [.t 8, .t 9, .k (I 8)], some 10, some (7, true), true⟩, gi 11 (.pick 11 (.t 7) (.t 10) (.k (.v (.bool false)))), gt 4 11]
def dc_Z120 : DC := .seq (.z r_Z120_0) (.seq (.z r_Z120_1) .ret)
theorem c_Z120 : cfun Tryz.prog [] 103 = some (12, dc_Z120, [(Res.tmp 4)]) := by kernel_rfl
def r_Z128_0 : List GI := [gi 3 (.box 3 2000003 (.t 0) (some 5)), gi 6 (.mov 6 (.k (.v (.bool false))))]
def r_Z128_1 : List GI := [gf 8 3 4, gl 9 8, gn 10 9, gf 11 3 0, gl 12 11, gc 13 170 [.t 12], gb 14 .neq 10 13, gt 15 14, ⟨.fad 16 3 4, some 16, some (15, false), false⟩, ⟨.lod 17 16 none, some 17, some (15, false), false⟩, ⟨.len 18 (.t 17), some 18, some (15, false), false⟩, ⟨.bin 19 .gtr (.t 18) (.k (I 0)), some 19, some (15, false), false⟩, ⟨.mov 20 (.t 19), some 20, some (15, false), false⟩, ⟨.mov 21 (.t 2), some 21, some (20, true), false⟩, ⟨.bin 22 .eql (.t 21) (.k (I 0)), some 22, some (20, true), false⟩, ⟨.pick 23 (.t 20) (.t 22) (.k (.v (.bool false))), some 23, some (15, false), false⟩, gi 24 (.pick 24 (.t 15) (.k (.v (.bool true))) (.t 23))]
def r_Z128_2 : List GI := [gi 6 (.mov 6 (.k (.v (.bool false))))]
def r_Z128_3 : List GI := [gk 7 0]
def r_Z128_4 : List GI := [gt 25 7, gf 26 3 4, gl 27 26, gn 28 27, gb 29 .lss 25 28]
def r_Z128_5 : List GI := [gf 32 3 4, gl 33 32, gt 34 7, ga 35 33 34 5, gs 36 35 5, gt 37 1, gt 38 2, gd 39 .sub 38 1, gc 40 155 [.t 36, .t 37, .t 39], gi 41 (.un 41 UnOp.not (.t 40))]
def r_Z128_6 : List GI := [gi 6 (.mov 6 (.k (.v (.bool false))))]
def r_Z128_7 : List GI := [gt 30 7, gd 31 .add 30 1, gt 7 31]
def r_Z128_8 : List GI := [gf 42 3 0, gl 43 42]
def r_Z128_9 : List GI := [gd 45 .eql 43 1, gt 44 45]
def r_Z128_10 : List GI := [gf 46 3 1, gl 47 46, gt 48 1, gd 49 .sub 48 1, gc 50 101 [.t 47, .k (I 0), .t 49], gt 51 50, ⟨.fad 52 3 2, some 52, some (51, true), false⟩, ⟨.lod 53 52 (some 2), some 53, some (51, true), false⟩, ⟨.build 54 [.v (.bool false), I 0] [], some 54, some (51, true), false⟩, ⟨.eqs 55 false [false, true] (.t 53) (.t 54), some 55, some (51, true), false⟩, gi 56 (.pick 56 (.t 51) (.t 55) (.k (.v (.bool false)))), gt 6 56]
def r_Z128_11 : List GI := [gd 58 .eql 43 2, gt 57 58]
def r_Z128_12 : List GI := [gf 59 3 1, gl 60 59, gd 61 .eql 60 0, gt 62 61, ⟨.fad 63 3 2, some 63, some (62, true), false⟩, ⟨.lod 64 63 (some 2), some 64, some (62, true), false⟩, ⟨.call 65 156 [.t 64], some 65, some (62, true), true⟩, gi 66 (.pick 66 (.t 62) (.t 65) (.k (.v (.bool false)))), gt 6 66]
def r_Z128_13 : List GI := [gf 67 3 1, gl 68 67, gd 69 .eql 68 0, gt 70 69, ⟨.fad 71 3 2, some 71, some (70, true), false⟩, ⟨.lod 72 71 (some 2), some 72, some (70, true), false⟩, ⟨.build 73 [.v (.bool false), I 0] [], some 73, some (70, true), false⟩, ⟨.eqs 74 false [false, true] (.t 72) (.t 73), some 74, some (70, true), false⟩, gi 75 (.pick 75 (.t 70) (.t 74) (.k (.v (.bool false)))), gt 6 75]
def dc_Z128 : DC := .seq (.z r_Z128_0) (.seq (.seq (.reg r_Z128_1 (some [0, 1, 3, 0, 8, 24, 63, 127, 255, 511, 1023, 2047, 4095, 8191, 16383, 32767, 65535])) (.cond (.t 24) (.seq (.z r_Z128_2) .ret) .skip)) (.seq (.seq (.z r_Z128_3) (.block 0 (.loop (.seq (.seq (.z r_Z128_4) (.cond (.t 29) .skip (.exit 0))) (.seq (.block 1 (.seq (.z r_Z128_5) (.cond (.t 41) (.seq (.z r_Z128_6) .ret) .skip))) (.z r_Z128_7)))))) (.seq (.seq (.z r_Z128_8) (.block 2 (.seq (.z r_Z128_9) (.cond (.t 44) (.seq (.z r_Z128_10) .ret) (.seq (.z r_Z128_11) (.cond (.t 57) (.seq (.z r_Z128_12) .ret) .skip)))))) (.seq (.z r_Z128_13) .ret))))
theorem c_Z128 : cfun Tryz.prog [] 155 = some (76, dc_Z128, [(Res.tmp 6)]) := by kernel_rfl
def r_Z138_0 : List GI := [gk 4 0]
def r_Z138_1 : List GI := [gt 6 0, gd 7 .eql 6 0, gt 8 7, ⟨.mov 9 (.t 1), some 9, some (8, false), false⟩, ⟨.bin 10 .eql (.t 9) (.k (I 0)), some 10, some (8, false), false⟩, gi 11 (.pick 11 (.t 8) (.k (.v (.bool true))) (.t 10)), gt 5 11]
def r_Z138_2 : List GI := [gk 4 0]
def r_Z138_3 : List GI := [gt 13 0, gd 14 .eql 13 1, gt 15 14, ⟨.mov 16 (.t 1), some 16, some (15, true), false⟩, ⟨.bin 17 .eql (.t 16) (.k (I 1)), some 17, some (15, true), false⟩, gi 18 (.pick 18 (.t 15) (.t 17) (.k (.v (.bool false)))), gt 12 18]
def r_Z138_4 : List GI := [gk 4 1]
def r_Z138_5 : List GI := [gk 4 2]
def dc_Z138 : DC := .seq (.z r_Z138_0) (.seq (.block 0 (.seq (.z r_Z138_1) (.cond (.t 5) (.seq (.z r_Z138_2) .ret) (.seq (.z r_Z138_3) (.cond (.t 12) (.seq (.z r_Z138_4) .ret) .skip))))) (.seq (.z r_Z138_5) .ret))
theorem c_Z138 : cfun Tryz.prog [] 179 = some (19, dc_Z138, [(Res.tmp 4)]) := by kernel_rfl
def r_Z157_0 : List GI := [gi 4 (.box 4 2000004 (.t 1) (some 2)), gi 5 (.box 5 2000005 (.t 2) (some 2)), gi 6 (.alloc 6 2000006 [.v (.bool false), I 0])]
def r_Z157_1 : List GI := [gt 7 0]
def r_Z157_2 : List GI := [gd 9 .eql 7 8, gt 8 9]
def r_Z157_3 : List GI := [gs 10 4 2, gc 11 158 [.t 10], gs 12 5 2, gc 13 158 [.t 12], gc 14 179 [.t 11, .t 13], gc 15 159 [.t 14], g0 (.sto 6 (.t 15) (some 2))]
def r_Z157_4 : List GI := [gd 17 .eql 7 9, gt 16 17]
def r_Z157_5 : List GI := [gs 18 4 2, gc 19 158 [.t 18], gc 20 160 [.t 19], gs 21 5 2, gc 22 158 [.t 21], gc 23 160 [.t 22], gc 24 179 [.t 20, .t 23], gc 25 160 [.t 24], gc 26 159 [.t 25], g0 (.sto 6 (.t 26) (some 2))]
def r_Z157_6 : List GI := [gf 27 4 0, gl 28 27, gt 29 28, ⟨.fad 30 5 0, some 30, some (29, false), false⟩, ⟨.lod 31 30 none, some 31, some (29, false), false⟩, gi 32 (.pick 32 (.t 29) (.k (.v (.bool true))) (.t 31))]
def r_Z157_7 : List GI := [gi 33 (.build 33 [.v (.bool false), I 0] [(0, (none, .k (.v (.bool true))))]), g0 (.sto 6 (.t 33) (some 2))]
def r_Z157_8 : List GI := [gt 34 0]
def r_Z157_9 : List GI := [gd 36 .eql 34 3, gt 35 36]
def r_Z157_10 : List GI := [gf 37 4 1, gl 38 37, gf 39 5 1, gl 40 39, gb 41 .add 38 40, gc 42 180 [.t 41], g0 (.sto 6 (.t 42) (some 2))]
def r_Z157_11 : List GI := [gd 44 .eql 34 4, gt 43 44]
def r_Z157_12 : List GI := [gf 45 4 1, gl 46 45, gf 47 5 1, gl 48 47, gb 49 .sub 46 48, gc 50 180 [.t 49], g0 (.sto 6 (.t 50) (some 2))]
def r_Z157_13 : List GI := [gd 52 .eql 34 5, gt 51 52]
def r_Z157_14 : List GI := [gf 53 4 1, gl 54 53, gf 55 5 1, gl 56 55, gb 57 .mul 54 56, gc 58 180 [.t 57], g0 (.sto 6 (.t 58) (some 2))]
def r_Z157_15 : List GI := [gd 60 .eql 34 6, gt 59 60]
def r_Z157_16 : List GI := [gf 61 4 1, gl 62 61, gf 63 5 1, gl 64 63, gb 65 .eql 62 64, gc 66 161 [.t 65], gi 67 (.build 67 [.v (.bool false), I 0] [(1, (none, .t 66))]), g0 (.sto 6 (.t 67) (some 2))]
def r_Z157_17 : List GI := [gf 68 4 1, gl 69 68, gf 70 5 1, gl 71 70, gb 72 .lss 69 71, gc 73 161 [.t 72], gi 74 (.build 74 [.v (.bool false), I 0] [(1, (none, .t 73))]), g0 (.sto 6 (.t 74) (some 2))]
def dc_Z157 : DC := .seq (.z r_Z157_0) (.seq (.seq (.z r_Z157_1) (.block 0 (.seq (.z r_Z157_2) (.cond (.t 8) (.seq (.reg r_Z157_3 (some [0, 1, 0, 7, 15, 31, 63])) .ret) (.seq (.z r_Z157_4) (.cond (.t 16) (.seq (.reg r_Z157_5 (some [0, 1, 3, 0, 15, 31, 63, 127, 255, 511])) .ret) .skip)))))) (.seq (.seq (.z r_Z157_6) (.cond (.t 32) (.seq (.z r_Z157_7) .ret) .skip)) (.seq (.seq (.z r_Z157_8) (.block 1 (.seq (.z r_Z157_9) (.cond (.t 35) (.seq (.z r_Z157_10) .ret) (.seq (.z r_Z157_11) (.cond (.t 43) (.seq (.z r_Z157_12) .ret) (.seq (.z r_Z157_13) (.cond (.t 51) (.seq (.z r_Z157_14) .ret) (.seq (.z r_Z157_15) (.cond (.t 59) (.seq (.z r_Z157_16) .ret) .skip)))))))))) (.seq (.z r_Z157_17) .ret))))
theorem c_Z157 : cfun Tryz.prog [] 162 = some (75, dc_Z157, [(Res.cell 6 (some 2))]) := by kernel_rfl
def r_Z144_0 : List GI := [gi 2 (.box 2 2000002 (.t 0) (some 5)), gi 4 (.alloc 4 2000004 [.v (.bool false), I 0])]
def r_Z144_1 : List GI := [gf 5 2 0, gl 6 5]
def r_Z144_2 : List GI := [gd 8 .eql 6 1, gt 7 8]
def r_Z144_3 : List GI := [gt 9 1, gf 10 2 1, gl 11 10, ga 12 9 11 2, gs 13 12 2, g0 (.sto 4 (.t 13) (some 2))]
def r_Z144_4 : List GI := [gd 15 .eql 6 2, gt 14 15]
def r_Z144_5 : List GI := [gf 16 2 2, gs 17 16 2, g0 (.sto 4 (.t 17) (some 2))]
def r_Z144_6 : List GI := [gd 19 .eql 6 10, gt 18 19]
def r_Z144_7 : List GI := [gf 20 2 4, gl 21 20, gi 22 (.iad 22 21 (.k (I 0)) 5), gs 23 22 5, gt 24 1, gc 25 110 [.t 23, .t 24], gc 26 158 [.t 25], gc 27 160 [.t 26], gc 28 159 [.t 27], g0 (.sto 4 (.t 28) (some 2))]
def r_Z144_8 : List GI := [gd 30 .eql 6 11, gt 29 30]
def r_Z144_9 : List GI := [gf 31 2 4, gl 32 31, gi 33 (.iad 33 32 (.k (I 0)) 5), gs 34 33 5, gt 35 1, gc 36 110 [.t 34, .t 35], gi 37 (.fld 37 (.t 36) 0 none), gc 38 161 [.t 37], gi 39 (.build 39 [.v (.bool false), I 0] [(1, (none, .t 38))]), g0 (.sto 4 (.t 39) (some 2))]
def r_Z144_10 : List GI := [gf 40 2 0, gl 41 40, gf 42 2 4, gl 43 42, gi 44 (.iad 44 43 (.k (I 0)) 5), gs 45 44 5, gt 46 1, gc 47 110 [.t 45, .t 46], gf 48 2 4, gl 49 48, gi 50 (.iad 50 49 (.k (I 1)) 5), gs 51 50 5, gt 52 1, gc 53 110 [.t 51, .t 52], gc 54 162 [.t 41, .t 47, .t 53], g0 (.sto 4 (.t 54) (some 2))]
def dc_Z144 : DC := .seq (.z r_Z144_0) (.seq (.seq (.z r_Z144_1) (.block 0 (.seq (.z r_Z144_2) (.cond (.t 7) (.seq (.z r_Z144_3) .ret) (.seq (.z r_Z144_4) (.cond (.t 14) (.seq (.z r_Z144_5) .ret) (.seq (.z r_Z144_6) (.cond (.t 18) (.seq (.z r_Z144_7) .ret) (.seq (.z r_Z144_8) (.cond (.t 29) (.seq (.z r_Z144_9) .ret) .skip)))))))))) (.seq (.reg r_Z144_10 (some [0, 1, 0, 4, 12, 28, 0, 124, 0, 256, 768, 1792, 0, 8188, 16383, 32767])) .ret))
theorem c_Z144 : cfun Tryz.prog [] 110 = some (55, dc_Z144, [(Res.cell 4 (some 2))]) := by kernel_rfl
def r_Z147_0 : List GI := [gk 2 0]
def r_Z147_1 : List GI := [gt 3 0, gd 4 .eql 3 2]
def r_Z147_2 : List GI := [gk 2 2]
def r_Z147_3 : List GI := [gt 5 0, gi 6 (.bin 6 .sub (.k (I 1)) (.t 5)), gt 2 6]
def dc_Z147 : DC := .seq (.z r_Z147_0) (.seq (.seq (.z r_Z147_1) (.cond (.t 4) (.seq (.z r_Z147_2) .ret) .skip)) (.seq (.z r_Z147_3) .ret))
theorem c_Z147 : cfun Tryz.prog [] 160 = some (7, dc_Z147, [(Res.tmp 2)]) := by kernel_rfl
def r_Z160_0 : List GI := [gi 2 (.alloc 2 2000002 [.v (.bool false), I 0])]
def r_Z160_1 : List GI := [gt 3 0, gd 4 .eql 3 2]
def r_Z160_2 : List GI := [gi 5 (.build 5 [.v (.bool false), I 0] [(0, (none, .k (.v (.bool true))))]), g0 (.sto 2 (.t 5) (some 2))]
def r_Z160_3 : List GI := [gt 6 0, gi 7 (.build 7 [.v (.bool false), I 0] [(1, (none, .t 6))]), g0 (.sto 2 (.t 7) (some 2))]
def dc_Z160 : DC := .seq (.z r_Z160_0) (.seq (.seq (.z r_Z160_1) (.cond (.t 4) (.seq (.z r_Z160_2) .ret) .skip)) (.seq (.z r_Z160_3) .ret))
theorem c_Z160 : cfun Tryz.prog [] 159 = some (8, dc_Z160, [(Res.cell 2 (some 2))]) := by kernel_rfl
def r_Z172_0 : List GI := [gi 1 (.box 1 2000001 (.t 0) (some 2)), gk 2 0]
def r_Z172_1 : List GI := [gf 4 1 0, gl 5 4, gt 3 5]
def r_Z172_2 : List GI := [gk 2 2]
def r_Z172_3 : List GI := [gf 7 1 1, gl 8 7, gd 9 .eql 8 0, gt 6 9]
def r_Z172_4 : List GI := [gk 2 0]
def r_Z172_5 : List GI := [gk 2 1]
def dc_Z172 : DC := .seq (.z r_Z172_0) (.seq (.block 0 (.seq (.z r_Z172_1) (.cond (.t 3) (.seq (.z r_Z172_2) .ret) (.seq (.z r_Z172_3) (.cond (.t 6) (.seq (.z r_Z172_4) .ret) .skip))))) (.seq (.z r_Z172_5) .ret))
theorem c_Z172 : cfun Tryz.prog [] 158 = some (10, dc_Z172, [(Res.tmp 2)]) := by kernel_rfl
def r_Z89_0 : List GI := [gi 2 (.box 2 2000002 (.t 0) (some 2)), gi 3 (.box 3 2000003 (.t 1) (some 5)), gi 4 (.alloc 4 2000004 [I 0, .nul])]
def r_Z89_1 : List GI := [gi 7 (.mov 7 (.k .nul)), gt 5 7]
def r_Z89_2 : List GI := [gk 6 0]
def r_Z89_3 : List GI := [gt 8 6, gf 9 2 1, gl 10 9, gn 11 10, gb 12 .lss 8 11]
def r_Z89_4 : List GI := [gs 15 3 5, gf 16 2 1, gl 17 16, gt 18 6, ga 19 17 18 1, gl 20 19, gc 21 109 [.t 15, .t 20]]
def r_Z89_5 : List GI := [gt 22 5, gf 23 2 1, gl 24 23, gt 25 6, ga 26 24 25 1, gl 27 26, gi 28 (.bsl 28 1 none [.nul] [(0, .t 27)]), gi 29 (.app 29 2000029 (.t 22) (.t 28) 1 24), gt 5 29]
def r_Z89_6 : List GI := [gt 13 6, gd 14 .add 13 1, gt 6 14]
def r_Z89_7 : List GI := [gf 30 2 0, gl 31 30, gt 32 5, gc 33 63 [.t 31, .t 32], g0 (.sto 4 (.t 33) (some 2))]
def dc_Z89 : DC := .seq (.z r_Z89_0) (.seq (.z r_Z89_1) (.seq (.seq (.z r_Z89_2) (.block 0 (.loop (.seq (.seq (.z r_Z89_3) (.cond (.t 12) .skip (.exit 0))) (.seq (.block 1 (.seq (.reg r_Z89_4 (some [0, 0, 2, 0, 14, 30, 63])) (.cond (.t 21) (.z r_Z89_5) .skip))) (.z r_Z89_6)))))) (.seq (.z r_Z89_7) .ret)))
theorem c_Z89 : cfun Tryz.prog [] 64 = some (34, dc_Z89, [(Res.cell 4 (some 2))]) := by kernel_rfl
def r_Z169_0 : List GI := [gi 2 (.box 2 2000002 (.t 0) (some 5)), gi 4 (.mov 4 (.k (.v (.bool false))))]
def r_Z169_1 : List GI := [gs 5 2 5, gt 6 1, gc 7 110 [.t 5, .t 6], gc 8 158 [.t 7], gd 9 .eql 8 1, gt 4 9]
def dc_Z169 : DC := .seq (.z r_Z169_0) (.seq (.z r_Z169_1) .ret)
theorem c_Z169 : cfun Tryz.prog [] 109 = some (10, dc_Z169, [(Res.tmp 4)]) := by kernel_rfl
def r_Z165_0 : List GI := [gi 4 (.mov 4 (.k .nul))]
def r_Z165_1 : List GI := [gt 5 0, gc 6 83 [.t 5], gt 7 1, gi 8 (.app 8 2000008 (.t 6) (.t 7) 2 16), gt 4 8]
def dc_Z165 : DC := .seq (.z r_Z165_0) (.seq (.z r_Z165_1) .ret)
theorem c_Z165 : cfun Tryz.prog [] 111 = some (9, dc_Z165, [(Res.tmp 4)]) := by kernel_rfl
def r_Z170_0 : List GI := [gi 2 (.mov 2 (.k .nul))]
def r_Z170_1 : List GI := [gi 5 (.mov 5 (.k .nul)), gt 3 5]
def r_Z170_2 : List GI := [gk 4 0]
def r_Z170_3 : List GI := [gt 6 4, gt 7 0, gb 8 .lss 6 7]
def r_Z170_4 : List GI := [gt 11 3, gi 12 (.build 12 [.v (.bool false), I 0] [(0, (none, .k (.v (.bool true))))]), gi 13 (.bsl 13 2 (some 2) [.agg [.v (.bool false), I 0]] [(0, .t 12)]), gi 14 (.app 14 2000014 (.t 11) (.t 13) 2 16), gt 3 14]
def r_Z170_5 : List GI := [gt 9 4, gd 10 .add 9 1, gt 4 10]
def r_Z170_6 : List GI := [gt 15 3, gt 2 15]
def dc_Z170 : DC := .seq (.z r_Z170_0) (.seq (.z r_Z170_1) (.seq (.seq (.z r_Z170_2) (.block 0 (.loop (.seq (.seq (.z r_Z170_3) (.cond (.t 8) .skip (.exit 0))) (.seq (.block 1 (.z r_Z170_4)) (.z r_Z170_5)))))) (.seq (.z r_Z170_6) .ret)))
theorem c_Z170 : cfun Tryz.prog [] 112 = some (16, dc_Z170, [(Res.tmp 2)]) := by kernel_rfl
def r_Z70_0 : List GI := [gi 2 (.box 2 2000002 (.t 0) (some 2)), gi 4 (.alloc 4 2000004 [I 0, .nul])]
def r_Z70_1 : List GI := [gi 9 (.mov 9 (.k .nul)), gt 5 9]
def r_Z70_2 : List GI := [gk 6 0]
def r_Z70_3 : List GI := [gt 10 6, gf 11 2 1, gl 12 11, gn 13 12, gb 14 .lss 10 13]
def r_Z70_4 : List GI := [gi 17 (.mov 17 (.k .nul)), gt 7 17]
def r_Z70_5 : List GI := [gk 8 0]
def r_Z70_6 : List GI := [gt 18 8, gt 19 1, gn 20 19, gb 21 .lss 18 20]
def r_Z70_7 : List GI := [gt 24 7, gt 25 1, gt 26 8, ga 27 25 26 5, gs 28 27 5, gf 29 2 1, gl 30 29, gt 31 6, ga 32 30 31 1, gl 33 32, gc 34 110 [.t 28, .t 33], gi 35 (.bsl 35 2 (some 2) [.agg [.v (.bool false), I 0]] [(0, .t 34)]), gi 36 (.app 36 2000036 (.t 24) (.t 35) 2 16), gt 7 36]
def r_Z70_8 : List GI := [gt 22 8, gd 23 .add 22 1, gt 8 23]
def r_Z70_9 : List GI := [gt 37 5, gt 38 7, gi 39 (.bsl 39 1 none [.nul] [(0, .t 38)]), gi 40 (.app 40 2000040 (.t 37) (.t 39) 1 24), gt 5 40]
def r_Z70_10 : List GI := [gt 15 6, gd 16 .add 15 1, gt 6 16]
def r_Z70_11 : List GI := [gt 41 1, gn 42 41, gt 43 5, gc 44 63 [.t 42, .t 43], g0 (.sto 4 (.t 44) (some 2))]
def dc_Z70 : DC := .seq (.z r_Z70_0) (.seq (.z r_Z70_1) (.seq (.seq (.z r_Z70_2) (.block 0 (.loop (.seq (.seq (.z r_Z70_3) (.cond (.t 14) .skip (.exit 0))) (.seq (.block 1 (.seq (.z r_Z70_4) (.seq (.seq (.z r_Z70_5) (.block 2 (.loop (.seq (.seq (.z r_Z70_6) (.cond (.t 21) .skip (.exit 2))) (.seq (.block 3 (.reg r_Z70_7 (some [0, 0, 0, 6, 14, 0, 32, 0, 224, 480, 1022, 2046, 4095, 8191]))) (.z r_Z70_8)))))) (.z r_Z70_9)))) (.z r_Z70_10)))))) (.seq (.z r_Z70_11) .ret)))
theorem c_Z70 : cfun Tryz.prog [] 65 = some (45, dc_Z70, [(Res.cell 4 (some 2))]) := by kernel_rfl
end
end Go.Proofs.YtibknjpbbeackaaGreat
