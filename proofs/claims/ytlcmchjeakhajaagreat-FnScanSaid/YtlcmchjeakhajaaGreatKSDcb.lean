/-
  Functions of the program read as code on plain data. Closed facts of the program alone.
-/
import Derived.KernelRfl
import Derived.Test.YtlcmchjeakhajaaGreatRows
import Derived.Test.YtlcmchjeakhajaaGreatJSVGo
import Derived.Test.YtlcmchjeakhajaaGreatJSVTbD
namespace Go.Proofs.YtlcmchjeakhajaaGreat
open Go.RowKit
noncomputable section
def r_Z73_0 : List GI := [gk 4 0]
def r_Z73_1 : List GI := [gt 7 0, gn 8 7, gk 9 0]
def r_Z73_2 : List GI := [gb 10 .lss 9 8]
def r_Z73_3 : List GI := [gt 11 9, gt 5 11]
def r_Z73_4 : List GI := [gt 12 0, gt 13 5, ga 14 12 13 2, gs 15 14 2, gt 16 1, gt 17 5, ga 18 16 17 2, gs 19 18 2, gc 20 75 [.t 15, .t 19], gt 6 20]
def r_Z73_5 : List GI := [gt 21 6, gd 22 .neq 21 0]
def r_Z73_6 : List GI := [gt 23 6, gt 4 23]
def r_Z73_7 : List GI := [gd 24 .add 9 1, gt 9 24]
def r_Z73_8 : List GI := [gk 4 0]
def dc_Z73 : DC := .seq (.z r_Z73_0) (.seq (.seq (.z r_Z73_1) (.block 0 (.loop (.seq (.z r_Z73_2) (.seq (.cond (.t 10) .skip (.exit 0)) (.seq (.block 1 (.seq (.z r_Z73_3) (.seq (.reg r_Z73_4 (some [0, 0, 3, 7, 0, 0, 48, 112, 255, 511])) (.seq (.z r_Z73_5) (.cond (.t 22) (.seq (.z r_Z73_6) .ret) .skip))))) (.z r_Z73_7))))))) (.seq (.z r_Z73_8) .ret))
theorem c_Z73 : cfun Tryz.prog [] 35 = some (25, dc_Z73, [(Res.tmp 4)]) := by kernel_rfl
def r_Z84_0 : List GI := [gk 4 0]
def r_Z84_1 : List GI := [gk 5 0]
def r_Z84_2 : List GI := [gt 7 5, gt 8 0, gn 9 8, gb 10 .lss 7 9, gt 11 10, ⟨.mov 12 (.t 5), some 12, some (11, true), false⟩, ⟨.mov 13 (.t 1), some 13, some (11, true), false⟩, ⟨.len 14 (.t 13), some 14, some (11, true), false⟩, ⟨.bin 15 .lss (.t 12) (.t 14), some 15, some (11, true), false⟩, gi 16 (.pick 16 (.t 11) (.t 15) (.k (.v (.bool false))))]
def r_Z84_3 : List GI := [gt 19 0, gt 20 5, ga 21 19 20 2, gs 22 21 2, gt 23 1, gt 24 5, ga 25 23 24 2, gs 26 25 2, gc 27 129 [.t 22, .t 26], gt 6 27]
def r_Z84_4 : List GI := [gt 28 6, gd 29 .neq 28 0]
def r_Z84_5 : List GI := [gt 30 6, gt 4 30]
def r_Z84_6 : List GI := [gt 17 5, gd 18 .add 17 1, gt 5 18]
def r_Z84_7 : List GI := [gt 31 0, gn 32 31, gt 33 1, gn 34 33, gb 35 .sub 32 34, gt 4 35]
def dc_Z84 : DC := .seq (.z r_Z84_0) (.seq (.seq (.z r_Z84_1) (.block 0 (.loop (.seq (.seq (.z r_Z84_2) (.cond (.t 16) .skip (.exit 0))) (.seq (.block 1 (.seq (.reg r_Z84_3 (some [0, 0, 3, 7, 0, 0, 48, 112, 255, 511])) (.seq (.z r_Z84_4) (.cond (.t 29) (.seq (.z r_Z84_5) .ret) .skip)))) (.z r_Z84_6)))))) (.seq (.z r_Z84_7) .ret))
theorem c_Z84 : cfun Tryz.prog [] 82 = some (36, dc_Z84, [(Res.tmp 4)]) := by kernel_rfl
def r_Z153_0 : List GI := [gi 2 (.mov 2 (.k .nul))]
def r_Z153_1 : List GI := [gi 3 (.mov 3 (.k .nul)), gt 4 0, gi 5 (.app 5 2000005 (.t 3) (.t 4) 2 16), gt 2 5]
def dc_Z153 : DC := .seq (.z r_Z153_0) (.seq (.z r_Z153_1) .ret)
theorem c_Z153 : cfun Tryz.prog [] 52 = some (6, dc_Z153, [(Res.tmp 2)]) := by kernel_rfl
def r_Z118_0 : List GI := [gi 4 (.mov 4 (.k .nul))]
def r_Z118_1 : List GI := [gk 5 0]
def r_Z118_2 : List GI := [gt 9 0, gn 10 9, gt 6 10]
def r_Z118_3 : List GI := [gt 11 5, gt 12 6, gb 13 .lss 11 12]
def r_Z118_4 : List GI := [gt 14 5, gt 15 6, gb 16 .add 14 15, gd 17 .quo 16 2, gt 7 17]
def r_Z118_5 : List GI := [gt 18 0, gt 19 7, ga 20 18 19 1, gl 21 20, gt 22 1, gc 23 82 [.t 21, .t 22], gd 24 .leq 23 0]
def r_Z118_6 : List GI := [gt 25 7, gd 26 .add 25 1, gt 5 26]
def r_Z118_7 : List GI := [gt 27 7, gt 6 27]
def r_Z118_8 : List GI := [gi 28 (.mov 28 (.k .nul)), gt 29 0, gt 30 5, gi 31 (.slc 31 (.t 29) none (some (.t 30)) 1), gi 32 (.app 32 2000032 (.t 28) (.t 31) 1 24), gt 8 32]
def r_Z118_9 : List GI := [gt 33 8, gt 34 1, gc 35 52 [.t 34], gi 36 (.bsl 36 1 none [.nul] [(0, .t 35)]), gi 37 (.app 37 2000037 (.t 33) (.t 36) 1 24), gt 8 37]
def r_Z118_10 : List GI := [gt 38 8, gt 39 0, gt 40 5, gi 41 (.slc 41 (.t 39) (some (.t 40)) none 1), gi 42 (.app 42 2000042 (.t 38) (.t 41) 1 24), gt 4 42]
def dc_Z118 : DC := .seq (.z r_Z118_0) (.seq (.z r_Z118_1) (.seq (.z r_Z118_2) (.seq (.block 0 (.loop (.seq (.seq (.z r_Z118_3) (.cond (.t 13) .skip (.exit 0))) (.block 1 (.seq (.z r_Z118_4) (.seq (.z r_Z118_5) (.cond (.t 24) (.z r_Z118_6) (.z r_Z118_7)))))))) (.seq (.z r_Z118_8) (.seq (.z r_Z118_9) (.seq (.z r_Z118_10) .ret))))))
theorem c_Z118 : cfun Tryz.prog [] 83 = some (43, dc_Z118, [(Res.tmp 4)]) := by kernel_rfl
def r_Z111_0 : List GI := [gi 4 (.mov 4 (.k (.v (.bool false))))]
def r_Z111_1 : List GI := [gt 7 1, gc 8 54 [.t 7], gi 9 (.un 9 UnOp.not (.t 8)), gt 10 9, ⟨.mov 11 (.t 0), some 11, some (10, false), false⟩, ⟨.len 12 (.t 11), some 12, some (10, false), false⟩, ⟨.bin 13 .gtr (.t 12) (.k (I 400)), some 13, some (10, false), false⟩, gi 14 (.pick 14 (.t 10) (.k (.v (.bool true))) (.t 13))]
def r_Z111_2 : List GI := [gi 4 (.mov 4 (.k (.v (.bool false))))]
def r_Z111_3 : List GI := [gt 15 0, gn 16 15, gk 17 0]
def r_Z111_4 : List GI := [gb 18 .lss 17 16]
def r_Z111_5 : List GI := [ga 19 15 17 1, gl 20 19, gt 6 20]
def r_Z111_6 : List GI := [gt 21 6, gn 22 21, gt 23 1, gb 24 .neq 22 23, gt 25 24, ⟨.mov 26 (.t 6), some 26, some (25, false), false⟩, ⟨.call 27 98 [.t 26], some 27, some (25, false), true⟩, ⟨.un 28 UnOp.not (.t 27), some 28, some (25, false), false⟩, gi 29 (.pick 29 (.t 25) (.k (.v (.bool true))) (.t 28))]
def r_Z111_7 : List GI := [gi 4 (.mov 4 (.k (.v (.bool false))))]
def r_Z111_8 : List GI := [gd 30 .add 17 1, gt 17 30]
def r_Z111_9 : List GI := [gi 4 (.mov 4 (.k (.v (.bool true))))]
def dc_Z111 : DC := .seq (.z r_Z111_0) (.seq (.seq (.z r_Z111_1) (.cond (.t 14) (.seq (.z r_Z111_2) .ret) .skip)) (.seq (.seq (.z r_Z111_3) (.block 0 (.loop (.seq (.z r_Z111_4) (.seq (.cond (.t 18) .skip (.exit 0)) (.seq (.block 1 (.seq (.z r_Z111_5) (.seq (.z r_Z111_6) (.cond (.t 29) (.seq (.z r_Z111_7) .ret) .skip)))) (.z r_Z111_8))))))) (.seq (.z r_Z111_9) .ret)))
theorem c_Z111 : cfun Tryz.prog [] 57 = some (31, dc_Z111, [(Res.tmp 4)]) := by kernel_rfl
def r_Z103_0 : List GI := [gi 1 (.box 1 2000001 (.t 0) (some 2)), gi 2 (.mov 2 (.k (.v (.bool false))))]
def r_Z103_1 : List GI := [gk 3 0]
def r_Z103_2 : List GI := [gt 4 3, gf 5 1 1, gl 6 5, gn 7 6, gb 8 .lss 4 7]
def r_Z103_3 : List GI := [gf 11 1 1, gl 12 11, gt 13 3, ga 14 12 13 1, gl 15 14, gc 16 81 [.t 15], gi 17 (.un 17 UnOp.not (.t 16)), gt 18 17, ⟨.fad 19 1 1, some 19, some (18, false), false⟩, ⟨.lod 20 19 none, some 20, some (18, false), false⟩, ⟨.mov 21 (.t 3), some 21, some (18, false), false⟩, ⟨.iad 22 20 (.t 21) 1, some 22, some (18, false), false⟩, ⟨.lod 23 22 none, some 23, some (18, false), false⟩, ⟨.len 24 (.t 23), some 24, some (18, false), false⟩, ⟨.fad 25 1 0, some 25, some (18, false), false⟩, ⟨.lod 26 25 none, some 26, some (18, false), false⟩, ⟨.bin 27 .neq (.t 24) (.t 26), some 27, some (18, false), false⟩, gi 28 (.pick 28 (.t 18) (.k (.v (.bool true))) (.t 27)), gt 29 28, ⟨.mov 30 (.t 3), some 30, some (29, false), false⟩, ⟨.bin 31 .gtr (.t 30) (.k (I 0)), some 31, some (29, false), false⟩, ⟨.mov 32 (.t 31), some 32, some (29, false), false⟩, ⟨.fad 33 1 1, some 33, some (32, true), false⟩, ⟨.lod 34 33 none, some 34, some (32, true), false⟩, ⟨.mov 35 (.t 3), some 35, some (32, true), false⟩, ⟨.bin 36 .sub (.t 35) (.k (I 1)), some 36, some (32, true), false⟩, ⟨.iad 37 34 (.t 36) 1, some 37, some (32, true), false⟩, ⟨.lod 38 37 none, some 38, some (32, true), false⟩, ⟨.fad 39 1 1, some 39, some (32, true), false⟩, ⟨.lod 40 39 none, some 40, some (32, true), false⟩, ⟨.mov 41 (.t 3), some 41, some (32, true), false⟩, ⟨.iad 42 40 (.t 41) 1, some 42, some (32, true), false⟩, ⟨.lod 43 42 none, some 43, some (32, true), false⟩, ⟨.call 44 82 [.t 38, .t 43], some 44, some (32, true), true⟩, ⟨.bin 45 .gtr (.t 44) (.k (I 0)), some 45, some (32, true), false⟩, ⟨.pick 46 (.t 32) (.t 45) (.k (.v (.bool false))), some 46, some (29, false), false⟩, gi 47 (.pick 47 (.t 29) (.k (.v (.bool true))) (.t 46))]
def r_Z103_4 : List GI := [gi 2 (.mov 2 (.k (.v (.bool false))))]
def r_Z103_5 : List GI := [gt 9 3, gd 10 .add 9 1, gt 3 10]
def r_Z103_6 : List GI := [gf 48 1 0, gl 49 48, gc 50 76 [.t 49, .k (I 1), .k (I 6)], gt 51 50, ⟨.fad 52 1 1, some 52, some (51, true), false⟩, ⟨.lod 53 52 none, some 53, some (51, true), false⟩, ⟨.len 54 (.t 53), some 54, some (51, true), false⟩, ⟨.bin 55 .leq (.t 54) (.k (I 400)), some 55, some (51, true), false⟩, gi 56 (.pick 56 (.t 51) (.t 55) (.k (.v (.bool false)))), gt 2 56]
def dc_Z103 : DC := .seq (.z r_Z103_0) (.seq (.seq (.z r_Z103_1) (.block 0 (.loop (.seq (.seq (.z r_Z103_2) (.cond (.t 8) .skip (.exit 0))) (.seq (.block 1 (.seq (.reg r_Z103_3 (some [0, 1, 0, 7, 15, 31, 63, 127, 255, 511, 255, 2047, 4095, 8191, 255, 16639, 65535, 131071, 262143, 524287, 1048575, 2097151, 4194303, 8388607, 4194303, 20971519, 67108863, 134217727, 4194303, 272629759, 4194303, 1883242495, 4030726143, 8589934591, 17179869183, 34359738367, 68719476735])) (.cond (.t 47) (.seq (.z r_Z103_4) .ret) .skip))) (.z r_Z103_5)))))) (.seq (.z r_Z103_6) .ret))
theorem c_Z103 : cfun Tryz.prog [] 39 = some (57, dc_Z103, [(Res.tmp 2)]) := by kernel_rfl
def r_Z156_0 : List GI := [gi 4 (.alloc 4 2000004 [I 0, .nul])]
def r_Z156_1 : List GI := [gt 7 0, gi 8 (.build 8 [I 0, .nul] [(0, (none, .t 7))]), gi 5 (.alloc 5 2000005 [I 0, .nul]), g0 (.sto 5 (.t 8) (some 2))]
def r_Z156_2 : List GI := [gt 9 1, gn 10 9, gd 11 .gtr 10 400]
def r_Z156_3 : List GI := [gs 12 5 2, g0 (.sto 4 (.t 12) (some 2))]
def r_Z156_4 : List GI := [gk 6 0]
def r_Z156_5 : List GI := [gt 13 6, gt 14 1, gn 15 14, gb 16 .lss 13 15]
def r_Z156_6 : List GI := [gf 19 5 1, gl 20 19, gt 21 1, gt 22 6, ga 23 21 22 1, gl 24 23, gc 25 83 [.t 20, .t 24], gf 26 5 1, g0 (.sto 26 (.t 25) none)]
def r_Z156_7 : List GI := [gt 17 6, gd 18 .add 17 1, gt 6 18]
def r_Z156_8 : List GI := [gs 27 5 2, g0 (.sto 4 (.t 27) (some 2))]
def dc_Z156 : DC := .seq (.z r_Z156_0) (.seq (.z r_Z156_1) (.seq (.seq (.z r_Z156_2) (.cond (.t 11) (.seq (.z r_Z156_3) .ret) .skip)) (.seq (.seq (.z r_Z156_4) (.block 0 (.loop (.seq (.seq (.z r_Z156_5) (.cond (.t 16) .skip (.exit 0))) (.seq (.block 1 (.reg r_Z156_6 (some [0, 1, 0, 0, 12, 28, 63, 127, 255]))) (.z r_Z156_7)))))) (.seq (.z r_Z156_8) .ret))))
theorem c_Z156 : cfun Tryz.prog [] 40 = some (28, dc_Z156, [(Res.cell 4 (some 2))]) := by kernel_rfl
def r_Z162_0 : List GI := [gk 2 0]
def r_Z162_1 : List GI := [gt 3 0]
def r_Z162_2 : List GI := [gd 5 .eql 3 1, gt 4 5]
def r_Z162_3 : List GI := [gd 6 .eql 3 2, gt 4 6]
def r_Z162_4 : List GI := [gk 2 0]
def r_Z162_5 : List GI := [gd 8 .eql 3 10, gt 7 8]
def r_Z162_6 : List GI := [gd 9 .eql 3 11, gt 7 9]
def r_Z162_7 : List GI := [gk 2 1]
def r_Z162_8 : List GI := [gd 11 .eql 3 3, gt 10 11]
def r_Z162_9 : List GI := [gd 12 .eql 3 4, gt 10 12]
def r_Z162_10 : List GI := [gd 13 .eql 3 5, gt 10 13]
def r_Z162_11 : List GI := [gd 14 .eql 3 6, gt 10 14]
def r_Z162_12 : List GI := [gd 15 .eql 3 7, gt 10 15]
def r_Z162_13 : List GI := [gd 16 .eql 3 8, gt 10 16]
def r_Z162_14 : List GI := [gd 17 .eql 3 9, gt 10 17]
def r_Z162_15 : List GI := [gk 2 2]
def r_Z162_16 : List GI := [gi 2 (.mov 2 (.k (.v (.int .i64 (-1)))))]
def dc_Z162 : DC := .seq (.z r_Z162_0) (.seq (.seq (.z r_Z162_1) (.block 0 (.seq (.seq (.z r_Z162_2) (.cond (.t 4) .skip (.z r_Z162_3))) (.cond (.t 4) (.seq (.z r_Z162_4) .ret) (.seq (.seq (.z r_Z162_5) (.cond (.t 7) .skip (.z r_Z162_6))) (.cond (.t 7) (.seq (.z r_Z162_7) .ret) (.seq (.seq (.z r_Z162_8) (.cond (.t 10) .skip (.seq (.z r_Z162_9) (.cond (.t 10) .skip (.seq (.z r_Z162_10) (.cond (.t 10) .skip (.seq (.z r_Z162_11) (.cond (.t 10) .skip (.seq (.z r_Z162_12) (.cond (.t 10) .skip (.seq (.z r_Z162_13) (.cond (.t 10) .skip (.z r_Z162_14))))))))))))) (.cond (.t 10) (.seq (.z r_Z162_15) .ret) .skip)))))))) (.seq (.z r_Z162_16) .ret))
theorem c_Z162 : cfun Tryz.prog [] 139 = some (18, dc_Z162, [(Res.tmp 2)]) := by kernel_rfl
def r_Z167_0 : List GI := [gk 2 0]
def r_Z167_1 : List GI := [gt 3 0]
def r_Z167_2 : List GI := [gk 2 1]
def r_Z167_3 : List GI := [gk 2 0]
def dc_Z167 : DC := .seq (.z r_Z167_0) (.seq (.seq (.z r_Z167_1) (.cond (.t 3) (.seq (.z r_Z167_2) .ret) .skip)) (.seq (.z r_Z167_3) .ret))
theorem c_Z167 : cfun Tryz.prog [] 133 = some (4, dc_Z167, [(Res.tmp 2)]) := by kernel_rfl
def r_Z115_0 : List GI := [gi 2 (.box 2 2000002 (.t 0) (some 5)), gi 4 (.mov 4 (.k (.v (.bool false))))]
def r_Z115_1 : List GI := [gt 5 1, gc 6 76 [.t 5, .k (I 1), .k (I 6)], gt 7 6, ⟨.lod 8 2 (some 5), some 8, some (7, true), false⟩, ⟨.mov 9 (.t 1), some 9, some (7, true), false⟩, ⟨.call 10 127 [.t 8, .t 9, .k (I 8)], some 10, some (7, true), true⟩, gi 11 (.pick 11 (.t 7) (.t 10) (.k (.v (.bool false)))), gt 4 11]
def dc_Z115 : DC := .seq (.z r_Z115_0) (.seq (.z r_Z115_1) .ret)
theorem c_Z115 : cfun Tryz.prog [] 78 = some (12, dc_Z115, [(Res.tmp 4)]) := by kernel_rfl
def r_Z123_0 : List GI := [gi 3 (.box 3 2000003 (.t 0) (some 5)), gi 6 (.mov 6 (.k (.v (.bool false))))]
def r_Z123_1 : List GI := [gf 8 3 4, gl 9 8, gn 10 9, gf 11 3 0, gl 12 11, gc 13 139 [.t 12], gb 14 .neq 10 13, gt 15 14, ⟨.fad 16 3 4, some 16, some (15, false), false⟩, ⟨.lod 17 16 none, some 17, some (15, false), false⟩, ⟨.len 18 (.t 17), some 18, some (15, false), false⟩, ⟨.bin 19 .gtr (.t 18) (.k (I 0)), some 19, some (15, false), false⟩, ⟨.mov 20 (.t 19), some 20, some (15, false), false⟩, ⟨.mov 21 (.t 2), some 21, some (20, true), false⟩, ⟨.bin 22 .eql (.t 21) (.k (I 0)), some 22, some (20, true), false⟩, ⟨.pick 23 (.t 20) (.t 22) (.k (.v (.bool false))), some 23, some (15, false), false⟩, gi 24 (.pick 24 (.t 15) (.k (.v (.bool true))) (.t 23))]
def r_Z123_2 : List GI := [gi 6 (.mov 6 (.k (.v (.bool false))))]
def r_Z123_3 : List GI := [gk 7 0]
def r_Z123_4 : List GI := [gt 25 7, gf 26 3 4, gl 27 26, gn 28 27, gb 29 .lss 25 28]
def r_Z123_5 : List GI := [gf 32 3 4, gl 33 32, gt 34 7, ga 35 33 34 5, gs 36 35 5, gt 37 1, gt 38 2, gd 39 .sub 38 1, gc 40 127 [.t 36, .t 37, .t 39], gi 41 (.un 41 UnOp.not (.t 40))]
def r_Z123_6 : List GI := [gi 6 (.mov 6 (.k (.v (.bool false))))]
def r_Z123_7 : List GI := [gt 30 7, gd 31 .add 30 1, gt 7 31]
def r_Z123_8 : List GI := [gf 42 3 0, gl 43 42]
def r_Z123_9 : List GI := [gd 45 .eql 43 1, gt 44 45]
def r_Z123_10 : List GI := [gf 46 3 1, gl 47 46, gt 48 1, gd 49 .sub 48 1, gc 50 76 [.t 47, .k (I 0), .t 49], gt 51 50, ⟨.fad 52 3 2, some 52, some (51, true), false⟩, ⟨.lod 53 52 (some 2), some 53, some (51, true), false⟩, ⟨.build 54 [.v (.bool false), I 0] [], some 54, some (51, true), false⟩, ⟨.eqs 55 false [false, true] (.t 53) (.t 54), some 55, some (51, true), false⟩, gi 56 (.pick 56 (.t 51) (.t 55) (.k (.v (.bool false)))), gt 6 56]
def r_Z123_11 : List GI := [gd 58 .eql 43 2, gt 57 58]
def r_Z123_12 : List GI := [gf 59 3 1, gl 60 59, gd 61 .eql 60 0, gt 62 61, ⟨.fad 63 3 2, some 63, some (62, true), false⟩, ⟨.lod 64 63 (some 2), some 64, some (62, true), false⟩, ⟨.call 65 128 [.t 64], some 65, some (62, true), true⟩, gi 66 (.pick 66 (.t 62) (.t 65) (.k (.v (.bool false)))), gt 6 66]
def r_Z123_13 : List GI := [gf 67 3 1, gl 68 67, gd 69 .eql 68 0, gt 70 69, ⟨.fad 71 3 2, some 71, some (70, true), false⟩, ⟨.lod 72 71 (some 2), some 72, some (70, true), false⟩, ⟨.build 73 [.v (.bool false), I 0] [], some 73, some (70, true), false⟩, ⟨.eqs 74 false [false, true] (.t 72) (.t 73), some 74, some (70, true), false⟩, gi 75 (.pick 75 (.t 70) (.t 74) (.k (.v (.bool false)))), gt 6 75]
def dc_Z123 : DC := .seq (.z r_Z123_0) (.seq (.seq (.reg r_Z123_1 (some [0, 1, 3, 0, 8, 24, 63, 127, 255, 511, 1023, 2047, 4095, 8191, 16383, 32767, 65535])) (.cond (.t 24) (.seq (.z r_Z123_2) .ret) .skip)) (.seq (.seq (.z r_Z123_3) (.block 0 (.loop (.seq (.seq (.z r_Z123_4) (.cond (.t 29) .skip (.exit 0))) (.seq (.block 1 (.seq (.z r_Z123_5) (.cond (.t 41) (.seq (.z r_Z123_6) .ret) .skip))) (.z r_Z123_7)))))) (.seq (.seq (.z r_Z123_8) (.block 2 (.seq (.z r_Z123_9) (.cond (.t 44) (.seq (.z r_Z123_10) .ret) (.seq (.z r_Z123_11) (.cond (.t 57) (.seq (.z r_Z123_12) .ret) .skip)))))) (.seq (.z r_Z123_13) .ret))))
theorem c_Z123 : cfun Tryz.prog [] 127 = some (76, dc_Z123, [(Res.tmp 6)]) := by kernel_rfl
def r_Z133_0 : List GI := [gk 4 0]
def r_Z133_1 : List GI := [gt 6 0, gd 7 .eql 6 0, gt 8 7, ⟨.mov 9 (.t 1), some 9, some (8, false), false⟩, ⟨.bin 10 .eql (.t 9) (.k (I 0)), some 10, some (8, false), false⟩, gi 11 (.pick 11 (.t 8) (.k (.v (.bool true))) (.t 10)), gt 5 11]
def r_Z133_2 : List GI := [gk 4 0]
def r_Z133_3 : List GI := [gt 13 0, gd 14 .eql 13 1, gt 15 14, ⟨.mov 16 (.t 1), some 16, some (15, true), false⟩, ⟨.bin 17 .eql (.t 16) (.k (I 1)), some 17, some (15, true), false⟩, gi 18 (.pick 18 (.t 15) (.t 17) (.k (.v (.bool false)))), gt 12 18]
def r_Z133_4 : List GI := [gk 4 1]
def r_Z133_5 : List GI := [gk 4 2]
def dc_Z133 : DC := .seq (.z r_Z133_0) (.seq (.block 0 (.seq (.z r_Z133_1) (.cond (.t 5) (.seq (.z r_Z133_2) .ret) (.seq (.z r_Z133_3) (.cond (.t 12) (.seq (.z r_Z133_4) .ret) .skip))))) (.seq (.z r_Z133_5) .ret))
theorem c_Z133 : cfun Tryz.prog [] 153 = some (19, dc_Z133, [(Res.tmp 4)]) := by kernel_rfl
def r_Z152_0 : List GI := [gi 4 (.box 4 2000004 (.t 1) (some 2)), gi 5 (.box 5 2000005 (.t 2) (some 2)), gi 6 (.alloc 6 2000006 [.v (.bool false), I 0])]
def r_Z152_1 : List GI := [gt 7 0]
def r_Z152_2 : List GI := [gd 9 .eql 7 8, gt 8 9]
def r_Z152_3 : List GI := [gs 10 4 2, gc 11 130 [.t 10], gs 12 5 2, gc 13 130 [.t 12], gc 14 153 [.t 11, .t 13], gc 15 131 [.t 14], g0 (.sto 6 (.t 15) (some 2))]
def r_Z152_4 : List GI := [gd 17 .eql 7 9, gt 16 17]
def r_Z152_5 : List GI := [gs 18 4 2, gc 19 130 [.t 18], gc 20 132 [.t 19], gs 21 5 2, gc 22 130 [.t 21], gc 23 132 [.t 22], gc 24 153 [.t 20, .t 23], gc 25 132 [.t 24], gc 26 131 [.t 25], g0 (.sto 6 (.t 26) (some 2))]
def r_Z152_6 : List GI := [gf 27 4 0, gl 28 27, gt 29 28, ⟨.fad 30 5 0, some 30, some (29, false), false⟩, ⟨.lod 31 30 none, some 31, some (29, false), false⟩, gi 32 (.pick 32 (.t 29) (.k (.v (.bool true))) (.t 31))]
def r_Z152_7 : List GI := [gi 33 (.build 33 [.v (.bool false), I 0] [(0, (none, .k (.v (.bool true))))]), g0 (.sto 6 (.t 33) (some 2))]
def r_Z152_8 : List GI := [gt 34 0]
def r_Z152_9 : List GI := [gd 36 .eql 34 3, gt 35 36]
def r_Z152_10 : List GI := [gf 37 4 1, gl 38 37, gf 39 5 1, gl 40 39, gb 41 .add 38 40, gc 42 154 [.t 41], g0 (.sto 6 (.t 42) (some 2))]
def r_Z152_11 : List GI := [gd 44 .eql 34 4, gt 43 44]
def r_Z152_12 : List GI := [gf 45 4 1, gl 46 45, gf 47 5 1, gl 48 47, gb 49 .sub 46 48, gc 50 154 [.t 49], g0 (.sto 6 (.t 50) (some 2))]
def r_Z152_13 : List GI := [gd 52 .eql 34 5, gt 51 52]
def r_Z152_14 : List GI := [gf 53 4 1, gl 54 53, gf 55 5 1, gl 56 55, gb 57 .mul 54 56, gc 58 154 [.t 57], g0 (.sto 6 (.t 58) (some 2))]
def r_Z152_15 : List GI := [gd 60 .eql 34 6, gt 59 60]
def r_Z152_16 : List GI := [gf 61 4 1, gl 62 61, gf 63 5 1, gl 64 63, gb 65 .eql 62 64, gc 66 133 [.t 65], gi 67 (.build 67 [.v (.bool false), I 0] [(1, (none, .t 66))]), g0 (.sto 6 (.t 67) (some 2))]
def r_Z152_17 : List GI := [gf 68 4 1, gl 69 68, gf 70 5 1, gl 71 70, gb 72 .lss 69 71, gc 73 133 [.t 72], gi 74 (.build 74 [.v (.bool false), I 0] [(1, (none, .t 73))]), g0 (.sto 6 (.t 74) (some 2))]
def dc_Z152 : DC := .seq (.z r_Z152_0) (.seq (.seq (.z r_Z152_1) (.block 0 (.seq (.z r_Z152_2) (.cond (.t 8) (.seq (.reg r_Z152_3 (some [0, 1, 0, 7, 15, 31, 63])) .ret) (.seq (.z r_Z152_4) (.cond (.t 16) (.seq (.reg r_Z152_5 (some [0, 1, 3, 0, 15, 31, 63, 127, 255, 511])) .ret) .skip)))))) (.seq (.seq (.z r_Z152_6) (.cond (.t 32) (.seq (.z r_Z152_7) .ret) .skip)) (.seq (.seq (.z r_Z152_8) (.block 1 (.seq (.z r_Z152_9) (.cond (.t 35) (.seq (.z r_Z152_10) .ret) (.seq (.z r_Z152_11) (.cond (.t 43) (.seq (.z r_Z152_12) .ret) (.seq (.z r_Z152_13) (.cond (.t 51) (.seq (.z r_Z152_14) .ret) (.seq (.z r_Z152_15) (.cond (.t 59) (.seq (.z r_Z152_16) .ret) .skip)))))))))) (.seq (.z r_Z152_17) .ret))))
theorem c_Z152 : cfun Tryz.prog [] 134 = some (75, dc_Z152, [(Res.cell 6 (some 2))]) := by kernel_rfl
def r_Z139_0 : List GI := [gi 2 (.box 2 2000002 (.t 0) (some 5)), gi 4 (.alloc 4 2000004 [.v (.bool false), I 0])]
def r_Z139_1 : List GI := [gf 5 2 0, gl 6 5]
def r_Z139_2 : List GI := [gd 8 .eql 6 1, gt 7 8]
def r_Z139_3 : List GI := [gt 9 1, gf 10 2 1, gl 11 10, ga 12 9 11 2, gs 13 12 2, g0 (.sto 4 (.t 13) (some 2))]
def r_Z139_4 : List GI := [gd 15 .eql 6 2, gt 14 15]
def r_Z139_5 : List GI := [gf 16 2 2, gs 17 16 2, g0 (.sto 4 (.t 17) (some 2))]
def r_Z139_6 : List GI := [gd 19 .eql 6 10, gt 18 19]
def r_Z139_7 : List GI := [gf 20 2 4, gl 21 20, gi 22 (.iad 22 21 (.k (I 0)) 5), gs 23 22 5, gt 24 1, gc 25 85 [.t 23, .t 24], gc 26 130 [.t 25], gc 27 132 [.t 26], gc 28 131 [.t 27], g0 (.sto 4 (.t 28) (some 2))]
def r_Z139_8 : List GI := [gd 30 .eql 6 11, gt 29 30]
def r_Z139_9 : List GI := [gf 31 2 4, gl 32 31, gi 33 (.iad 33 32 (.k (I 0)) 5), gs 34 33 5, gt 35 1, gc 36 85 [.t 34, .t 35], gi 37 (.fld 37 (.t 36) 0 none), gc 38 133 [.t 37], gi 39 (.build 39 [.v (.bool false), I 0] [(1, (none, .t 38))]), g0 (.sto 4 (.t 39) (some 2))]
def r_Z139_10 : List GI := [gf 40 2 0, gl 41 40, gf 42 2 4, gl 43 42, gi 44 (.iad 44 43 (.k (I 0)) 5), gs 45 44 5, gt 46 1, gc 47 85 [.t 45, .t 46], gf 48 2 4, gl 49 48, gi 50 (.iad 50 49 (.k (I 1)) 5), gs 51 50 5, gt 52 1, gc 53 85 [.t 51, .t 52], gc 54 134 [.t 41, .t 47, .t 53], g0 (.sto 4 (.t 54) (some 2))]
def dc_Z139 : DC := .seq (.z r_Z139_0) (.seq (.seq (.z r_Z139_1) (.block 0 (.seq (.z r_Z139_2) (.cond (.t 7) (.seq (.z r_Z139_3) .ret) (.seq (.z r_Z139_4) (.cond (.t 14) (.seq (.z r_Z139_5) .ret) (.seq (.z r_Z139_6) (.cond (.t 18) (.seq (.z r_Z139_7) .ret) (.seq (.z r_Z139_8) (.cond (.t 29) (.seq (.z r_Z139_9) .ret) .skip)))))))))) (.seq (.reg r_Z139_10 (some [0, 1, 0, 4, 12, 28, 0, 124, 0, 256, 768, 1792, 0, 8188, 16383, 32767])) .ret))
theorem c_Z139 : cfun Tryz.prog [] 85 = some (55, dc_Z139, [(Res.cell 4 (some 2))]) := by kernel_rfl
def r_Z142_0 : List GI := [gk 2 0]
def r_Z142_1 : List GI := [gt 3 0, gd 4 .eql 3 2]
def r_Z142_2 : List GI := [gk 2 2]
def r_Z142_3 : List GI := [gt 5 0, gi 6 (.bin 6 .sub (.k (I 1)) (.t 5)), gt 2 6]
def dc_Z142 : DC := .seq (.z r_Z142_0) (.seq (.seq (.z r_Z142_1) (.cond (.t 4) (.seq (.z r_Z142_2) .ret) .skip)) (.seq (.z r_Z142_3) .ret))
theorem c_Z142 : cfun Tryz.prog [] 132 = some (7, dc_Z142, [(Res.tmp 2)]) := by kernel_rfl
def r_Z155_0 : List GI := [gi 2 (.alloc 2 2000002 [.v (.bool false), I 0])]
def r_Z155_1 : List GI := [gt 3 0, gd 4 .eql 3 2]
def r_Z155_2 : List GI := [gi 5 (.build 5 [.v (.bool false), I 0] [(0, (none, .k (.v (.bool true))))]), g0 (.sto 2 (.t 5) (some 2))]
def r_Z155_3 : List GI := [gt 6 0, gi 7 (.build 7 [.v (.bool false), I 0] [(1, (none, .t 6))]), g0 (.sto 2 (.t 7) (some 2))]
def dc_Z155 : DC := .seq (.z r_Z155_0) (.seq (.seq (.z r_Z155_1) (.cond (.t 4) (.seq (.z r_Z155_2) .ret) .skip)) (.seq (.z r_Z155_3) .ret))
theorem c_Z155 : cfun Tryz.prog [] 131 = some (8, dc_Z155, [(Res.cell 2 (some 2))]) := by kernel_rfl
def r_Z168_0 : List GI := [gi 1 (.box 1 2000001 (.t 0) (some 2)), gk 2 0]
def r_Z168_1 : List GI := [gf 4 1 0, gl 5 4, gt 3 5]
def r_Z168_2 : List GI := [gk 2 2]
def r_Z168_3 : List GI := [gf 7 1 1, gl 8 7, gd 9 .eql 8 0, gt 6 9]
def r_Z168_4 : List GI := [gk 2 0]
def r_Z168_5 : List GI := [gk 2 1]
def dc_Z168 : DC := .seq (.z r_Z168_0) (.seq (.block 0 (.seq (.z r_Z168_1) (.cond (.t 3) (.seq (.z r_Z168_2) .ret) (.seq (.z r_Z168_3) (.cond (.t 6) (.seq (.z r_Z168_4) .ret) .skip))))) (.seq (.z r_Z168_5) .ret))
theorem c_Z168 : cfun Tryz.prog [] 130 = some (10, dc_Z168, [(Res.tmp 2)]) := by kernel_rfl
end
end Go.Proofs.YtlcmchjeakhajaaGreat
