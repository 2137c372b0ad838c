/-
  Functions of the program read as code on plain data. Closed facts of the program alone.
-/
import Derived.KernelRfl
import Derived.Test.YtlcmchjeakhajaaGreatRows
import Derived.Test.YtlcmchjeakhajaaGreatJSVGo
import Derived.Test.YtlcmchjeakhajaaGreatJSVTbD
namespace Go.Proofs.YtlcmchjeakhajaaGreat
open Go.RowKit
noncomputable section
def r_Z150_0 : List GI := [gi 4 (.alloc 4 2000004 [I 0, I 0, .v (.bool false), I 0, .nul])]
def r_Z150_1 : List GI := [gt 6 0, gt 7 1, gc 8 92 [.t 6, .t 7, .k (I 3)], gi 5 (.alloc 5 2000005 [I 0, I 0, .v (.bool false), I 0, .nul]), g0 (.sto 5 (.t 8) (some 5))]
def r_Z150_2 : List GI := [gt 9 0, gc 10 26 [.t 9, .k (I 18)]]
def r_Z150_3 : List GI := [gd 12 .eql 10 0, gt 11 12]
def r_Z150_4 : List GI := [gt 13 0, gi 14 (.bsl 14 1 none [I 0, I 0, I 0, I 0] [(0, .k (I 0)), (1, .k (I 12)), (2, .k (I 3)), (3, .k (I 10))]), gc 15 49 [.t 13, .t 14], gf 16 5 0, g0 (.sto 16 (.t 15) none)]
def r_Z150_5 : List GI := [gd 18 .eql 10 1, gt 17 18]
def r_Z150_6 : List GI := [gt 19 0, gt 20 1, gi 21 (.bsl 21 1 none [I 0, I 0, I 0] [(0, .k (.v (.int .i64 (-1)))), (1, .k (I 6)), (2, .t 20)]), gc 22 49 [.t 19, .t 21], gf 23 5 1, g0 (.sto 23 (.t 22) none)]
def r_Z150_7 : List GI := [gd 25 .eql 10 2, gt 24 25]
def r_Z150_8 : List GI := [gt 26 0, gc 27 93 [.t 26], gf 28 5 2, g0 (.sto 28 (.t 27) (some 2))]
def r_Z150_9 : List GI := [gs 29 5 5, g0 (.sto 4 (.t 29) (some 5))]
def dc_Z150 : DC := .seq (.z r_Z150_0) (.seq (.z r_Z150_1) (.seq (.seq (.z r_Z150_2) (.block 0 (.seq (.z r_Z150_3) (.cond (.t 11) (.z r_Z150_4) (.seq (.z r_Z150_5) (.cond (.t 17) (.z r_Z150_6) (.seq (.z r_Z150_7) (.cond (.t 24) (.z r_Z150_8) .skip)))))))) (.seq (.z r_Z150_9) .ret)))
theorem c_Z150 : cfun Tryz.prog [] 50 = some (30, dc_Z150, [(Res.cell 4 (some 5))]) := by kernel_rfl
def r_Z136_0 : List GI := [gi 1 (.box 1 2000001 (.t 0) (some 2)), gi 2 (.alloc 2 2000002 [I 0, I 0, .v (.bool false), I 0, .nul])]
def r_Z136_1 : List GI := [gs 3 1 2, gi 4 (.build 4 [I 0, I 0, .v (.bool false), I 0, .nul] [(0, (none, .k (I 2))), (2, (some 2, .t 3))]), g0 (.sto 2 (.t 4) (some 5))]
def dc_Z136 : DC := .seq (.z r_Z136_0) (.seq (.z r_Z136_1) .ret)
theorem c_Z136 : cfun Tryz.prog [] 137 = some (5, dc_Z136, [(Res.cell 2 (some 5))]) := by kernel_rfl
def r_Z101_0 : List GI := [gi 6 (.alloc 6 2000006 [I 0, I 0, .v (.bool false), I 0, .nul])]
def r_Z101_1 : List GI := [gt 11 0, gc 12 26 [.t 11, .k (I 13)], gt 7 12]
def r_Z101_2 : List GI := [gt 13 2, gd 14 .eql 13 0, gt 15 14, ⟨.mov 16 (.t 7), some 16, some (15, false), false⟩, ⟨.bin 17 .gtr (.t 16) (.k (I 10)), some 17, some (15, false), false⟩, gi 18 (.pick 18 (.t 15) (.k (.v (.bool true))) (.t 17))]
def r_Z101_3 : List GI := [gt 19 0, gc 20 26 [.t 19, .k (I 3)], gd 21 .gtr 20 0]
def r_Z101_4 : List GI := [gt 22 0, gt 23 1, gc 24 26 [.t 22, .t 23], gi 25 (.build 25 [I 0, I 0, .v (.bool false), I 0, .nul] [(0, (none, .k (I 1))), (1, (none, .t 24))]), g0 (.sto 6 (.t 25) (some 5))]
def r_Z101_5 : List GI := [gt 26 0, gc 27 138 [.t 26], gc 28 137 [.t 27], g0 (.sto 6 (.t 28) (some 5))]
def r_Z101_6 : List GI := [gt 29 7, gd 30 .rem 29 9, gi 31 (.bin 31 .add (.k (I 3)) (.t 30)), gt 8 31]
def r_Z101_7 : List GI := [gt 32 8, gi 33 (.build 33 [I 0, I 0, .v (.bool false), I 0, .nul] [(0, (none, .t 32))]), gi 9 (.alloc 9 2000009 [I 0, I 0, .v (.bool false), I 0, .nul]), g0 (.sto 9 (.t 33) (some 5))]
def r_Z101_8 : List GI := [gk 10 0]
def r_Z101_9 : List GI := [gt 34 10, gt 35 8, gc 36 139 [.t 35], gb 37 .lss 34 36]
def r_Z101_10 : List GI := [gf 40 9 4, gl 41 40, gt 42 0, gt 43 1, gt 44 2, gd 45 .sub 44 1, gc 46 92 [.t 42, .t 43, .t 45], gi 47 (.bsl 47 5 (some 5) [.agg [I 0, I 0, .v (.bool false), I 0, .nul]] [(0, .t 46)]), gi 48 (.app 48 2000048 (.t 41) (.t 47) 5 56), gf 49 9 4, g0 (.sto 49 (.t 48) none)]
def r_Z101_11 : List GI := [gt 38 10, gd 39 .add 38 1, gt 10 39]
def r_Z101_12 : List GI := [gs 50 9 5, g0 (.sto 6 (.t 50) (some 5))]
def dc_Z101 : DC := .seq (.z r_Z101_0) (.seq (.z r_Z101_1) (.seq (.seq (.z r_Z101_2) (.cond (.t 18) (.seq (.seq (.z r_Z101_3) (.cond (.t 21) (.seq (.z r_Z101_4) .ret) .skip)) (.seq (.z r_Z101_5) .ret)) .skip)) (.seq (.z r_Z101_6) (.seq (.z r_Z101_7) (.seq (.seq (.z r_Z101_8) (.block 0 (.loop (.seq (.seq (.z r_Z101_9) (.cond (.t 37) .skip (.exit 0))) (.seq (.block 1 (.reg r_Z101_10 (some [0, 1, 0, 0, 0, 16, 60, 124, 255, 511, 1023]))) (.z r_Z101_11)))))) (.seq (.z r_Z101_12) .ret))))))
theorem c_Z101 : cfun Tryz.prog [] 92 = some (51, dc_Z101, [(Res.cell 6 (some 5))]) := by kernel_rfl
def r_Z137_0 : List GI := [gi 1 (.box 1 2000001 (.t 0) (some 5)), gi 2 (.alloc 2 2000002 [I 0, I 0, .v (.bool false), I 0, .nul])]
def r_Z137_1 : List GI := [gf 5 1 0, gl 6 5, gf 7 1 1, gl 8 7, gf 9 1 2, gs 10 9 2, gi 11 (.build 11 [I 0, I 0, .v (.bool false), I 0, .nul] [(0, (none, .t 6)), (1, (none, .t 8)), (2, (some 2, .t 10))]), gi 3 (.alloc 3 2000003 [I 0, I 0, .v (.bool false), I 0, .nul]), g0 (.sto 3 (.t 11) (some 5))]
def r_Z137_2 : List GI := [gk 4 0]
def r_Z137_3 : List GI := [gt 12 4, gf 13 1 4, gl 14 13, gn 15 14, gb 16 .lss 12 15]
def r_Z137_4 : List GI := [gf 19 3 4, gl 20 19, gf 21 1 4, gl 22 21, gt 23 4, ga 24 22 23 5, gs 25 24 5, gc 26 155 [.t 25], gi 27 (.bsl 27 5 (some 5) [.agg [I 0, I 0, .v (.bool false), I 0, .nul]] [(0, .t 26)]), gi 28 (.app 28 2000028 (.t 20) (.t 27) 5 56), gf 29 3 4, g0 (.sto 29 (.t 28) none)]
def r_Z137_5 : List GI := [gt 17 4, gd 18 .add 17 1, gt 4 18]
def r_Z137_6 : List GI := [gs 30 3 5, g0 (.sto 2 (.t 30) (some 5))]
def dc_Z137 : DC := .seq (.z r_Z137_0) (.seq (.z r_Z137_1) (.seq (.seq (.z r_Z137_2) (.block 0 (.loop (.seq (.seq (.z r_Z137_3) (.cond (.t 16) .skip (.exit 0))) (.seq (.block 1 (.reg r_Z137_4 (some [0, 1, 0, 4, 0, 28, 60, 124, 252, 511, 1023, 2047]))) (.z r_Z137_5)))))) (.seq (.z r_Z137_6) .ret)))
theorem c_Z137 : cfun Tryz.prog [] 155 = some (31, dc_Z137, [(Res.cell 2 (some 5))]) := by kernel_rfl
def r_Z138_0 : List GI := [gi 1 (.box 1 2000001 (.t 0) (some 5)), gi 2 (.alloc 2 2000002 [I 0, I 0, .nul, .nul, .nul])]
def r_Z138_1 : List GI := [gf 6 1 0, gl 7 6, gf 8 1 1, gl 9 8, gi 10 (.mov 10 (.k .nul)), gf 11 1 3, gl 12 11, gi 13 (.app 13 2000013 (.t 10) (.t 12) 1 8), gi 14 (.build 14 [I 0, I 0, .nul, .nul, .nul] [(0, (none, .t 7)), (1, (none, .t 9)), (3, (none, .t 13))]), gi 3 (.alloc 3 2000003 [I 0, I 0, .nul, .nul, .nul]), g0 (.sto 3 (.t 14) (some 5))]
def r_Z138_2 : List GI := [gk 4 0]
def r_Z138_3 : List GI := [gt 15 4, gf 16 1 2, gl 17 16, gn 18 17, gb 19 .lss 15 18]
def r_Z138_4 : List GI := [gf 22 3 2, gl 23 22, gf 24 1 2, gl 25 24, gt 26 4, ga 27 25 26 5, gs 28 27 5, gc 29 155 [.t 28], gi 30 (.bsl 30 5 (some 5) [.agg [I 0, I 0, .v (.bool false), I 0, .nul]] [(0, .t 29)]), gi 31 (.app 31 2000031 (.t 23) (.t 30) 5 56), gf 32 3 2, g0 (.sto 32 (.t 31) none)]
def r_Z138_5 : List GI := [gt 20 4, gd 21 .add 20 1, gt 4 21]
def r_Z138_6 : List GI := [gk 5 0]
def r_Z138_7 : List GI := [gt 33 5, gf 34 1 4, gl 35 34, gn 36 35, gb 37 .lss 33 36]
def r_Z138_8 : List GI := [gf 40 3 4, gl 41 40, gf 42 1 4, gl 43 42, gt 44 5, ga 45 43 44 5, gs 46 45 5, gc 47 135 [.t 46], gi 48 (.bsl 48 5 (some 5) [.agg [I 0, I 0, .nul, .nul, .nul]] [(0, .t 47)]), gi 49 (.app 49 2000049 (.t 41) (.t 48) 5 88), gf 50 3 4, g0 (.sto 50 (.t 49) none)]
def r_Z138_9 : List GI := [gt 38 5, gd 39 .add 38 1, gt 5 39]
def r_Z138_10 : List GI := [gs 51 3 5, g0 (.sto 2 (.t 51) (some 5))]
def dc_Z138 : DC := .seq (.z r_Z138_0) (.seq (.reg r_Z138_1 (some [0, 1, 0, 4, 0, 0, 32, 112, 255, 0, 1023])) (.seq (.seq (.z r_Z138_2) (.block 0 (.loop (.seq (.seq (.z r_Z138_3) (.cond (.t 19) .skip (.exit 0))) (.seq (.block 1 (.reg r_Z138_4 (some [0, 1, 0, 4, 0, 28, 60, 124, 252, 511, 1023, 2047]))) (.z r_Z138_5)))))) (.seq (.seq (.z r_Z138_6) (.block 2 (.loop (.seq (.seq (.z r_Z138_7) (.cond (.t 37) .skip (.exit 2))) (.seq (.block 3 (.reg r_Z138_8 (some [0, 1, 0, 4, 0, 28, 60, 124, 252, 511, 1023, 2047]))) (.z r_Z138_9)))))) (.seq (.z r_Z138_10) .ret))))
theorem c_Z138 : cfun Tryz.prog [] 135 = some (52, dc_Z138, [(Res.cell 2 (some 5))]) := by kernel_rfl
def r_Z141_0 : List GI := [gi 2 (.box 2 2000002 (.t 0) (some 5)), gi 3 (.box 3 2000003 (.t 1) (some 5)), gi 4 (.alloc 4 2000004 [I 0, I 0, .nul, .nul, .nul])]
def r_Z141_1 : List GI := [gs 5 2 5, gi 6 (.bsl 6 5 (some 5) [.agg [I 0, I 0, .v (.bool false), I 0, .nul]] [(0, .t 5)]), gs 7 3 5, gi 8 (.bsl 8 5 (some 5) [.agg [I 0, I 0, .nul, .nul, .nul]] [(0, .t 7)]), gi 9 (.build 9 [I 0, I 0, .nul, .nul, .nul] [(0, (none, .k (I 2))), (2, (none, .t 6)), (4, (none, .t 8))]), g0 (.sto 4 (.t 9) (some 5))]
def dc_Z141 : DC := .seq (.z r_Z141_0) (.seq (.z r_Z141_1) .ret)
theorem c_Z141 : cfun Tryz.prog [] 90 = some (10, dc_Z141, [(Res.cell 4 (some 5))]) := by kernel_rfl
def r_Z116_0 : List GI := [gi 6 (.alloc 6 2000006 [I 0, I 0, .v (.bool false), I 0, .nul])]
def r_Z116_1 : List GI := [gt 10 0, gt 11 1, gc 12 26 [.t 10, .t 11], gi 13 (.build 13 [I 0, I 0, .v (.bool false), I 0, .nul] [(0, (none, .k (I 1))), (1, (none, .t 12))]), gi 7 (.alloc 7 2000007 [I 0, I 0, .v (.bool false), I 0, .nul]), g0 (.sto 7 (.t 13) (some 5))]
def r_Z116_2 : List GI := [gt 14 0, gc 15 26 [.t 14, .k (I 4)], gi 16 (.build 16 [.v (.bool false), I 0] [(1, (none, .t 15))]), gc 17 137 [.t 16], gi 8 (.alloc 8 2000008 [I 0, I 0, .v (.bool false), I 0, .nul]), g0 (.sto 8 (.t 17) (some 5))]
def r_Z116_3 : List GI := [gt 18 0, gc 19 26 [.t 18, .k (I 3)], gd 20 .eql 19 0]
def r_Z116_4 : List GI := [gt 21 0, gt 22 1, gc 23 26 [.t 21, .t 22], gi 24 (.build 24 [I 0, I 0, .v (.bool false), I 0, .nul] [(0, (none, .k (I 1))), (1, (none, .t 23))]), g0 (.sto 8 (.t 24) (some 5))]
def r_Z116_5 : List GI := [gt 25 0, gc 26 26 [.t 25, .k (I 8)], gt 9 26]
def r_Z116_6 : List GI := [gt 27 9, gd 28 .eql 27 2, gt 29 28, ⟨.mov 30 (.t 2), some 30, some (29, true), false⟩, ⟨.bin 31 .eql (.t 30) (.k (I 0)), some 31, some (29, true), false⟩, gi 32 (.pick 32 (.t 29) (.t 31) (.k (.v (.bool false))))]
def r_Z116_7 : List GI := [gk 9 5]
def r_Z116_8 : List GI := [gt 33 9]
def r_Z116_9 : List GI := [gd 35 .eql 33 0, gt 34 35]
def r_Z116_10 : List GI := [gt 36 0, gt 37 1, gc 38 92 [.t 36, .t 37, .k (I 2)], g0 (.sto 6 (.t 38) (some 5))]
def r_Z116_11 : List GI := [gd 40 .eql 33 1, gt 39 40]
def r_Z116_12 : List GI := [gs 41 7 5, gi 42 (.bsl 42 5 (some 5) [.agg [I 0, I 0, .v (.bool false), I 0, .nul]] [(0, .t 41)]), gi 43 (.build 43 [I 0, I 0, .v (.bool false), I 0, .nul] [(0, (none, .k (I 11))), (4, (none, .t 42))]), gi 44 (.bsl 44 5 (some 5) [.agg [I 0, I 0, .v (.bool false), I 0, .nul]] [(0, .t 43)]), gi 45 (.build 45 [I 0, I 0, .v (.bool false), I 0, .nul] [(0, (none, .k (I 10))), (4, (none, .t 44))]), g0 (.sto 6 (.t 45) (some 5))]
def r_Z116_13 : List GI := [gd 47 .eql 33 2, gt 46 47]
def r_Z116_14 : List GI := [gt 48 0, gt 49 1, gt 50 2, gd 51 .sub 50 1, gc 52 136 [.t 48, .t 49, .t 51], gs 53 7 5, gs 54 8 5, gi 55 (.bsl 55 5 (some 5) [.agg [I 0, I 0, .v (.bool false), I 0, .nul], .agg [I 0, I 0, .v (.bool false), I 0, .nul]] [(0, .t 53), (1, .t 54)]), gi 56 (.build 56 [I 0, I 0, .v (.bool false), I 0, .nul] [(0, (none, .k (I 6))), (4, (none, .t 55))]), gi 57 (.bsl 57 5 (some 5) [.agg [I 0, I 0, .v (.bool false), I 0, .nul], .agg [I 0, I 0, .v (.bool false), I 0, .nul]] [(0, .t 52), (1, .t 56)]), gi 58 (.build 58 [I 0, I 0, .v (.bool false), I 0, .nul] [(0, (none, .k (I 8))), (4, (none, .t 57))]), g0 (.sto 6 (.t 58) (some 5))]
def r_Z116_15 : List GI := [gd 60 .eql 33 3, gt 59 60]
def r_Z116_16 : List GI := [gd 61 .eql 33 4, gt 59 61]
def r_Z116_17 : List GI := [gs 62 8 5, gs 63 7 5, gi 64 (.bsl 64 5 (some 5) [.agg [I 0, I 0, .v (.bool false), I 0, .nul], .agg [I 0, I 0, .v (.bool false), I 0, .nul]] [(0, .t 62), (1, .t 63)]), gi 65 (.build 65 [I 0, I 0, .v (.bool false), I 0, .nul] [(0, (none, .k (I 7))), (4, (none, .t 64))]), g0 (.sto 6 (.t 65) (some 5))]
def r_Z116_18 : List GI := [gd 67 .eql 33 5, gt 66 67]
def r_Z116_19 : List GI := [gs 68 7 5, gs 69 8 5, gi 70 (.bsl 70 5 (some 5) [.agg [I 0, I 0, .v (.bool false), I 0, .nul], .agg [I 0, I 0, .v (.bool false), I 0, .nul]] [(0, .t 68), (1, .t 69)]), gi 71 (.build 71 [I 0, I 0, .v (.bool false), I 0, .nul] [(0, (none, .k (I 7))), (4, (none, .t 70))]), g0 (.sto 6 (.t 71) (some 5))]
def r_Z116_20 : List GI := [gs 72 7 5, gs 73 8 5, gi 74 (.bsl 74 5 (some 5) [.agg [I 0, I 0, .v (.bool false), I 0, .nul], .agg [I 0, I 0, .v (.bool false), I 0, .nul]] [(0, .t 72), (1, .t 73)]), gi 75 (.build 75 [I 0, I 0, .v (.bool false), I 0, .nul] [(0, (none, .k (I 6))), (4, (none, .t 74))]), g0 (.sto 6 (.t 75) (some 5))]
def dc_Z116 : DC := .seq (.z r_Z116_0) (.seq (.z r_Z116_1) (.seq (.z r_Z116_2) (.seq (.seq (.z r_Z116_3) (.cond (.t 20) (.z r_Z116_4) .skip)) (.seq (.z r_Z116_5) (.seq (.seq (.z r_Z116_6) (.cond (.t 32) (.z r_Z116_7) .skip)) (.seq (.seq (.z r_Z116_8) (.block 0 (.seq (.z r_Z116_9) (.cond (.t 34) (.seq (.z r_Z116_10) .ret) (.seq (.z r_Z116_11) (.cond (.t 39) (.seq (.z r_Z116_12) .ret) (.seq (.z r_Z116_13) (.cond (.t 46) (.seq (.reg r_Z116_14 (some [0, 0, 0, 4, 15, 0, 0, 96, 224, 511, 1023, 2047])) .ret) (.seq (.seq (.z r_Z116_15) (.cond (.t 59) .skip (.z r_Z116_16))) (.cond (.t 59) (.seq (.z r_Z116_17) .ret) (.seq (.z r_Z116_18) (.cond (.t 66) (.seq (.z r_Z116_19) .ret) .skip)))))))))))) (.seq (.z r_Z116_20) .ret)))))))
theorem c_Z116 : cfun Tryz.prog [] 136 = some (76, dc_Z116, [(Res.cell 6 (some 5))]) := by kernel_rfl
def r_Z36_0 : List GI := [gi 4 (.alloc 4 2000004 [I 0, I 0, .v (.bool false), I 0, .nul])]
def r_Z36_1 : List GI := [gt 5 0, gt 6 1, gc 7 136 [.t 5, .t 6, .k (I 2)], g0 (.sto 4 (.t 7) (some 5))]
def dc_Z36 : DC := .seq (.z r_Z36_0) (.seq (.z r_Z36_1) .ret)
theorem c_Z36 : cfun Tryz.prog [] 91 = some (8, dc_Z36, [(Res.cell 4 (some 5))]) := by kernel_rfl
def r_Z53_0 : List GI := [gi 4 (.alloc 4 2000004 [I 0, I 0, .nul, .nul, .nul])]
def r_Z53_1 : List GI := [gt 13 0, gi 14 (.nilc 14 13), gf 15 14 0, gl 16 15, gt 5 16]
def r_Z53_2 : List GI := [gt 17 5, gt 18 0, gi 19 (.nilc 19 18), gf 20 19 1, gl 21 20, gn 22 21, gc 23 26 [.t 17, .t 22], gi 24 (.build 24 [I 0, I 0, .nul, .nul, .nul] [(0, (none, .k (I 1))), (1, (none, .t 23))]), gi 6 (.alloc 6 2000006 [I 0, I 0, .nul, .nul, .nul]), g0 (.sto 6 (.t 24) (some 5))]
def r_Z53_3 : List GI := [gt 25 1, gd 26 .eql 25 0, gt 27 26, ⟨.mov 28 (.t 5), some 28, some (27, false), false⟩, ⟨.call 29 26 [.t 28, .k (I 6)], some 29, some (27, false), true⟩, ⟨.bin 30 .eql (.t 29) (.k (I 0)), some 30, some (27, false), false⟩, gi 31 (.pick 31 (.t 27) (.k (.v (.bool true))) (.t 30))]
def r_Z53_4 : List GI := [gs 32 6 5, g0 (.sto 4 (.t 32) (some 5))]
def r_Z53_5 : List GI := [gt 33 0, gt 34 1, gd 35 .sub 34 1, gc 36 89 [.t 33, .t 35], gi 7 (.alloc 7 2000007 [I 0, I 0, .nul, .nul, .nul]), g0 (.sto 7 (.t 36) (some 5))]
def r_Z53_6 : List GI := [gs 37 7 5, gt 38 0, gi 39 (.nilc 39 38), gf 40 39 1, gl 41 40, gc 42 38 [.t 37, .t 41, .k (I 8)], gt 8 42]
def r_Z53_7 : List GI := [gt 43 5, gc 44 26 [.t 43, .k (I 10)]]
def r_Z53_8 : List GI := [gd 46 .eql 44 0, gt 45 46]
def r_Z53_9 : List GI := [gd 47 .eql 44 1, gt 45 47]
def r_Z53_10 : List GI := [gd 48 .eql 44 2, gt 45 48]
def r_Z53_11 : List GI := [gt 49 5, gt 50 8, gc 51 91 [.t 49, .t 50], gs 52 7 5, gc 53 90 [.t 51, .t 52], g0 (.sto 4 (.t 53) (some 5))]
def r_Z53_12 : List GI := [gd 55 .eql 44 3, gt 54 55]
def r_Z53_13 : List GI := [gd 56 .eql 44 4, gt 54 56]
def r_Z53_14 : List GI := [gi 57 (.mov 57 (.k .nul)), gt 9 57]
def r_Z53_15 : List GI := [gt 58 5, gc 59 26 [.t 58, .k (I 2)], gi 60 (.bin 60 .add (.k (I 1)) (.t 59)), gt 10 60]
def r_Z53_16 : List GI := [gt 61 10, gd 62 .gtr 61 0]
def r_Z53_17 : List GI := [gt 65 9, gt 66 5, gt 67 8, gt 68 5, gc 69 26 [.t 68, .k (I 2)], gc 70 92 [.t 66, .t 67, .t 69], gi 71 (.bsl 71 5 (some 5) [.agg [I 0, I 0, .v (.bool false), I 0, .nul]] [(0, .t 70)]), gi 72 (.app 72 2000072 (.t 65) (.t 71) 5 56), gt 9 72]
def r_Z53_18 : List GI := [gt 63 10, gd 64 .sub 63 1, gt 10 64]
def r_Z53_19 : List GI := [gt 73 9, gs 74 7 5, gi 75 (.bsl 75 5 (some 5) [.agg [I 0, I 0, .nul, .nul, .nul]] [(0, .t 74)]), gi 76 (.build 76 [I 0, I 0, .nul, .nul, .nul] [(0, (none, .k (I 3))), (2, (none, .t 73)), (4, (none, .t 75))]), g0 (.sto 4 (.t 76) (some 5))]
def r_Z53_20 : List GI := [gd 78 .eql 44 5, gt 77 78]
def r_Z53_21 : List GI := [gd 79 .eql 44 6, gt 77 79]
def r_Z53_22 : List GI := [gt 80 0, gi 81 (.nilc 81 80), gf 82 81 2, gl 83 82, gd 84 .gtr 83 0, gt 85 84, ⟨.mov 86 (.t 8), some 86, some (85, true), false⟩, ⟨.bin 87 .leq (.t 86) (.k (I 4)), some 87, some (85, true), false⟩, gi 88 (.pick 88 (.t 85) (.t 87) (.k (.v (.bool false))))]
def r_Z53_23 : List GI := [gt 89 0, gt 90 0, gi 91 (.nilc 91 90), gf 92 91 2, gl 93 92, gd 94 .sub 93 1, gi 95 (.nilc 95 89), gf 96 95 2, g0 (.sto 96 (.t 94) none)]
def r_Z53_24 : List GI := [gt 97 0, gt 98 5, gc 99 26 [.t 98, .k (I 2)], gc 100 89 [.t 97, .t 99], gi 11 (.alloc 11 2000011 [I 0, I 0, .nul, .nul, .nul]), g0 (.sto 11 (.t 100) (some 5))]
def r_Z53_25 : List GI := [gt 101 8, gs 102 11 5, gt 103 0, gi 104 (.nilc 104 103), gf 105 104 1, gl 106 105, gc 107 38 [.t 102, .t 106, .k (I 8)], gb 108 .add 101 107, gt 12 108]
def r_Z53_26 : List GI := [gt 109 12, gd 110 .leq 109 6]
def r_Z53_27 : List GI := [gt 111 5, gi 112 (.bsl 112 1 none [I 0, I 0] [(0, .k (I 4)), (1, .k (I 5))]), gc 113 49 [.t 111, .t 112], gt 114 5, gt 115 12, gc 116 91 [.t 114, .t 115], gi 117 (.bsl 117 5 (some 5) [.agg [I 0, I 0, .v (.bool false), I 0, .nul]] [(0, .t 116)]), gs 118 7 5, gs 119 11 5, gi 120 (.bsl 120 5 (some 5) [.agg [I 0, I 0, .nul, .nul, .nul], .agg [I 0, I 0, .nul, .nul, .nul]] [(0, .t 118), (1, .t 119)]), gi 121 (.build 121 [I 0, I 0, .nul, .nul, .nul] [(0, (none, .t 113)), (2, (none, .t 117)), (4, (none, .t 120))]), g0 (.sto 4 (.t 121) (some 5))]
def r_Z53_28 : List GI := [gd 123 .eql 44 7, gt 122 123]
def r_Z53_29 : List GI := [gt 124 0, gi 125 (.nilc 125 124), gf 126 125 3, gl 127 126, gd 128 .gtr 127 0]
def r_Z53_30 : List GI := [gt 129 0, gt 130 0, gi 131 (.nilc 131 130), gf 132 131 3, gl 133 132, gd 134 .sub 133 1, gi 135 (.nilc 135 129), gf 136 135 3, g0 (.sto 136 (.t 134) none)]
def r_Z53_31 : List GI := [gs 137 7 5, gt 138 5, gt 139 8, gc 140 91 [.t 138, .t 139], gs 141 7 5, gc 142 135 [.t 141], gc 143 90 [.t 140, .t 142], gi 144 (.bsl 144 5 (some 5) [.agg [I 0, I 0, .nul, .nul, .nul], .agg [I 0, I 0, .nul, .nul, .nul]] [(0, .t 137), (1, .t 143)]), gi 145 (.build 145 [I 0, I 0, .nul, .nul, .nul] [(0, (none, .k (I 6))), (4, (none, .t 144))]), g0 (.sto 4 (.t 145) (some 5))]
def r_Z53_32 : List GI := [gd 147 .eql 44 8, gt 146 147]
def r_Z53_33 : List GI := [gs 148 7 5, gi 149 (.bsl 149 5 (some 5) [.agg [I 0, I 0, .nul, .nul, .nul]] [(0, .t 148)]), gi 150 (.build 150 [I 0, I 0, .nul, .nul, .nul] [(0, (none, .k (I 7))), (4, (none, .t 149))]), g0 (.sto 4 (.t 150) (some 5))]
def r_Z53_34 : List GI := [gd 152 .eql 44 9, gt 151 152]
def r_Z53_35 : List GI := [gt 153 8, gd 154 .gtr 153 1]
def r_Z53_36 : List GI := [gt 155 5, gt 156 8, gc 157 26 [.t 155, .t 156], gi 158 (.bsl 158 1 none [I 0] [(0, .t 157)]), gs 159 7 5, gi 160 (.bsl 160 5 (some 5) [.agg [I 0, I 0, .nul, .nul, .nul]] [(0, .t 159)]), gi 161 (.build 161 [I 0, I 0, .nul, .nul, .nul] [(0, (none, .k (I 8))), (3, (none, .t 158)), (4, (none, .t 160))]), g0 (.sto 4 (.t 161) (some 5))]
def r_Z53_37 : List GI := [gs 162 7 5, gi 163 (.bsl 163 5 (some 5) [.agg [I 0, I 0, .nul, .nul, .nul]] [(0, .t 162)]), gi 164 (.build 164 [I 0, I 0, .nul, .nul, .nul] [(0, (none, .k (I 8))), (4, (none, .t 163))]), g0 (.sto 4 (.t 164) (some 5))]
def r_Z53_38 : List GI := [gt 165 5, gt 166 8, gc 167 91 [.t 165, .t 166], gs 168 7 5, gc 169 90 [.t 167, .t 168], g0 (.sto 4 (.t 169) (some 5))]
def dc_Z53 : DC := .seq (.z r_Z53_0) (.seq (.z r_Z53_1) (.seq (.z r_Z53_2) (.seq (.seq (.z r_Z53_3) (.cond (.t 31) (.seq (.z r_Z53_4) .ret) .skip)) (.seq (.z r_Z53_5) (.seq (.reg r_Z53_6 (some [0, 0, 2, 6, 14, 31, 63])) (.seq (.seq (.z r_Z53_7) (.block 0 (.seq (.seq (.z r_Z53_8) (.cond (.t 45) .skip (.seq (.z r_Z53_9) (.cond (.t 45) .skip (.z r_Z53_10))))) (.cond (.t 45) (.seq (.reg r_Z53_11 (some [0, 0, 3, 0, 15, 31])) .ret) (.seq (.seq (.z r_Z53_12) (.cond (.t 54) .skip (.z r_Z53_13))) (.cond (.t 54) (.seq (.z r_Z53_14) (.seq (.seq (.z r_Z53_15) (.block 1 (.loop (.seq (.seq (.z r_Z53_16) (.cond (.t 62) .skip (.exit 1))) (.seq (.block 2 (.z r_Z53_17)) (.z r_Z53_18)))))) (.seq (.z r_Z53_19) .ret))) (.seq (.seq (.z r_Z53_20) (.cond (.t 77) .skip (.z r_Z53_21))) (.cond (.t 77) (.seq (.z r_Z53_22) (.cond (.t 88) (.seq (.z r_Z53_23) (.seq (.z r_Z53_24) (.seq (.reg r_Z53_25 (some [0, 0, 0, 4, 12, 28, 62, 127, 255])) (.seq (.z r_Z53_26) (.cond (.t 110) (.seq (.reg r_Z53_27 (some [0, 0, 3, 0, 0, 31, 63, 0, 0, 384, 1023, 2047])) .ret) .skip))))) .skip)) (.seq (.z r_Z53_28) (.cond (.t 122) (.seq (.z r_Z53_29) (.cond (.t 128) (.seq (.z r_Z53_30) (.seq (.reg r_Z53_31 (some [0, 0, 0, 6, 0, 30, 62, 127, 255, 511])) .ret)) .skip)) (.seq (.z r_Z53_32) (.cond (.t 146) (.seq (.z r_Z53_33) .ret) (.seq (.z r_Z53_34) (.cond (.t 151) (.seq (.seq (.z r_Z53_35) (.cond (.t 154) (.seq (.reg r_Z53_36 (some [0, 0, 3, 7, 0, 16, 63, 127])) .ret) .skip)) (.seq (.z r_Z53_37) .ret)) .skip)))))))))))))) (.seq (.reg r_Z53_38 (some [0, 0, 3, 0, 15, 31])) .ret)))))))
theorem c_Z53 : cfun Tryz.prog [] 89 = some (170, dc_Z53, [(Res.cell 4 (some 5))]) := by kernel_rfl
def r_Z117_0 : List GI := [gi 2 (.box 2 2000002 (.t 0) (some 5)), gi 3 (.box 3 2000003 (.t 1) (some 5)), gi 4 (.alloc 4 2000004 [I 0, I 0, .nul, .nul, .nul])]
def r_Z117_1 : List GI := [gs 5 2 5, gi 6 (.bslx 6 2000006 5 (some 5) [.agg [I 0, I 0, .v (.bool false), I 0, .nul]] [(0, .t 5)]), gs 7 3 5, gi 8 (.bsl 8 5 (some 5) [.agg [I 0, I 0, .nul, .nul, .nul]] [(0, .t 7)]), gi 9 (.build 9 [I 0, I 0, .nul, .nul, .nul] [(0, (none, .k (I 2))), (2, (none, .t 6)), (4, (none, .t 8))]), g0 (.sto 4 (.t 9) (some 5))]
def dc_Z117 : DC := .seq (.z r_Z117_0) (.seq (.z r_Z117_1) .ret)
theorem c_Z117 : cfun Tryz.prog [6] 90 = some (10, dc_Z117, [(Res.cell 4 (some 5))]) := by kernel_rfl
end
end Go.Proofs.YtlcmchjeakhajaaGreat
