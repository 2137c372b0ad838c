/-
  Functions of the program read as code on plain data. Closed facts of the program alone.
-/
import Derived.KernelRfl
import Derived.Test.YtlcmchjeakhajaaGreatRows
import Derived.Test.YtlcmchjeakhajaaGreatJSVGo
import Derived.Test.YtlcmchjeakhajaaGreatJSVTbD
namespace Go.Proofs.YtlcmchjeakhajaaGreat
open Go.RowKit
noncomputable section
def r_Z134_0 : List GI := [gi 6 (.alloc 6 2000006 [I 0, .nul])]
def r_Z134_1 : List GI := [gt 8 0, gt 9 1, gt 10 2, gc 11 51 [.t 8, .t 9, .t 10], gi 7 (.alloc 7 2000007 [I 0, .nul]), g0 (.sto 7 (.t 11) (some 2))]
def r_Z134_2 : List GI := [gt 12 0, gc 13 26 [.t 12, .k (I 20)]]
def r_Z134_3 : List GI := [gd 15 .eql 13 0, gt 14 15]
def r_Z134_4 : List GI := [gt 16 0, gi 17 (.bsl 17 1 none [I 0, I 0, I 0] [(0, .k (I 0)), (1, .k (I 7)), (2, .k (I 2))]), gc 18 49 [.t 16, .t 17], gf 19 7 0, g0 (.sto 19 (.t 18) none)]
def r_Z134_5 : List GI := [gd 21 .eql 13 1, gt 20 21]
def r_Z134_6 : List GI := [gf 22 7 1, gl 23 22, gn 24 23, gd 25 .gtr 24 0]
def r_Z134_7 : List GI := [gf 26 7 1, gl 27 26, gf 28 7 1, gl 29 28, gi 30 (.iad 30 29 (.k (I 0)) 1), gl 31 30, gc 32 52 [.t 31], gi 33 (.bsl 33 1 none [.nul] [(0, .t 32)]), gi 34 (.app 34 2000034 (.t 27) (.t 33) 1 24), gf 35 7 1, g0 (.sto 35 (.t 34) none)]
def r_Z134_8 : List GI := [gd 37 .eql 13 2, gt 36 37]
def r_Z134_9 : List GI := [gf 38 7 1, gl 39 38, gn 40 39, gd 41 .gtr 40 0]
def r_Z134_10 : List GI := [gf 42 7 1, gl 43 42, gt 44 0, gt 45 1, gc 46 53 [.t 44, .t 45], gi 47 (.iad 47 43 (.k (I 0)) 1), g0 (.sto 47 (.t 46) none)]
def r_Z134_11 : List GI := [gs 48 7 2, g0 (.sto 6 (.t 48) (some 2))]
def dc_Z134 : DC := .seq (.z r_Z134_0) (.seq (.z r_Z134_1) (.seq (.seq (.z r_Z134_2) (.block 0 (.seq (.z r_Z134_3) (.cond (.t 14) (.z r_Z134_4) (.seq (.z r_Z134_5) (.cond (.t 20) (.seq (.z r_Z134_6) (.cond (.t 25) (.reg r_Z134_7 (some [0, 1, 0, 4, 12, 28, 60, 124, 255, 511, 1023])) .skip)) (.seq (.z r_Z134_8) (.cond (.t 36) (.seq (.z r_Z134_9) (.cond (.t 41) (.reg r_Z134_10 (some [0, 1, 0, 0, 12, 31, 63])) .skip)) .skip)))))))) (.seq (.z r_Z134_11) .ret)))
theorem c_Z134 : cfun Tryz.prog [] 27 = some (49, dc_Z134, [(Res.cell 6 (some 2))]) := by kernel_rfl
def r_Z87_0 : List GI := [gi 6 (.alloc 6 2000006 [I 0, .nul])]
def r_Z87_1 : List GI := [gi 9 (.mov 9 (.k .nul)), gt 7 9]
def r_Z87_2 : List GI := [gt 10 0, gt 11 2, gd 12 .add 11 1, gc 13 26 [.t 10, .t 12], gt 8 13]
def r_Z87_3 : List GI := [gt 14 8, gd 15 .gtr 14 0]
def r_Z87_4 : List GI := [gt 18 7, gt 19 0, gt 20 1, gc 21 94 [.t 19, .t 20], gi 22 (.bsl 22 1 none [.nul] [(0, .t 21)]), gi 23 (.app 23 2000023 (.t 18) (.t 22) 1 24), gt 7 23]
def r_Z87_5 : List GI := [gt 16 8, gd 17 .sub 16 1, gt 8 17]
def r_Z87_6 : List GI := [gt 24 1, gt 25 7, gc 26 40 [.t 24, .t 25], g0 (.sto 6 (.t 26) (some 2))]
def dc_Z87 : DC := .seq (.z r_Z87_0) (.seq (.z r_Z87_1) (.seq (.seq (.z r_Z87_2) (.block 0 (.loop (.seq (.seq (.z r_Z87_3) (.cond (.t 15) .skip (.exit 0))) (.seq (.block 1 (.z r_Z87_4)) (.z r_Z87_5)))))) (.seq (.z r_Z87_6) .ret)))
theorem c_Z87 : cfun Tryz.prog [] 51 = some (27, dc_Z87, [(Res.cell 6 (some 2))]) := by kernel_rfl
def r_Z132_0 : List GI := [gi 2 (.box 2 2000002 (.t 0) (some 5)), gi 4 (.alloc 4 2000004 [I 0, .nul]), gi 5 (.mov 5 (.k (.v (.bool false))))]
def r_Z132_1 : List GI := [gs 6 2 5, gt 7 1, gc 8 20 [.t 7], gc 9 19 [.t 6, .t 8], gd 10 .eql 9 0]
def r_Z132_2 : List GI := [gi 11 (.build 11 [I 0, .nul] []), g0 (.sto 4 (.t 11) (some 2)), gi 5 (.mov 5 (.k (.v (.bool false))))]
def r_Z132_3 : List GI := [gs 12 2 5, gt 13 1, gc 14 21 [.t 12, .t 13], g0 (.sto 4 (.t 14) (some 2)), gi 5 (.mov 5 (.k (.v (.bool true))))]
def dc_Z132 : DC := .seq (.z r_Z132_0) (.seq (.seq (.reg r_Z132_1 (some [0, 0, 2, 7, 15])) (.cond (.t 10) (.seq (.z r_Z132_2) .ret) .skip)) (.seq (.z r_Z132_3) .ret))
theorem c_Z132 : cfun Tryz.prog [] 7 = some (15, dc_Z132, [(Res.cell 4 (some 2)), (Res.tmp 5)]) := by kernel_rfl
def r_Z146_0 : List GI := [gi 2 (.mov 2 (.k .nul))]
def r_Z146_1 : List GI := [gi 5 (.mov 5 (.k .nul)), gt 3 5]
def r_Z146_2 : List GI := [gk 4 0]
def r_Z146_3 : List GI := [gt 6 4, gt 7 0, gn 8 7, gb 9 .lss 6 8]
def r_Z146_4 : List GI := [gt 12 0, gt 13 4, ga 14 12 13 2, gs 15 14 2, gc 16 39 [.t 15], gi 17 (.un 17 UnOp.not (.t 16))]
def r_Z146_5 : List GI := [gi 18 (.mov 18 (.k .nul)), gt 2 18]
def r_Z146_6 : List GI := [gt 19 3, gt 20 0, gt 21 4, ga 22 20 21 2, gf 23 22 0, gl 24 23, gi 25 (.bsl 25 1 none [I 0] [(0, .t 24)]), gi 26 (.app 26 2000026 (.t 19) (.t 25) 1 8), gt 3 26]
def r_Z146_7 : List GI := [gt 10 4, gd 11 .add 10 1, gt 4 11]
def r_Z146_8 : List GI := [gt 27 3, gt 2 27]
def dc_Z146 : DC := .seq (.z r_Z146_0) (.seq (.z r_Z146_1) (.seq (.seq (.z r_Z146_2) (.block 0 (.loop (.seq (.seq (.z r_Z146_3) (.cond (.t 9) .skip (.exit 0))) (.seq (.block 1 (.seq (.seq (.z r_Z146_4) (.cond (.t 17) (.seq (.z r_Z146_5) .ret) .skip)) (.z r_Z146_6))) (.z r_Z146_7)))))) (.seq (.z r_Z146_8) .ret)))
theorem c_Z146 : cfun Tryz.prog [] 20 = some (28, dc_Z146, [(Res.tmp 2)]) := by kernel_rfl
def r_Z124_0 : List GI := [gi 2 (.box 2 2000002 (.t 0) (some 5)), gi 3 (.box 3 2000003 (.t 1) none), gi 4 (.alloc 4 2000004 [I 0, .nul]), gi 5 (.mov 5 (.k (.v (.bool false))))]
def r_Z124_1 : List GI := [gs 7 2 5, gl 8 3, gc 9 13 [.t 8], gc 10 12 [.t 7, .t 9], gd 11 .eql 10 0]
def r_Z124_2 : List GI := [gi 12 (.build 12 [I 0, .nul] []), g0 (.sto 4 (.t 12) (some 2)), gi 5 (.mov 5 (.k (.v (.bool false))))]
def r_Z124_3 : List GI := [gs 13 2 5, gi 14 (.mkf 14 15 [.t 3]), gc 15 14 [.t 13, .t 14], gi 6 (.alloc 6 2000006 [I 0, .nul]), g0 (.sto 6 (.t 15) (some 2))]
def r_Z124_4 : List GI := [gf 16 6 0, gl 17 16, gf 18 6 1, gl 19 18, gc 20 18 [.t 19], gc 21 17 [.t 17, .t 20], g0 (.sto 4 (.t 21) (some 2)), gi 5 (.mov 5 (.k (.v (.bool true))))]
def dc_Z124 : DC := .seq (.z r_Z124_0) (.seq (.seq (.reg r_Z124_1 (some [0, 0, 2, 7, 15])) (.cond (.t 11) (.seq (.z r_Z124_2) .ret) .skip)) (.seq (.z r_Z124_3) (.seq (.reg r_Z124_4 (some [0, 1, 0, 4, 12, 31, 63, 127])) .ret)))
theorem c_Z124 : cfun Tryz.prog [] 6 = some (22, dc_Z124, [(Res.cell 4 (some 2)), (Res.tmp 5)]) := by kernel_rfl
def r_Z77_0 : List GI := [gi 2 (.mov 2 (.k .nul))]
def r_Z77_1 : List GI := [gi 3 (.mov 3 (.k .nul))]
def r_Z77_2 : List GI := [gt 6 0, gn 7 6, gk 8 0]
def r_Z77_3 : List GI := [gb 9 .lss 8 7]
def r_Z77_4 : List GI := [ga 10 6 8 2, gs 11 10 2, gi 5 (.alloc 5 2000005 [I 0, .nul]), g0 (.sto 5 (.t 11) (some 2))]
def r_Z77_5 : List GI := [gs 12 5 2, gc 13 30 [.t 12], gi 14 (.un 14 UnOp.not (.t 13))]
def r_Z77_6 : List GI := [gi 2 (.mov 2 (.k .nul))]
def r_Z77_7 : List GI := [gt 15 3, gf 16 5 0, gl 17 16, gi 18 (.bsl 18 1 none [I 0] [(0, .t 17)]), gi 19 (.app 19 2000019 (.t 15) (.t 18) 1 8), gt 3 19]
def r_Z77_8 : List GI := [gd 20 .add 8 1, gt 8 20]
def r_Z77_9 : List GI := [gt 21 3, gt 2 21]
def dc_Z77 : DC := .seq (.z r_Z77_0) (.seq (.z r_Z77_1) (.seq (.seq (.z r_Z77_2) (.block 0 (.loop (.seq (.z r_Z77_3) (.seq (.cond (.t 9) .skip (.exit 0)) (.seq (.block 1 (.seq (.z r_Z77_4) (.seq (.seq (.z r_Z77_5) (.cond (.t 14) (.seq (.z r_Z77_6) .ret) .skip)) (.z r_Z77_7)))) (.z r_Z77_8))))))) (.seq (.z r_Z77_9) .ret)))
theorem c_Z77 : cfun Tryz.prog [] 13 = some (22, dc_Z77, [(Res.tmp 2)]) := by kernel_rfl
end
end Go.Proofs.YtlcmchjeakhajaaGreat
namespace Go.Proofs.YtlcmchjeakhajaaGreat
open Go.RowKit
noncomputable section
def r_Z90_0 : List GI := [gi 3 (.box 3 2000003 (.t 0) (some 5)), gi 5 (.alloc 5 2000005 [I 0, .nul])]
def r_Z90_1 : List GI := [gs 6 3 5, gt 7 1, gl 8 2, gc 9 16 [.t 6, .t 7, .t 8], g0 (.sto 5 (.t 9) (some 2))]
def dc_Z90 : DC := .seq (.z r_Z90_0) (.seq (.z r_Z90_1) .ret)
theorem c_Z90 : cfun Tryz.prog [] 15 = some (10, dc_Z90, [(Res.cell 5 (some 2))]) := by kernel_rfl
def r_Z17_0 : List GI := [gi 2 (.box 2 2000002 (.t 0) (some 5)), gi 4 (.alloc 4 2000004 [I 0, .nul])]
def r_Z17_1 : List GI := [gi 5 (.mov 5 (.k .nul))]
def r_Z17_2 : List GI := [gf 8 2 4, gl 9 8, gn 10 9, gk 11 0]
def r_Z17_3 : List GI := [gb 12 .lss 11 10]
def r_Z17_4 : List GI := [ga 13 9 11 5, gs 14 13 5, gi 7 (.alloc 7 2000007 [I 0, I 0, .nul, .nul, .nul]), g0 (.sto 7 (.t 14) (some 5))]
def r_Z17_5 : List GI := [gt 15 5, gs 16 7 5, gt 17 1, gc 18 14 [.t 16, .t 17], gi 19 (.bsl 19 2 (some 2) [.agg [I 0, .nul]] [(0, .t 18)]), gi 20 (.app 20 2000020 (.t 15) (.t 19) 2 32), gt 5 20]
def r_Z17_6 : List GI := [gd 21 .add 11 1, gt 11 21]
def r_Z17_7 : List GI := [gt 22 1, gs 23 2 5, gt 24 5, ⟨.cal 25 (.t 22) [.t 23, .t 24], some 25, none, true⟩, g0 (.sto 4 (.t 25) (some 2))]
def dc_Z17 : DC := .seq (.z r_Z17_0) (.seq (.z r_Z17_1) (.seq (.seq (.z r_Z17_2) (.block 0 (.loop (.seq (.z r_Z17_3) (.seq (.cond (.t 12) .skip (.exit 0)) (.seq (.block 1 (.seq (.z r_Z17_4) (.z r_Z17_5))) (.z r_Z17_6))))))) (.seq (.z r_Z17_7) .ret)))
theorem c_Z17 : cfun Tryz.prog [] 14 = some (26, dc_Z17, [(Res.cell 4 (some 2))]) := by kernel_rfl
def r_Z129_0 : List GI := [gi 3 (.box 3 2000003 (.t 0) (some 5)), gi 6 (.alloc 6 2000006 [I 0, .nul])]
def r_Z129_1 : List GI := [gf 10 3 0, gl 11 10, gd 12 .eql 11 1]
def r_Z129_2 : List GI := [gt 13 2, gf 14 3 1, gl 15 14, ga 16 13 15 2, gs 17 16 2, g0 (.sto 6 (.t 17) (some 2))]
def r_Z129_3 : List GI := [gi 7 (.mov 7 (.k .nul))]
def r_Z129_4 : List GI := [gt 18 1, gn 19 18, gk 20 0]
def r_Z129_5 : List GI := [gb 21 .lss 20 19]
def r_Z129_6 : List GI := [ga 22 18 20 2, gs 23 22 2, gi 9 (.alloc 9 2000009 [I 0, .nul]), g0 (.sto 9 (.t 23) (some 2))]
def r_Z129_7 : List GI := [gt 24 7, gf 25 9 0, gl 26 25, gi 27 (.bsl 27 1 none [I 0] [(0, .t 26)]), gi 28 (.app 28 2000028 (.t 24) (.t 27) 1 8), gt 7 28]
def r_Z129_8 : List GI := [gd 29 .add 20 1, gt 20 29]
def r_Z129_9 : List GI := [gs 30 3 5, gt 31 7, gc 32 31 [.t 30, .t 31], gs 33 3 5, gt 34 1, gc 35 33 [.t 33, .t 34], gc 36 32 [.t 35], gi 37 (.build 37 [I 0, .nul] [(0, (none, .t 32)), (1, (none, .t 36))]), g0 (.sto 6 (.t 37) (some 2))]
def dc_Z129 : DC := .seq (.z r_Z129_0) (.seq (.seq (.z r_Z129_1) (.cond (.t 12) (.seq (.z r_Z129_2) .ret) .skip)) (.seq (.z r_Z129_3) (.seq (.seq (.z r_Z129_4) (.block 0 (.loop (.seq (.z r_Z129_5) (.seq (.cond (.t 21) .skip (.exit 0)) (.seq (.block 1 (.seq (.z r_Z129_6) (.z r_Z129_7))) (.z r_Z129_8))))))) (.seq (.reg r_Z129_9 (some [0, 0, 3, 0, 0, 31, 63, 127, 255])) .ret))))
theorem c_Z129 : cfun Tryz.prog [] 16 = some (38, dc_Z129, [(Res.cell 6 (some 2))]) := by kernel_rfl
end
end Go.Proofs.YtlcmchjeakhajaaGreat
namespace Go.Proofs.YtlcmchjeakhajaaGreat
open Go.RowKit
noncomputable section
def r_Z64_0 : List GI := [gi 1 (.box 1 2000001 (.t 0) (some 2)), gi 2 (.alloc 2 2000002 [I 0, .nul])]
def r_Z64_1 : List GI := [gf 5 1 0, gl 6 5, gi 7 (.build 7 [I 0, .nul] [(0, (none, .t 6))]), gi 3 (.alloc 3 2000003 [I 0, .nul]), g0 (.sto 3 (.t 7) (some 2))]
def r_Z64_2 : List GI := [gk 4 0]
def r_Z64_3 : List GI := [gt 8 4, gf 9 1 1, gl 10 9, gn 11 10, gb 12 .lss 8 11]
def r_Z64_4 : List GI := [gt 15 4, gd 16 .eql 15 0, gt 17 16, ⟨.fad 18 1 1, some 18, some (17, false), false⟩, ⟨.lod 19 18 none, some 19, some (17, false), false⟩, ⟨.mov 20 (.t 4), some 20, some (17, false), false⟩, ⟨.bin 21 .sub (.t 20) (.k (I 1)), some 21, some (17, false), false⟩, ⟨.iad 22 19 (.t 21) 1, some 22, some (17, false), false⟩, ⟨.lod 23 22 none, some 23, some (17, false), false⟩, ⟨.fad 24 1 1, some 24, some (17, false), false⟩, ⟨.lod 25 24 none, some 25, some (17, false), false⟩, ⟨.mov 26 (.t 4), some 26, some (17, false), false⟩, ⟨.iad 27 25 (.t 26) 1, some 27, some (17, false), false⟩, ⟨.lod 28 27 none, some 28, some (17, false), false⟩, ⟨.call 29 82 [.t 23, .t 28], some 29, some (17, false), true⟩, ⟨.bin 30 .neq (.t 29) (.k (I 0)), some 30, some (17, false), false⟩, gi 31 (.pick 31 (.t 17) (.k (.v (.bool true))) (.t 30))]
def r_Z64_5 : List GI := [gf 32 3 1, gl 33 32, gf 34 1 1, gl 35 34, gt 36 4, ga 37 35 36 1, gl 38 37, gc 39 52 [.t 38], gi 40 (.bsl 40 1 none [.nul] [(0, .t 39)]), gi 41 (.app 41 2000041 (.t 33) (.t 40) 1 24), gf 42 3 1, g0 (.sto 42 (.t 41) none)]
def r_Z64_6 : List GI := [gt 13 4, gd 14 .add 13 1, gt 4 14]
def r_Z64_7 : List GI := [gs 43 3 2, g0 (.sto 2 (.t 43) (some 2))]
def dc_Z64 : DC := .seq (.z r_Z64_0) (.seq (.z r_Z64_1) (.seq (.seq (.z r_Z64_2) (.block 0 (.loop (.seq (.seq (.z r_Z64_3) (.cond (.t 12) .skip (.exit 0))) (.seq (.block 1 (.seq (.reg r_Z64_4 (some [0, 1, 3, 7, 15, 7, 39, 127, 255, 7, 519, 7, 3591, 7687, 16383, 32767, 65535])) (.cond (.t 31) (.reg r_Z64_5 (some [0, 1, 0, 4, 0, 28, 60, 124, 252, 511, 1023, 2047])) .skip))) (.z r_Z64_6)))))) (.seq (.z r_Z64_7) .ret)))
theorem c_Z64 : cfun Tryz.prog [] 45 = some (44, dc_Z64, [(Res.cell 2 (some 2))]) := by kernel_rfl
def r_Z144_0 : List GI := [gi 2 (.box 2 2000002 (.t 0) (some 2)), gi 3 (.box 3 2000003 (.t 1) (some 2)), gi 4 (.alloc 4 2000004 [I 0, .nul])]
def r_Z144_1 : List GI := [gf 5 2 0, gl 6 5, gi 7 (.mov 7 (.k .nul)), gf 8 2 1, gl 9 8, gi 10 (.app 10 2000010 (.t 7) (.t 9) 1 24), gf 11 3 1, gl 12 11, gi 13 (.app 13 2000013 (.t 10) (.t 12) 1 24), gc 14 40 [.t 6, .t 13], g0 (.sto 4 (.t 14) (some 2))]
def dc_Z144 : DC := .seq (.z r_Z144_0) (.seq (.reg r_Z144_1 (some [0, 1, 0, 0, 8, 28, 0, 64, 252, 511, 1023])) .ret)
theorem c_Z144 : cfun Tryz.prog [] 44 = some (15, dc_Z144, [(Res.cell 4 (some 2))]) := by kernel_rfl
def r_Z140_0 : List GI := [gi 2 (.box 2 2000002 (.t 0) (some 5)), gi 4 (.alloc 4 2000004 [I 0, .nul])]
def r_Z140_1 : List GI := [gf 6 2 0, gl 7 6, gd 8 .eql 7 1]
def r_Z140_2 : List GI := [gt 9 1, gf 10 2 1, gl 11 10, ga 12 9 11 2, gf 13 12 0, gl 14 13, gt 15 1, gf 16 2 1, gl 17 16, ga 18 15 17 2, gf 19 18 1, gl 20 19, gc 21 40 [.t 14, .t 20], g0 (.sto 4 (.t 21) (some 2))]
def r_Z140_3 : List GI := [gf 22 2 4, gl 23 22, gi 24 (.iad 24 23 (.k (I 0)) 5), gs 25 24 5, gt 26 1, gc 27 21 [.t 25, .t 26], gi 5 (.alloc 5 2000005 [I 0, .nul]), g0 (.sto 5 (.t 27) (some 2))]
def r_Z140_4 : List GI := [gf 28 2 0, gl 29 28]
def r_Z140_5 : List GI := [gd 31 .eql 29 2, gt 30 31]
def r_Z140_6 : List GI := [gs 32 5 2, gf 33 2 2, gl 34 33, gi 35 (.iad 35 34 (.k (I 0)) 5), gs 36 35 5, gc 37 41 [.t 32, .t 36], g0 (.sto 4 (.t 37) (some 2))]
def r_Z140_7 : List GI := [gd 39 .eql 29 3, gt 38 39]
def r_Z140_8 : List GI := [gs 40 5 2, gf 41 2 2, gl 42 41, gc 43 42 [.t 40, .t 42], g0 (.sto 4 (.t 43) (some 2))]
def r_Z140_9 : List GI := [gd 45 .eql 29 4, gt 44 45]
def r_Z140_10 : List GI := [gd 46 .eql 29 5, gt 44 46]
def r_Z140_11 : List GI := [gs 47 5 2, gf 48 2 4, gl 49 48, gi 50 (.iad 50 49 (.k (I 1)) 5), gs 51 50 5, gt 52 1, gc 53 21 [.t 51, .t 52], gf 54 2 2, gl 55 54, gi 56 (.iad 56 55 (.k (I 0)) 5), gs 57 56 5, gf 58 2 0, gl 59 58, gd 60 .eql 59 5, gc 61 43 [.t 47, .t 53, .t 57, .t 60], g0 (.sto 4 (.t 61) (some 2))]
def r_Z140_12 : List GI := [gd 63 .eql 29 6, gt 62 63]
def r_Z140_13 : List GI := [gs 64 5 2, gf 65 2 4, gl 66 65, gi 67 (.iad 67 66 (.k (I 1)) 5), gs 68 67 5, gt 69 1, gc 70 21 [.t 68, .t 69], gc 71 44 [.t 64, .t 70], g0 (.sto 4 (.t 71) (some 2))]
def r_Z140_14 : List GI := [gd 73 .eql 29 7, gt 72 73]
def r_Z140_15 : List GI := [gs 74 5 2, gc 75 45 [.t 74], g0 (.sto 4 (.t 75) (some 2))]
def r_Z140_16 : List GI := [gs 76 5 2, gf 77 2 3, gl 78 77, gc 79 46 [.t 76, .t 78], g0 (.sto 4 (.t 79) (some 2))]
def dc_Z140 : DC := .seq (.z r_Z140_0) (.seq (.seq (.z r_Z140_1) (.cond (.t 8) (.seq (.reg r_Z140_2 (some [0, 0, 2, 7, 15, 31, 0, 0, 128, 448, 960, 1984, 4095, 8191])) .ret) .skip)) (.seq (.z r_Z140_3) (.seq (.seq (.z r_Z140_4) (.block 0 (.seq (.z r_Z140_5) (.cond (.t 30) (.seq (.reg r_Z140_6 (some [0, 0, 2, 6, 14, 31, 63])) .ret) (.seq (.z r_Z140_7) (.cond (.t 38) (.seq (.z r_Z140_8) .ret) (.seq (.seq (.z r_Z140_9) (.cond (.t 44) .skip (.z r_Z140_10))) (.cond (.t 44) (.seq (.reg r_Z140_11 (some [0, 0, 2, 6, 14, 0, 62, 0, 128, 384, 896, 0, 2048, 6144, 16383, 32767])) .ret) (.seq (.z r_Z140_12) (.cond (.t 62) (.seq (.reg r_Z140_13 (some [0, 0, 2, 6, 14, 0, 62, 127, 255])) .ret) (.seq (.z r_Z140_14) (.cond (.t 72) (.seq (.z r_Z140_15) .ret) .skip)))))))))))) (.seq (.z r_Z140_16) .ret))))
theorem c_Z140 : cfun Tryz.prog [] 21 = some (80, dc_Z140, [(Res.cell 4 (some 2))]) := by kernel_rfl
def r_Z55_0 : List GI := [gi 2 (.box 2 2000002 (.t 0) none), gi 3 (.box 3 2000003 (.t 1) none), gi 4 (.mov 4 (.k (.v .nilFunc)))]
def r_Z55_1 : List GI := [gi 5 (.mkf 5 99 [.t 2, .t 3]), gt 4 5]
def dc_Z55 : DC := .seq (.z r_Z55_0) (.seq (.z r_Z55_1) .ret)
theorem c_Z55 : cfun Tryz.prog [] 62 = some (6, dc_Z55, [(Res.tmp 4)]) := by kernel_rfl
def r_Z93_0 : List GI := [gi 2 (.box 2 2000002 (.t 0) (some 5)), gi 4 (.mov 4 (.k (.v .nilFunc)))]
def r_Z93_1 : List GI := [gf 5 2 0, gl 6 5]
def r_Z93_2 : List GI := [gd 8 .eql 6 2, gt 7 8]
def r_Z93_3 : List GI := [gt 9 1, gi 10 (.iad 10 9 (.k (I 0)) 2), gf 11 10 1, gl 12 11, gf 13 2 2, gl 14 13, gi 15 (.iad 15 14 (.k (I 0)) 5), gs 16 15 5, gc 17 63 [.t 16], gc 18 62 [.t 12, .t 17], gt 4 18]
def r_Z93_4 : List GI := [gd 20 .eql 6 3, gt 19 20]
def r_Z93_5 : List GI := [gt 21 1, gi 22 (.iad 22 21 (.k (I 0)) 2), gf 23 22 1, gl 24 23, gf 25 2 2, gl 26 25, gc 27 64 [.t 24, .t 26], gt 4 27]
def r_Z93_6 : List GI := [gd 29 .eql 6 4, gt 28 29]
def r_Z93_7 : List GI := [gt 30 1, gi 31 (.iad 31 30 (.k (I 0)) 2), gf 32 31 1, gl 33 32, gt 34 1, gi 35 (.iad 35 34 (.k (I 1)) 2), gs 36 35 2, gf 37 2 2, gl 38 37, gi 39 (.iad 39 38 (.k (I 0)) 5), gs 40 39 5, gc 41 63 [.t 40], gi 42 (.build 42 [I 0, .nul, .v .nilIface] [(0, (some 2, .t 36)), (2, (none, .t 41))]), gi 43 (.mkm 43 66 (.t 42)), gc 44 65 [.t 33, .t 43], gt 4 44]
def r_Z93_8 : List GI := [gd 46 .eql 6 5, gt 45 46]
def r_Z93_9 : List GI := [gt 47 1, gi 48 (.iad 48 47 (.k (I 0)) 2), gf 49 48 1, gl 50 49, gt 51 1, gi 52 (.iad 52 51 (.k (I 1)) 2), gs 53 52 2, gf 54 2 2, gl 55 54, gi 56 (.iad 56 55 (.k (I 0)) 5), gs 57 56 5, gc 58 63 [.t 57], gi 59 (.build 59 [I 0, .nul, .v .nilIface] [(0, (some 2, .t 53)), (2, (none, .t 58))]), gi 60 (.mkm 60 67 (.t 59)), gc 61 65 [.t 50, .t 60], gt 4 61]
def r_Z93_10 : List GI := [gd 63 .eql 6 6, gt 62 63]
def r_Z93_11 : List GI := [gt 64 1, gi 65 (.iad 65 64 (.k (I 0)) 2), gf 66 65 1, gl 67 66, gt 68 1, gi 69 (.iad 69 68 (.k (I 1)) 2), gf 70 69 1, gl 71 70, gi 72 (.bsl 72 1 none [.nul, .nul] [(0, .t 67), (1, .t 71)]), gc 73 69 [.t 72], gc 74 68 [.t 73], gt 4 74]
def r_Z93_12 : List GI := [gd 76 .eql 6 7, gt 75 76]
def r_Z93_13 : List GI := [gt 77 1, gi 78 (.iad 78 77 (.k (I 0)) 2), gf 79 78 1, gl 80 79, gc 81 70 [.t 80], gt 4 81]
def r_Z93_14 : List GI := [gt 82 1, gi 83 (.iad 83 82 (.k (I 0)) 2), gf 84 83 1, gl 85 84, gf 86 2 3, gl 87 86, ⟨.call 88 71 [.t 85, .t 87, .k (.fn 72 [])], some 88, none, true⟩, gt 4 88]
def dc_Z93 : DC := .seq (.z r_Z93_0) (.seq (.seq (.z r_Z93_1) (.block 0 (.seq (.z r_Z93_2) (.cond (.t 7) (.seq (.reg r_Z93_3 (some [0, 1, 3, 7, 0, 16, 48, 112, 240, 511, 1023])) .ret) (.seq (.z r_Z93_4) (.cond (.t 19) (.seq (.reg r_Z93_5 (some [0, 1, 3, 7, 0, 16, 63, 127])) .ret) (.seq (.z r_Z93_6) (.cond (.t 28) (.seq (.reg r_Z93_7 (some [0, 1, 3, 7, 0, 16, 48, 0, 128, 384, 896, 1920, 4080, 8176, 16383, 32767])) .ret) (.seq (.z r_Z93_8) (.cond (.t 45) (.seq (.reg r_Z93_9 (some [0, 1, 3, 7, 0, 16, 48, 0, 128, 384, 896, 1920, 4080, 8176, 16383, 32767])) .ret) (.seq (.z r_Z93_10) (.cond (.t 62) (.seq (.reg r_Z93_11 (some [0, 1, 3, 7, 0, 16, 48, 112, 255, 511, 1023, 2047])) .ret) (.seq (.z r_Z93_12) (.cond (.t 75) (.seq (.z r_Z93_13) .ret) .skip)))))))))))))) (.seq (.reg r_Z93_14 (some [0, 1, 3, 7, 0, 16, 63, 127])) .ret))
theorem c_Z93 : cfun Tryz.prog [] 33 = some (89, dc_Z93, [(Res.tmp 4)]) := by kernel_rfl
end
end Go.Proofs.YtlcmchjeakhajaaGreat
