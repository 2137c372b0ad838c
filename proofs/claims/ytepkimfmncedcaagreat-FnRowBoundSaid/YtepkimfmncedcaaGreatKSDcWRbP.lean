/-
  Functions of the program read as code on plain data. Closed facts of the program alone.
-/
import Derived.KernelRfl
import Derived.Test.YtepkimfmncedcaaGreatRows
import Derived.Test.YtepkimfmncedcaaGreatJSVGo
import Derived.Test.YtepkimfmncedcaaGreatJSVTbD
namespace Go.Proofs.YtepkimfmncedcaaGreat
open Go.RowKit
noncomputable section
def r_Z115_0 : List GI := [gi 2 (.mov 2 (.k (.v (.bool false))))]
def r_Z115_1 : List GI := [gt 12 0, gn 13 12, gd 14 .gtr 13 1048576]
def r_Z115_2 : List GI := [gi 2 (.mov 2 (.k (.v (.bool true))))]
def r_Z115_3 : List GI := [gt 16 0, gc 17 8 [.t 16], gt 15 17, gi 18 (.ext 18 15 0), gi 19 (.ext 19 15 1), gi 3 (.alloc 3 2000003 [I 0, I 0, .nul, .nul, .nul]), g0 (.sto 3 (.t 18) (some 5)), gt 4 19]
def r_Z115_4 : List GI := [gs 21 3 5, gt 22 4, gc 23 9 [.t 21, .t 22], gt 20 23, gi 24 (.ext 24 20 0), gi 25 (.ext 25 20 1), gi 5 (.alloc 5 2000005 [I 0, .nul]), g0 (.sto 5 (.t 24) (some 2)), gt 6 25]
def r_Z115_5 : List GI := [gs 27 3 5, gt 28 4, gc 29 10 [.t 27, .t 28], gt 26 29, gi 30 (.ext 30 26 0), gi 31 (.ext 31 26 1), gi 7 (.alloc 7 2000007 [I 0, .nul]), g0 (.sto 7 (.t 30) (some 2)), gt 8 31]
def r_Z115_6 : List GI := [gt 32 6, gt 33 8, gi 34 (.beq 34 true (.t 32) (.t 33)), gt 35 34, ⟨.lod 36 5 (some 2), some 36, some (35, false), false⟩, ⟨.lod 37 7 (some 2), some 37, some (35, false), false⟩, ⟨.call 38 11 [.t 36, .t 37], some 38, some (35, false), true⟩, ⟨.un 39 UnOp.not (.t 38), some 39, some (35, false), false⟩, gi 40 (.pick 40 (.t 35) (.k (.v (.bool true))) (.t 39)), gt 41 40, ⟨.mov 42 (.t 6), some 42, some (41, false), false⟩, ⟨.un 43 UnOp.not (.t 42), some 43, some (41, false), false⟩, gi 44 (.pick 44 (.t 41) (.k (.v (.bool true))) (.t 43))]
def r_Z115_7 : List GI := [gt 45 6, gt 46 8, gi 47 (.beq 47 false (.t 45) (.t 46)), gt 48 47, ⟨.lod 49 5 (some 2), some 49, some (48, true), false⟩, ⟨.lod 50 7 (some 2), some 50, some (48, true), false⟩, ⟨.call 51 11 [.t 49, .t 50], some 51, some (48, true), true⟩, gi 52 (.pick 52 (.t 48) (.t 51) (.k (.v (.bool false)))), gt 2 52]
def r_Z115_8 : List GI := [gi 53 (.mov 53 (.k .nul)), gt 9 53]
def r_Z115_9 : List GI := [gk 10 0]
def r_Z115_10 : List GI := [gt 54 10, gt 55 4, gn 56 55, gb 57 .lss 54 56]
def r_Z115_11 : List GI := [gt 60 9, gt 61 4, gt 62 10, ga 63 61 62 2, gf 64 63 1, gl 65 64, gn 66 65, gi 67 (.bsl 67 1 none [I 0] [(0, .t 66)]), gi 68 (.app 68 2000068 (.t 60) (.t 67) 1 8), gt 9 68]
def r_Z115_12 : List GI := [gt 58 10, gd 59 .add 58 1, gt 10 59]
def r_Z115_13 : List GI := [gs 69 3 5, gt 70 4, gc 71 13 [.t 70], gt 72 9, gc 73 18 [.t 69, .t 71, .t 72], gt 11 73]
def r_Z115_14 : List GI := [gt 74 11, gs 75 3 5, gt 76 4, gc 77 13 [.t 76], gt 78 9, gc 79 19 [.t 75, .t 77, .t 78], gb 80 .eql 74 79, gt 81 80, ⟨.fad 82 5 1, some 82, some (81, true), false⟩, ⟨.lod 83 82 none, some 83, some (81, true), false⟩, ⟨.len 84 (.t 83), some 84, some (81, true), false⟩, ⟨.mov 85 (.t 11), some 85, some (81, true), false⟩, ⟨.bin 86 .leq (.t 84) (.t 85), some 86, some (81, true), false⟩, gi 87 (.pick 87 (.t 81) (.t 86) (.k (.v (.bool false)))), gt 2 87]
def dc_Z115 : DC := .seq (.z r_Z115_0) (.seq (.seq (.z r_Z115_1) (.cond (.t 14) (.seq (.z r_Z115_2) .ret) .skip)) (.seq (.z r_Z115_3) (.seq (.z r_Z115_4) (.seq (.z r_Z115_5) (.seq (.seq (.z r_Z115_6) (.cond (.t 44) (.seq (.z r_Z115_7) .ret) .skip)) (.seq (.z r_Z115_8) (.seq (.seq (.z r_Z115_9) (.block 0 (.loop (.seq (.seq (.z r_Z115_10) (.cond (.t 57) .skip (.exit 0))) (.seq (.block 1 (.z r_Z115_11)) (.z r_Z115_12)))))) (.seq (.reg r_Z115_13 (some [0, 0, 2, 0, 15, 31])) (.seq (.reg r_Z115_14 (some [0, 0, 0, 4, 0, 30, 63, 127, 255, 511, 1023, 255, 4095, 8191, 16383])) .ret)))))))))
theorem c_Z115 : cfun Tryz.prog [] 5 = some (88, dc_Z115, [(Res.tmp 2)]) := by kernel_rfl
end
end Go.Proofs.YtepkimfmncedcaaGreat
