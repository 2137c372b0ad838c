/-
  Functions of the program read as code on plain data. Closed facts of the program alone.
-/
import Derived.KernelRfl
import Derived.Test.YtepkimfmncedcaaGreatRows
import Derived.Test.YtepkimfmncedcaaGreatJSVGo
import Derived.Test.YtepkimfmncedcaaGreatJSVTbD
namespace Go.Proofs.YtepkimfmncedcaaGreat
open Go.RowKit
noncomputable section
def r_Z114_0 : List GI := [gi 2 (.mov 2 (.k (.v (.bool false))))]
def r_Z114_1 : List GI := [gt 10 0, gn 11 10, gd 12 .gtr 11 1048576]
def r_Z114_2 : List GI := [gi 2 (.mov 2 (.k (.v (.bool true))))]
def r_Z114_3 : List GI := [gt 14 0, gc 15 23 [.t 14], gt 13 15, gi 16 (.ext 16 13 0), gi 17 (.ext 17 13 1), gi 3 (.alloc 3 2000003 [I 0, I 0, .nul, .nul, .nul]), g0 (.sto 3 (.t 16) (some 5)), gt 4 17]
def r_Z114_4 : List GI := [gs 18 3 5, gt 19 4, gc 20 24 [.t 18, .t 19], gt 5 20]
def r_Z114_5 : List GI := [gt 21 5, gs 22 3 5, gt 23 4, gc 24 25 [.t 22, .t 23], gb 25 .neq 21 24, gt 26 25, ⟨.mov 27 (.t 5), some 27, some (26, false), false⟩, ⟨.bin 28 .lss (.t 27) (.k (I 0)), some 28, some (26, false), false⟩, gi 29 (.pick 29 (.t 26) (.k (.v (.bool true))) (.t 28))]
def r_Z114_6 : List GI := [gt 30 5, gs 31 3 5, gt 32 4, gc 33 25 [.t 31, .t 32], gb 34 .eql 30 33, gt 2 34]
def r_Z114_7 : List GI := [gs 36 3 5, gt 37 4, gc 38 9 [.t 36, .t 37], gt 35 38, gi 39 (.ext 39 35 0), gi 40 (.ext 40 35 1), gi 6 (.alloc 6 2000006 [I 0, .nul]), g0 (.sto 6 (.t 39) (some 2)), gt 7 40]
def r_Z114_8 : List GI := [gf 41 6 1, gl 42 41, gn 43 42, gt 8 43]
def r_Z114_9 : List GI := [gk 9 0]
def r_Z114_10 : List GI := [gt 44 9, gf 45 3 4, gl 46 45, gn 47 46, gb 48 .lss 44 47]
def r_Z114_11 : List GI := [gt 51 8, gf 52 3 4, gl 53 52, gt 54 9, ga 55 53 54 5, gs 56 55 5, gt 57 4, gc 58 24 [.t 56, .t 57], gb 59 .add 51 58, gt 8 59]
def r_Z114_12 : List GI := [gt 49 9, gd 50 .add 49 1, gt 9 50]
def r_Z114_13 : List GI := [gt 60 7, gt 61 60, ⟨.mov 62 (.t 8), some 62, some (61, true), false⟩, ⟨.mov 63 (.t 5), some 63, some (61, true), false⟩, ⟨.bin 64 .eql (.t 62) (.t 63), some 64, some (61, true), false⟩, gi 65 (.pick 65 (.t 61) (.t 64) (.k (.v (.bool false)))), gt 2 65]
def dc_Z114 : DC := .seq (.z r_Z114_0) (.seq (.seq (.z r_Z114_1) (.cond (.t 12) (.seq (.z r_Z114_2) .ret) .skip)) (.seq (.z r_Z114_3) (.seq (.z r_Z114_4) (.seq (.seq (.z r_Z114_5) (.cond (.t 29) (.seq (.z r_Z114_6) .ret) .skip)) (.seq (.z r_Z114_7) (.seq (.z r_Z114_8) (.seq (.seq (.z r_Z114_9) (.block 0 (.loop (.seq (.seq (.z r_Z114_10) (.cond (.t 48) .skip (.exit 0))) (.seq (.block 1 (.z r_Z114_11)) (.z r_Z114_12)))))) (.seq (.z r_Z114_13) .ret))))))))
theorem c_Z114 : cfun Tryz.prog [] 7 = some (66, dc_Z114, [(Res.tmp 2)]) := by kernel_rfl
def r_Z79_0 : List GI := [gi 2 (.alloc 2 2000002 [I 0, I 0, .nul, .nul, .nul]), gi 3 (.mov 3 (.k .nul))]
def r_Z79_1 : List GI := [gt 4 0, gc 5 27 [.t 4], gc 6 26 [.t 5], gi 7 (.ext 7 6 0), gi 8 (.ext 8 6 1), g0 (.sto 2 (.t 7) (some 5)), gt 3 8]
def dc_Z79 : DC := .seq (.z r_Z79_0) (.seq (.z r_Z79_1) .ret)
theorem c_Z79 : cfun Tryz.prog [] 23 = some (9, dc_Z79, [(Res.cell 2 (some 5)), (Res.tmp 3)]) := by kernel_rfl
end
end Go.Proofs.YtepkimfmncedcaaGreat
