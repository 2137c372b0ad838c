/-
  Functions of the program read as code on plain data. Closed facts of the program alone.
-/
import Derived.KernelRfl
import Derived.Test.YtibknjpbbeackaaGreatRows
import Derived.Test.YtibknjpbbeackaaGreatJSVGo
import Derived.Test.YtibknjpbbeackaaGreatJSVTbD
namespace Go.Proofs.YtibknjpbbeackaaGreat
open Go.RowKit
noncomputable section
def r_Z104_0 : List GI := [gi 2 (.mov 2 (.k (.v (.bool false))))]
def r_Z104_1 : List GI := [gt 9 0, gn 10 9, gd 11 .gtr 10 1048576]
def r_Z104_2 : List GI := [gi 2 (.mov 2 (.k (.v (.bool true))))]
def r_Z104_3 : List GI := [gt 13 0, gc 14 15 [.t 13], gt 12 14, gi 15 (.ext 15 12 0), gi 16 (.ext 16 12 1), gi 3 (.alloc 3 2000003 [I 0, I 0, .nul, .nul, .nul]), g0 (.sto 3 (.t 15) (some 5)), gt 4 16]
def r_Z104_4 : List GI := [gs 18 3 5, gt 19 4, gc 20 16 [.t 18, .t 19], gt 17 20, gi 21 (.ext 21 17 0), gi 22 (.ext 22 17 1), gi 5 (.alloc 5 2000005 [I 0, .nul]), g0 (.sto 5 (.t 21) (some 2)), gt 6 22]
def r_Z104_5 : List GI := [gs 24 3 5, gt 25 4, gc 26 17 [.t 24, .t 25], gt 23 26, gi 27 (.ext 27 23 0), gi 28 (.ext 28 23 1), gi 7 (.alloc 7 2000007 [I 0, .nul]), g0 (.sto 7 (.t 27) (some 2)), gt 8 28]
def r_Z104_6 : List GI := [gt 29 6, gt 30 8, gi 31 (.beq 31 true (.t 29) (.t 30)), gt 32 31, ⟨.lod 33 5 (some 2), some 33, some (32, false), false⟩, ⟨.lod 34 7 (some 2), some 34, some (32, false), false⟩, ⟨.call 35 18 [.t 33, .t 34], some 35, some (32, false), true⟩, ⟨.un 36 UnOp.not (.t 35), some 36, some (32, false), false⟩, gi 37 (.pick 37 (.t 32) (.k (.v (.bool true))) (.t 36)), gt 38 37, ⟨.mov 39 (.t 6), some 39, some (38, false), false⟩, ⟨.un 40 UnOp.not (.t 39), some 40, some (38, false), false⟩, gi 41 (.pick 41 (.t 38) (.k (.v (.bool true))) (.t 40))]
def r_Z104_7 : List GI := [gt 42 6, gt 43 8, gi 44 (.beq 44 false (.t 42) (.t 43)), gt 45 44, ⟨.lod 46 5 (some 2), some 46, some (45, true), false⟩, ⟨.lod 47 7 (some 2), some 47, some (45, true), false⟩, ⟨.call 48 18 [.t 46, .t 47], some 48, some (45, true), true⟩, gi 49 (.pick 49 (.t 45) (.t 48) (.k (.v (.bool false)))), gt 2 49]
def r_Z104_8 : List GI := [gs 50 5 2, gc 51 26 [.t 50], gt 52 51, ⟨.fad 53 5 0, some 53, some (52, true), false⟩, ⟨.lod 54 53 none, some 54, some (52, true), false⟩, ⟨.lod 55 3 (some 5), some 55, some (52, true), false⟩, ⟨.mov 56 (.t 4), some 56, some (52, true), false⟩, ⟨.call 57 28 [.t 56], some 57, some (52, true), true⟩, ⟨.call 58 27 [.t 55, .t 57], some 58, some (52, true), true⟩, ⟨.bin 59 .eql (.t 54) (.t 58), some 59, some (52, true), false⟩, gi 60 (.pick 60 (.t 52) (.t 59) (.k (.v (.bool false)))), gt 2 60]
def dc_Z104 : DC := .seq (.z r_Z104_0) (.seq (.seq (.z r_Z104_1) (.cond (.t 11) (.seq (.z r_Z104_2) .ret) .skip)) (.seq (.z r_Z104_3) (.seq (.z r_Z104_4) (.seq (.z r_Z104_5) (.seq (.seq (.z r_Z104_6) (.cond (.t 41) (.seq (.z r_Z104_7) .ret) .skip)) (.seq (.reg r_Z104_8 (some [0, 1, 3, 7, 15, 7, 7, 71, 231, 511, 1023, 2047])) .ret))))))
theorem c_Z104 : cfun Tryz.prog [] 14 = some (61, dc_Z104, [(Res.tmp 2)]) := by kernel_rfl
def r_Z140_0 : List GI := [gi 2 (.mov 2 (.k .nul))]
def r_Z140_1 : List GI := [gi 5 (.mov 5 (.k .nul)), gt 3 5]
def r_Z140_2 : List GI := [gk 4 0]
def r_Z140_3 : List GI := [gt 6 4, gt 7 0, gn 8 7, gb 9 .lss 6 8]
def r_Z140_4 : List GI := [gt 12 3, gt 13 0, gt 14 4, ga 15 13 14 2, gf 16 15 0, gl 17 16, gi 18 (.bsl 18 1 none [I 0] [(0, .t 17)]), gi 19 (.app 19 2000019 (.t 12) (.t 18) 1 8), gt 3 19]
def r_Z140_5 : List GI := [gt 10 4, gd 11 .add 10 1, gt 4 11]
def r_Z140_6 : List GI := [gt 20 3, gt 2 20]
def dc_Z140 : DC := .seq (.z r_Z140_0) (.seq (.z r_Z140_1) (.seq (.seq (.z r_Z140_2) (.block 0 (.loop (.seq (.seq (.z r_Z140_3) (.cond (.t 9) .skip (.exit 0))) (.seq (.block 1 (.z r_Z140_4)) (.z r_Z140_5)))))) (.seq (.z r_Z140_6) .ret)))
theorem c_Z140 : cfun Tryz.prog [] 28 = some (21, dc_Z140, [(Res.tmp 2)]) := by kernel_rfl
end
end Go.Proofs.YtibknjpbbeackaaGreat
