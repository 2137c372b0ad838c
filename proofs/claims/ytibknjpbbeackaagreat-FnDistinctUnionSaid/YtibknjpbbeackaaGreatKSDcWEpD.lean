/-
  Functions of the program read as code on plain data. Closed facts of the program alone.
-/
import Derived.KernelRfl
import Derived.Test.YtibknjpbbeackaaGreatRows
import Derived.Test.YtibknjpbbeackaaGreatJSVGo
import Derived.Test.YtibknjpbbeackaaGreatJSVTbD
namespace Go.Proofs.YtibknjpbbeackaaGreat
open Go.RowKit
noncomputable section
def r_Z38_0 : List GI := [gi 2 (.mov 2 (.k (.v (.bool false))))]
def r_Z38_1 : List GI := [gt 14 0, gn 15 14, gd 16 .gtr 15 1048576]
def r_Z38_2 : List GI := [gi 2 (.mov 2 (.k (.v (.bool true))))]
def r_Z38_3 : List GI := [gt 18 0, gc 19 15 [.t 18], gt 17 19, gi 20 (.ext 20 17 0), gi 21 (.ext 21 17 1), gi 3 (.alloc 3 2000003 [I 0, I 0, .nul, .nul, .nul]), g0 (.sto 3 (.t 20) (some 5)), gt 4 21]
def r_Z38_4 : List GI := [gs 23 3 5, gt 24 4, gc 25 16 [.t 23, .t 24], gt 22 25, gi 26 (.ext 26 22 0), gi 27 (.ext 27 22 1), gi 5 (.alloc 5 2000005 [I 0, .nul]), g0 (.sto 5 (.t 26) (some 2)), gt 6 27]
def r_Z38_5 : List GI := [gs 29 3 5, gt 30 4, gc 31 17 [.t 29, .t 30], gt 28 31, gi 32 (.ext 32 28 0), gi 33 (.ext 33 28 1), gi 7 (.alloc 7 2000007 [I 0, .nul]), g0 (.sto 7 (.t 32) (some 2)), gt 8 33]
def r_Z38_6 : List GI := [gt 34 6, gt 35 8, gi 36 (.beq 36 true (.t 34) (.t 35)), gt 37 36, ⟨.lod 38 5 (some 2), some 38, some (37, false), false⟩, ⟨.lod 39 7 (some 2), some 39, some (37, false), false⟩, ⟨.call 40 18 [.t 38, .t 39], some 40, some (37, false), true⟩, ⟨.un 41 UnOp.not (.t 40), some 41, some (37, false), false⟩, gi 42 (.pick 42 (.t 37) (.k (.v (.bool true))) (.t 41)), gt 43 42, ⟨.mov 44 (.t 6), some 44, some (43, false), false⟩, ⟨.un 45 UnOp.not (.t 44), some 45, some (43, false), false⟩, gi 46 (.pick 46 (.t 43) (.k (.v (.bool true))) (.t 45))]
def r_Z38_7 : List GI := [gt 47 6, gt 48 8, gi 49 (.beq 49 false (.t 47) (.t 48)), gt 50 49, ⟨.lod 51 5 (some 2), some 51, some (50, true), false⟩, ⟨.lod 52 7 (some 2), some 52, some (50, true), false⟩, ⟨.call 53 18 [.t 51, .t 52], some 53, some (50, true), true⟩, gi 54 (.pick 54 (.t 50) (.t 53) (.k (.v (.bool false)))), gt 2 54]
def r_Z38_8 : List GI := [gs 55 3 5, gs 56 3 5, gi 57 (.bsl 57 5 (some 5) [.agg [I 0, I 0, .nul, .nul, .nul], .agg [I 0, I 0, .nul, .nul, .nul]] [(0, .t 55), (1, .t 56)]), gi 58 (.build 58 [I 0, I 0, .nul, .nul, .nul] [(0, (none, .k (I 6))), (4, (none, .t 57))]), gi 9 (.alloc 9 2000009 [I 0, I 0, .nul, .nul, .nul]), g0 (.sto 9 (.t 58) (some 5))]
def r_Z38_9 : List GI := [gs 60 9 5, gi 61 (.bsl 61 5 (some 5) [.agg [I 0, I 0, .nul, .nul, .nul]] [(0, .t 60)]), gi 62 (.build 62 [I 0, I 0, .nul, .nul, .nul] [(0, (none, .k (I 7))), (4, (none, .t 61))]), gt 63 4, gc 64 16 [.t 62, .t 63], gt 59 64, gi 65 (.ext 65 59 0), gi 66 (.ext 66 59 1), gi 10 (.alloc 10 2000010 [I 0, .nul]), g0 (.sto 10 (.t 65) (some 2)), gt 11 66]
def r_Z38_10 : List GI := [gs 68 5 2, gc 69 20 [.t 68], gt 67 69, gi 70 (.ext 70 67 0), gi 71 (.ext 71 67 1), gi 12 (.alloc 12 2000012 [I 0, .nul]), g0 (.sto 12 (.t 70) (some 2)), gt 13 71]
def r_Z38_11 : List GI := [gt 72 11, gi 73 (.un 73 UnOp.not (.t 72)), gt 74 73, ⟨.mov 75 (.t 13), some 75, some (74, false), false⟩, ⟨.mov 76 (.t 75), some 76, some (74, false), false⟩, ⟨.lod 77 10 (some 2), some 77, some (76, true), false⟩, ⟨.lod 78 12 (some 2), some 78, some (76, true), false⟩, ⟨.call 79 18 [.t 77, .t 78], some 79, some (76, true), true⟩, ⟨.pick 80 (.t 76) (.t 79) (.k (.v (.bool false))), some 80, some (74, false), false⟩, gi 81 (.pick 81 (.t 74) (.k (.v (.bool true))) (.t 80)), gt 2 81]
def dc_Z38 : DC := .seq (.z r_Z38_0) (.seq (.seq (.z r_Z38_1) (.cond (.t 16) (.seq (.z r_Z38_2) .ret) .skip)) (.seq (.z r_Z38_3) (.seq (.z r_Z38_4) (.seq (.z r_Z38_5) (.seq (.seq (.z r_Z38_6) (.cond (.t 46) (.seq (.z r_Z38_7) .ret) .skip)) (.seq (.z r_Z38_8) (.seq (.z r_Z38_9) (.seq (.z r_Z38_10) (.seq (.z r_Z38_11) .ret)))))))))
theorem c_Z38 : cfun Tryz.prog [] 5 = some (82, dc_Z38, [(Res.tmp 2)]) := by kernel_rfl
end
end Go.Proofs.YtibknjpbbeackaaGreat
