/-
  Functions of the program read as code on plain data. Closed facts of the program alone.
-/
import Derived.KernelRfl
import Derived.Test.YtibknjpbbeackaaGreatRows
import Derived.Test.YtibknjpbbeackaaGreatJSVGo
import Derived.Test.YtibknjpbbeackaaGreatJSVTbD
namespace Go.Proofs.YtibknjpbbeackaaGreat
open Go.RowKit
noncomputable section
def r_Z89_0 : List GI := [gi 2 (.mov 2 (.k (.v (.bool false))))]
def r_Z89_1 : List GI := [gt 16 0, gn 17 16, gd 18 .gtr 17 1048576]
def r_Z89_2 : List GI := [gi 2 (.mov 2 (.k (.v (.bool true))))]
def r_Z89_3 : List GI := [gt 20 0, gc 21 15 [.t 20], gt 19 21, gi 22 (.ext 22 19 0), gi 23 (.ext 23 19 1), gi 3 (.alloc 3 2000003 [I 0, I 0, .nul, .nul, .nul]), g0 (.sto 3 (.t 22) (some 5)), gt 4 23]
def r_Z89_4 : List GI := [gs 25 3 5, gt 26 4, gc 27 16 [.t 25, .t 26], gt 24 27, gi 28 (.ext 28 24 0), gi 29 (.ext 29 24 1), gi 5 (.alloc 5 2000005 [I 0, .nul]), g0 (.sto 5 (.t 28) (some 2)), gt 6 29]
def r_Z89_5 : List GI := [gs 31 3 5, gt 32 4, gc 33 17 [.t 31, .t 32], gt 30 33, gi 34 (.ext 34 30 0), gi 35 (.ext 35 30 1), gi 7 (.alloc 7 2000007 [I 0, .nul]), g0 (.sto 7 (.t 34) (some 2)), gt 8 35]
def r_Z89_6 : List GI := [gt 36 6, gt 37 8, gi 38 (.beq 38 true (.t 36) (.t 37)), gt 39 38, ⟨.lod 40 5 (some 2), some 40, some (39, false), false⟩, ⟨.lod 41 7 (some 2), some 41, some (39, false), false⟩, ⟨.call 42 18 [.t 40, .t 41], some 42, some (39, false), true⟩, ⟨.un 43 UnOp.not (.t 42), some 43, some (39, false), false⟩, gi 44 (.pick 44 (.t 39) (.k (.v (.bool true))) (.t 43)), gt 45 44, ⟨.mov 46 (.t 6), some 46, some (45, false), false⟩, ⟨.un 47 UnOp.not (.t 46), some 47, some (45, false), false⟩, gi 48 (.pick 48 (.t 45) (.k (.v (.bool true))) (.t 47))]
def r_Z89_7 : List GI := [gt 49 6, gt 50 8, gi 51 (.beq 51 false (.t 49) (.t 50)), gt 52 51, ⟨.lod 53 5 (some 2), some 53, some (52, true), false⟩, ⟨.lod 54 7 (some 2), some 54, some (52, true), false⟩, ⟨.call 55 18 [.t 53, .t 54], some 55, some (52, true), true⟩, gi 56 (.pick 56 (.t 52) (.t 55) (.k (.v (.bool false)))), gt 2 56]
def r_Z89_8 : List GI := [gi 57 (.build 57 [I 0, I 0, .v (.bool false), I 0, .nul] [(0, (none, .k (I 1)))]), gi 58 (.bsl 58 5 (some 5) [.agg [I 0, I 0, .v (.bool false), I 0, .nul]] [(0, .t 57)]), gt 9 58]
def r_Z89_9 : List GI := [gi 59 (.bsl 59 1 none [I 0] [(0, .k (I 0))]), gs 60 3 5, gi 61 (.bsl 61 5 (some 5) [.agg [I 0, I 0, .nul, .nul, .nul]] [(0, .t 60)]), gi 62 (.build 62 [I 0, I 0, .nul, .nul, .nul] [(0, (none, .k (I 8))), (3, (none, .t 59)), (4, (none, .t 61))]), gi 10 (.alloc 10 2000010 [I 0, I 0, .nul, .nul, .nul]), g0 (.sto 10 (.t 62) (some 5))]
def r_Z89_10 : List GI := [gt 63 9, gs 64 3 5, gi 65 (.bsl 65 5 (some 5) [.agg [I 0, I 0, .nul, .nul, .nul]] [(0, .t 64)]), gi 66 (.build 66 [I 0, I 0, .nul, .nul, .nul] [(0, (none, .k (I 3))), (2, (none, .t 63)), (4, (none, .t 65))]), gi 11 (.alloc 11 2000011 [I 0, I 0, .nul, .nul, .nul]), g0 (.sto 11 (.t 66) (some 5))]
def r_Z89_11 : List GI := [gt 68 9, gs 69 10 5, gi 70 (.bsl 70 5 (some 5) [.agg [I 0, I 0, .nul, .nul, .nul]] [(0, .t 69)]), gi 71 (.build 71 [I 0, I 0, .nul, .nul, .nul] [(0, (none, .k (I 3))), (2, (none, .t 68)), (4, (none, .t 70))]), gt 72 4, gc 73 16 [.t 71, .t 72], gt 67 73, gi 74 (.ext 74 67 0), gi 75 (.ext 75 67 1), gi 12 (.alloc 12 2000012 [I 0, .nul]), g0 (.sto 12 (.t 74) (some 2)), gt 13 75]
def r_Z89_12 : List GI := [gs 77 11 5, gi 78 (.bsl 78 5 (some 5) [.agg [I 0, I 0, .nul, .nul, .nul]] [(0, .t 77)]), gi 79 (.build 79 [I 0, I 0, .nul, .nul, .nul] [(0, (none, .k (I 7))), (4, (none, .t 78))]), gt 80 4, gc 81 16 [.t 79, .t 80], gt 76 81, gi 82 (.ext 82 76 0), gi 83 (.ext 83 76 1), gi 14 (.alloc 14 2000014 [I 0, .nul]), g0 (.sto 14 (.t 82) (some 2)), gt 15 83]
def r_Z89_13 : List GI := [gt 84 13, gt 85 15, gi 86 (.beq 86 false (.t 84) (.t 85)), gt 87 86, ⟨.mov 88 (.t 13), some 88, some (87, true), false⟩, ⟨.un 89 UnOp.not (.t 88), some 89, some (87, true), false⟩, ⟨.mov 90 (.t 89), some 90, some (87, true), false⟩, ⟨.lod 91 12 (some 2), some 91, some (90, false), false⟩, ⟨.lod 92 14 (some 2), some 92, some (90, false), false⟩, ⟨.call 93 18 [.t 91, .t 92], some 93, some (90, false), true⟩, ⟨.pick 94 (.t 90) (.k (.v (.bool true))) (.t 93), some 94, some (87, true), false⟩, gi 95 (.pick 95 (.t 87) (.t 94) (.k (.v (.bool false)))), gt 2 95]
def dc_Z89 : DC := .seq (.z r_Z89_0) (.seq (.seq (.z r_Z89_1) (.cond (.t 18) (.seq (.z r_Z89_2) .ret) .skip)) (.seq (.z r_Z89_3) (.seq (.z r_Z89_4) (.seq (.z r_Z89_5) (.seq (.seq (.z r_Z89_6) (.cond (.t 48) (.seq (.z r_Z89_7) .ret) .skip)) (.seq (.z r_Z89_8) (.seq (.z r_Z89_9) (.seq (.z r_Z89_10) (.seq (.z r_Z89_11) (.seq (.z r_Z89_12) (.seq (.z r_Z89_13) .ret)))))))))))
theorem c_Z89 : cfun Tryz.prog [] 8 = some (96, dc_Z89, [(Res.tmp 2)]) := by kernel_rfl
end
end Go.Proofs.YtibknjpbbeackaaGreat
