/-
  Functions of the program read as code on plain data. Closed facts of the program alone.
-/
import Derived.KernelRfl
import Derived.Test.YtibknjpbbeackaaGreatRows
import Derived.Test.YtibknjpbbeackaaGreatJSVGo
import Derived.Test.YtibknjpbbeackaaGreatJSVTbD
namespace Go.Proofs.YtibknjpbbeackaaGreat
open Go.RowKit
noncomputable section
def r_Z67_0 : List GI := [gi 2 (.mov 2 (.k (.v (.bool false))))]
def r_Z67_1 : List GI := [gt 12 0, gn 13 12, gd 14 .gtr 13 1048576]
def r_Z67_2 : List GI := [gi 2 (.mov 2 (.k (.v (.bool true))))]
def r_Z67_3 : List GI := [gt 16 0, gc 17 15 [.t 16], gt 15 17, gi 18 (.ext 18 15 0), gi 19 (.ext 19 15 1), gi 3 (.alloc 3 2000003 [I 0, I 0, .nul, .nul, .nul]), g0 (.sto 3 (.t 18) (some 5)), gt 4 19]
def r_Z67_4 : List GI := [gs 21 3 5, gt 22 4, gc 23 16 [.t 21, .t 22], gt 20 23, gi 24 (.ext 24 20 0), gi 25 (.ext 25 20 1), gi 5 (.alloc 5 2000005 [I 0, .nul]), g0 (.sto 5 (.t 24) (some 2)), gt 6 25]
def r_Z67_5 : List GI := [gs 27 3 5, gt 28 4, gc 29 17 [.t 27, .t 28], gt 26 29, gi 30 (.ext 30 26 0), gi 31 (.ext 31 26 1), gi 7 (.alloc 7 2000007 [I 0, .nul]), g0 (.sto 7 (.t 30) (some 2)), gt 8 31]
def r_Z67_6 : List GI := [gt 32 6, gt 33 8, gi 34 (.beq 34 true (.t 32) (.t 33)), gt 35 34, ⟨.lod 36 5 (some 2), some 36, some (35, false), false⟩, ⟨.lod 37 7 (some 2), some 37, some (35, false), false⟩, ⟨.call 38 18 [.t 36, .t 37], some 38, some (35, false), true⟩, ⟨.un 39 UnOp.not (.t 38), some 39, some (35, false), false⟩, gi 40 (.pick 40 (.t 35) (.k (.v (.bool true))) (.t 39)), gt 41 40, ⟨.mov 42 (.t 6), some 42, some (41, false), false⟩, ⟨.un 43 UnOp.not (.t 42), some 43, some (41, false), false⟩, gi 44 (.pick 44 (.t 41) (.k (.v (.bool true))) (.t 43)), gt 45 44, ⟨.fad 46 3 0, some 46, some (45, false), false⟩, ⟨.lod 47 46 none, some 47, some (45, false), false⟩, ⟨.bin 48 .neq (.t 47) (.k (I 4)), some 48, some (45, false), false⟩, gi 49 (.pick 49 (.t 45) (.k (.v (.bool true))) (.t 48))]
def r_Z67_7 : List GI := [gt 50 6, gt 51 8, gi 52 (.beq 52 false (.t 50) (.t 51)), gt 53 52, ⟨.lod 54 5 (some 2), some 54, some (53, true), false⟩, ⟨.lod 55 7 (some 2), some 55, some (53, true), false⟩, ⟨.call 56 18 [.t 54, .t 55], some 56, some (53, true), true⟩, gi 57 (.pick 57 (.t 53) (.t 56) (.k (.v (.bool false)))), gt 2 57]
def r_Z67_8 : List GI := [gi 58 (.build 58 [.v (.bool false), I 0] [(1, (none, .k (I 1)))]), gi 59 (.build 59 [I 0, I 0, .v (.bool false), I 0, .nul] [(0, (none, .k (I 2))), (2, (some 2, .t 58))]), gi 60 (.bsl 60 5 (some 5) [.agg [I 0, I 0, .v (.bool false), I 0, .nul]] [(0, .t 59)]), gf 61 3 4, gl 62 61, gi 63 (.build 63 [I 0, I 0, .nul, .nul, .nul] [(0, (none, .k (I 4))), (2, (none, .t 60)), (4, (none, .t 62))]), gi 9 (.alloc 9 2000009 [I 0, I 0, .nul, .nul, .nul]), g0 (.sto 9 (.t 63) (some 5))]
def r_Z67_9 : List GI := [gf 65 3 2, gl 66 65, gi 67 (.iad 67 66 (.k (I 0)) 5), gs 68 67 5, gs 69 9 5, gc 70 19 [.t 68, .t 69], gt 71 4, gc 72 16 [.t 70, .t 71], gt 64 72, gi 73 (.ext 73 64 0), gi 74 (.ext 74 64 1), gi 10 (.alloc 10 2000010 [I 0, .nul]), g0 (.sto 10 (.t 73) (some 2)), gt 11 74]
def r_Z67_10 : List GI := [gt 75 11, gi 76 (.un 76 UnOp.not (.t 75)), gt 77 76, ⟨.lod 78 10 (some 2), some 78, some (77, false), false⟩, ⟨.lod 79 5 (some 2), some 79, some (77, false), false⟩, ⟨.call 80 18 [.t 78, .t 79], some 80, some (77, false), true⟩, gi 81 (.pick 81 (.t 77) (.k (.v (.bool true))) (.t 80)), gt 2 81]
def dc_Z67 : DC := .seq (.z r_Z67_0) (.seq (.seq (.z r_Z67_1) (.cond (.t 14) (.seq (.z r_Z67_2) .ret) .skip)) (.seq (.z r_Z67_3) (.seq (.z r_Z67_4) (.seq (.z r_Z67_5) (.seq (.seq (.z r_Z67_6) (.cond (.t 49) (.seq (.z r_Z67_7) .ret) .skip)) (.seq (.z r_Z67_8) (.seq (.reg r_Z67_9 (some [0, 1, 3, 7, 0, 31, 0, 127, 255, 511, 511, 0, 3071, 8191])) (.seq (.z r_Z67_10) .ret))))))))
theorem c_Z67 : cfun Tryz.prog [] 6 = some (82, dc_Z67, [(Res.tmp 2)]) := by kernel_rfl
end
end Go.Proofs.YtibknjpbbeackaaGreat
