/-
  Functions of the program read as code on plain data. Closed facts of the program alone.
-/
import Derived.KernelRfl
import Derived.Test.YtibknjpbbeackaaGreatRows
import Derived.Test.YtibknjpbbeackaaGreatJSVGo
import Derived.Test.YtibknjpbbeackaaGreatJSVTbD
namespace Go.Proofs.YtibknjpbbeackaaGreat
open Go.RowKit
noncomputable section
def r_Z89_0 : List GI := [gi 2 (.mov 2 (.k (.v (.bool false))))]
def r_Z89_1 : List GI := [gt 15 0, gn 16 15, gd 17 .gtr 16 1048576]
def r_Z89_2 : List GI := [gi 2 (.mov 2 (.k (.v (.bool true))))]
def r_Z89_3 : List GI := [gt 19 0, gc 20 15 [.t 19], gt 18 20, gi 21 (.ext 21 18 0), gi 22 (.ext 22 18 1), gi 3 (.alloc 3 2000003 [I 0, I 0, .nul, .nul, .nul]), g0 (.sto 3 (.t 21) (some 5)), gt 4 22]
def r_Z89_4 : List GI := [gs 24 3 5, gt 25 4, gc 26 16 [.t 24, .t 25], gt 23 26, gi 27 (.ext 27 23 0), gi 28 (.ext 28 23 1), gi 5 (.alloc 5 2000005 [I 0, .nul]), g0 (.sto 5 (.t 27) (some 2)), gt 6 28]
def r_Z89_5 : List GI := [gs 30 3 5, gt 31 4, gc 32 17 [.t 30, .t 31], gt 29 32, gi 33 (.ext 33 29 0), gi 34 (.ext 34 29 1), gi 7 (.alloc 7 2000007 [I 0, .nul]), g0 (.sto 7 (.t 33) (some 2)), gt 8 34]
def r_Z89_6 : List GI := [gt 35 6, gt 36 8, gi 37 (.beq 37 true (.t 35) (.t 36)), gt 38 37, ⟨.lod 39 5 (some 2), some 39, some (38, false), false⟩, ⟨.lod 40 7 (some 2), some 40, some (38, false), false⟩, ⟨.call 41 18 [.t 39, .t 40], some 41, some (38, false), true⟩, ⟨.un 42 UnOp.not (.t 41), some 42, some (38, false), false⟩, gi 43 (.pick 43 (.t 38) (.k (.v (.bool true))) (.t 42)), gt 44 43, ⟨.mov 45 (.t 6), some 45, some (44, false), false⟩, ⟨.un 46 UnOp.not (.t 45), some 46, some (44, false), false⟩, gi 47 (.pick 47 (.t 44) (.k (.v (.bool true))) (.t 46)), gt 48 47, ⟨.fad 49 3 0, some 49, some (48, false), false⟩, ⟨.lod 50 49 none, some 50, some (48, false), false⟩, ⟨.bin 51 .neq (.t 50) (.k (I 6)), some 51, some (48, false), false⟩, gi 52 (.pick 52 (.t 48) (.k (.v (.bool true))) (.t 51))]
def r_Z89_7 : List GI := [gt 53 6, gt 54 8, gi 55 (.beq 55 false (.t 53) (.t 54)), gt 56 55, ⟨.lod 57 5 (some 2), some 57, some (56, true), false⟩, ⟨.lod 58 7 (some 2), some 58, some (56, true), false⟩, ⟨.call 59 18 [.t 57, .t 58], some 59, some (56, true), true⟩, gi 60 (.pick 60 (.t 56) (.t 59) (.k (.v (.bool false)))), gt 2 60]
def r_Z89_8 : List GI := [gf 62 3 4, gl 63 62, gi 64 (.iad 64 63 (.k (I 1)) 5), gs 65 64 5, gf 66 3 4, gl 67 66, gi 68 (.iad 68 67 (.k (I 0)) 5), gs 69 68 5, gi 70 (.bsl 70 5 (some 5) [.agg [I 0, I 0, .nul, .nul, .nul], .agg [I 0, I 0, .nul, .nul, .nul]] [(0, .t 65), (1, .t 69)]), gi 71 (.build 71 [I 0, I 0, .nul, .nul, .nul] [(0, (none, .k (I 6))), (4, (none, .t 70))]), gt 72 4, gc 73 16 [.t 71, .t 72], gt 61 73, gi 74 (.ext 74 61 0), gi 75 (.ext 75 61 1), gi 9 (.alloc 9 2000009 [I 0, .nul]), g0 (.sto 9 (.t 74) (some 2)), gt 10 75]
def r_Z89_9 : List GI := [gf 77 3 4, gl 78 77, gi 79 (.iad 79 78 (.k (I 0)) 5), gs 80 79 5, gt 81 4, gc 82 16 [.t 80, .t 81], gt 76 82, gi 83 (.ext 83 76 0), gi 84 (.ext 84 76 1), gi 11 (.alloc 11 2000011 [I 0, .nul]), g0 (.sto 11 (.t 83) (some 2)), gt 12 84]
def r_Z89_10 : List GI := [gf 86 3 4, gl 87 86, gi 88 (.iad 88 87 (.k (I 1)) 5), gs 89 88 5, gt 90 4, gc 91 16 [.t 89, .t 90], gt 85 91, gi 92 (.ext 92 85 0), gi 93 (.ext 93 85 1), gi 13 (.alloc 13 2000013 [I 0, .nul]), g0 (.sto 13 (.t 92) (some 2)), gt 14 93]
def r_Z89_11 : List GI := [gt 94 10, gt 95 94, ⟨.lod 96 9 (some 2), some 96, some (95, true), false⟩, ⟨.lod 97 5 (some 2), some 97, some (95, true), false⟩, ⟨.call 98 18 [.t 96, .t 97], some 98, some (95, true), true⟩, gi 99 (.pick 99 (.t 95) (.t 98) (.k (.v (.bool false)))), gt 100 99, ⟨.mov 101 (.t 12), some 101, some (100, true), false⟩, gi 102 (.pick 102 (.t 100) (.t 101) (.k (.v (.bool false)))), gt 103 102, ⟨.mov 104 (.t 14), some 104, some (103, true), false⟩, gi 105 (.pick 105 (.t 103) (.t 104) (.k (.v (.bool false)))), gt 106 105, ⟨.fad 107 11 1, some 107, some (106, true), false⟩, ⟨.lod 108 107 none, some 108, some (106, true), false⟩, ⟨.len 109 (.t 108), some 109, some (106, true), false⟩, ⟨.fad 110 13 1, some 110, some (106, true), false⟩, ⟨.lod 111 110 none, some 111, some (106, true), false⟩, ⟨.len 112 (.t 111), some 112, some (106, true), false⟩, ⟨.bin 113 .add (.t 109) (.t 112), some 113, some (106, true), false⟩, ⟨.fad 114 5 1, some 114, some (106, true), false⟩, ⟨.lod 115 114 none, some 115, some (106, true), false⟩, ⟨.len 116 (.t 115), some 116, some (106, true), false⟩, ⟨.bin 117 .eql (.t 113) (.t 116), some 117, some (106, true), false⟩, gi 118 (.pick 118 (.t 106) (.t 117) (.k (.v (.bool false)))), gt 2 118]
def dc_Z89 : DC := .seq (.z r_Z89_0) (.seq (.seq (.z r_Z89_1) (.cond (.t 17) (.seq (.z r_Z89_2) .ret) .skip)) (.seq (.z r_Z89_3) (.seq (.z r_Z89_4) (.seq (.z r_Z89_5) (.seq (.seq (.z r_Z89_6) (.cond (.t 52) (.seq (.z r_Z89_7) .ret) .skip)) (.seq (.reg r_Z89_8 (some [0, 1, 3, 7, 0, 16, 48, 112, 255, 511, 0, 2047, 4095, 8191, 8191, 0, 49151, 131071])) (.seq (.z r_Z89_9) (.seq (.z r_Z89_10) (.seq (.z r_Z89_11) .ret)))))))))
theorem c_Z89 : cfun Tryz.prog [] 7 = some (119, dc_Z89, [(Res.tmp 2)]) := by kernel_rfl
end
end Go.Proofs.YtibknjpbbeackaaGreat
