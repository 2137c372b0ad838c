/-
  Functions of the program read as code on plain data. Closed facts of the program alone.
-/
import Derived.KernelRfl
import Derived.Test.YtibknjpbbeackaaGreatRows
import Derived.Test.YtibknjpbbeackaaGreatJSVGo
import Derived.Test.YtibknjpbbeackaaGreatJSVTbD
namespace Go.Proofs.YtibknjpbbeackaaGreat
open Go.RowKit
noncomputable section
def r_Z39_0 : List GI := [gi 2 (.mov 2 (.k (.v (.bool false))))]
def r_Z39_1 : List GI := [gt 19 0, gn 20 19, gd 21 .gtr 20 1048576]
def r_Z39_2 : List GI := [gi 2 (.mov 2 (.k (.v (.bool true))))]
def r_Z39_3 : List GI := [gt 23 0, gc 24 15 [.t 23], gt 22 24, gi 25 (.ext 25 22 0), gi 26 (.ext 26 22 1), gi 3 (.alloc 3 2000003 [I 0, I 0, .nul, .nul, .nul]), g0 (.sto 3 (.t 25) (some 5)), gt 4 26]
def r_Z39_4 : List GI := [gs 28 3 5, gt 29 4, gc 30 16 [.t 28, .t 29], gt 27 30, gi 31 (.ext 31 27 0), gi 32 (.ext 32 27 1), gi 5 (.alloc 5 2000005 [I 0, .nul]), g0 (.sto 5 (.t 31) (some 2)), gt 6 32]
def r_Z39_5 : List GI := [gs 34 3 5, gt 35 4, gc 36 17 [.t 34, .t 35], gt 33 36, gi 37 (.ext 37 33 0), gi 38 (.ext 38 33 1), gi 7 (.alloc 7 2000007 [I 0, .nul]), g0 (.sto 7 (.t 37) (some 2)), gt 8 38]
def r_Z39_6 : List GI := [gt 39 6, gt 40 8, gi 41 (.beq 41 true (.t 39) (.t 40)), gt 42 41, ⟨.lod 43 5 (some 2), some 43, some (42, false), false⟩, ⟨.lod 44 7 (some 2), some 44, some (42, false), false⟩, ⟨.call 45 18 [.t 43, .t 44], some 45, some (42, false), true⟩, ⟨.un 46 UnOp.not (.t 45), some 46, some (42, false), false⟩, gi 47 (.pick 47 (.t 42) (.k (.v (.bool true))) (.t 46)), gt 48 47, ⟨.mov 49 (.t 6), some 49, some (48, false), false⟩, ⟨.un 50 UnOp.not (.t 49), some 50, some (48, false), false⟩, gi 51 (.pick 51 (.t 48) (.k (.v (.bool true))) (.t 50)), gt 52 51, ⟨.fad 53 3 0, some 53, some (52, false), false⟩, ⟨.lod 54 53 none, some 54, some (52, false), false⟩, ⟨.bin 55 .neq (.t 54) (.k (I 5)), some 55, some (52, false), false⟩, gi 56 (.pick 56 (.t 52) (.k (.v (.bool true))) (.t 55))]
def r_Z39_7 : List GI := [gt 57 6, gt 58 8, gi 59 (.beq 59 false (.t 57) (.t 58)), gt 60 59, ⟨.lod 61 5 (some 2), some 61, some (60, true), false⟩, ⟨.lod 62 7 (some 2), some 62, some (60, true), false⟩, ⟨.call 63 18 [.t 61, .t 62], some 63, some (60, true), true⟩, gi 64 (.pick 64 (.t 60) (.t 63) (.k (.v (.bool false)))), gt 2 64]
def r_Z39_8 : List GI := [gf 66 3 4, gl 67 66, gi 68 (.iad 68 67 (.k (I 0)) 5), gs 69 68 5, gt 70 4, gc 71 16 [.t 69, .t 70], gt 65 71, gi 72 (.ext 72 65 0), gi 73 (.ext 73 65 1), gi 9 (.alloc 9 2000009 [I 0, .nul]), g0 (.sto 9 (.t 72) (some 2)), gt 10 73]
def r_Z39_9 : List GI := [gi 74 (.mov 74 (.k .nul)), gt 11 74]
def r_Z39_10 : List GI := [gk 12 0]
def r_Z39_11 : List GI := [gt 75 12, gf 76 5 1, gl 77 76, gn 78 77, gb 79 .lss 75 78]
def r_Z39_12 : List GI := [gt 82 11, gf 83 5 1, gl 84 83, gt 85 12, ga 86 84 85 1, gl 87 86, gf 88 9 0, gl 89 88, gi 90 (.slc 90 (.t 87) none (some (.t 89)) 2), gi 91 (.bsl 91 1 none [.nul] [(0, .t 90)]), gi 92 (.app 92 2000092 (.t 82) (.t 91) 1 24), gt 11 92]
def r_Z39_13 : List GI := [gt 80 12, gd 81 .add 80 1, gt 12 81]
def r_Z39_14 : List GI := [gf 94 9 0, gl 95 94, gt 96 11, gc 97 24 [.t 95, .t 96], gt 93 97, gi 98 (.ext 98 93 0), gi 99 (.ext 99 93 1), gi 13 (.alloc 13 2000013 [I 0, .nul]), g0 (.sto 13 (.t 98) (some 2)), gt 14 99]
def r_Z39_15 : List GI := [gs 101 13 2, gc 102 20 [.t 101], gt 100 102, gi 103 (.ext 103 100 0), gi 104 (.ext 104 100 1), gi 15 (.alloc 15 2000015 [I 0, .nul]), g0 (.sto 15 (.t 103) (some 2)), gt 16 104]
def r_Z39_16 : List GI := [gs 106 9 2, gc 107 20 [.t 106], gt 105 107, gi 108 (.ext 108 105 0), gi 109 (.ext 109 105 1), gi 17 (.alloc 17 2000017 [I 0, .nul]), g0 (.sto 17 (.t 108) (some 2)), gt 18 109]
def r_Z39_17 : List GI := [gt 110 10, gt 111 110, ⟨.mov 112 (.t 14), some 112, some (111, true), false⟩, gi 113 (.pick 113 (.t 111) (.t 112) (.k (.v (.bool false)))), gt 114 113, ⟨.mov 115 (.t 16), some 115, some (114, true), false⟩, gi 116 (.pick 116 (.t 114) (.t 115) (.k (.v (.bool false)))), gt 117 116, ⟨.mov 118 (.t 18), some 118, some (117, true), false⟩, gi 119 (.pick 119 (.t 117) (.t 118) (.k (.v (.bool false)))), gt 120 119, ⟨.lod 121 15 (some 2), some 121, some (120, true), false⟩, ⟨.lod 122 17 (some 2), some 122, some (120, true), false⟩, ⟨.call 123 18 [.t 121, .t 122], some 123, some (120, true), true⟩, gi 124 (.pick 124 (.t 120) (.t 123) (.k (.v (.bool false)))), gt 125 124, ⟨.fad 126 5 1, some 126, some (125, true), false⟩, ⟨.lod 127 126 none, some 127, some (125, true), false⟩, ⟨.len 128 (.t 127), some 128, some (125, true), false⟩, ⟨.fad 129 9 1, some 129, some (125, true), false⟩, ⟨.lod 130 129 none, some 130, some (125, true), false⟩, ⟨.len 131 (.t 130), some 131, some (125, true), false⟩, ⟨.bin 132 .geq (.t 128) (.t 131), some 132, some (125, true), false⟩, gi 133 (.pick 133 (.t 125) (.t 132) (.k (.v (.bool false)))), gt 2 133]
def dc_Z39 : DC := .seq (.z r_Z39_0) (.seq (.seq (.z r_Z39_1) (.cond (.t 21) (.seq (.z r_Z39_2) .ret) .skip)) (.seq (.z r_Z39_3) (.seq (.z r_Z39_4) (.seq (.z r_Z39_5) (.seq (.seq (.z r_Z39_6) (.cond (.t 56) (.seq (.z r_Z39_7) .ret) .skip)) (.seq (.z r_Z39_8) (.seq (.z r_Z39_9) (.seq (.seq (.z r_Z39_10) (.block 0 (.loop (.seq (.seq (.z r_Z39_11) (.cond (.t 79) .skip (.exit 0))) (.seq (.block 1 (.reg r_Z39_12 (some [0, 0, 2, 0, 14, 30, 0, 64, 254, 510, 1023, 2047]))) (.z r_Z39_13)))))) (.seq (.z r_Z39_14) (.seq (.z r_Z39_15) (.seq (.z r_Z39_16) (.seq (.z r_Z39_17) .ret))))))))))))
theorem c_Z39 : cfun Tryz.prog [] 11 = some (134, dc_Z39, [(Res.tmp 2)]) := by kernel_rfl
end
end Go.Proofs.YtibknjpbbeackaaGreat
