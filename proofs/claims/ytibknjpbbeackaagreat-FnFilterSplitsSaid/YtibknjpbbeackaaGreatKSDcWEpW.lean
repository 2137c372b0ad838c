/-
  Functions of the program read as code on plain data. Closed facts of the program alone.
-/
import Derived.KernelRfl
import Derived.Test.YtibknjpbbeackaaGreatRows
import Derived.Test.YtibknjpbbeackaaGreatJSVGo
import Derived.Test.YtibknjpbbeackaaGreatJSVTbD
namespace Go.Proofs.YtibknjpbbeackaaGreat
open Go.RowKit
noncomputable section
def r_Z43_0 : List GI := [gi 4 (.mov 4 (.k (.v (.bool false))))]
def r_Z43_1 : List GI := [gt 22 0, gn 23 22, gd 24 .gtr 23 1048576, gt 25 24, ⟨.mov 26 (.t 1), some 26, some (25, false), false⟩, ⟨.len 27 (.t 26), some 27, some (25, false), false⟩, ⟨.bin 28 .gtr (.t 27) (.k (I 1048576)), some 28, some (25, false), false⟩, gi 29 (.pick 29 (.t 25) (.k (.v (.bool true))) (.t 28))]
def r_Z43_2 : List GI := [gi 4 (.mov 4 (.k (.v (.bool true))))]
def r_Z43_3 : List GI := [gt 31 0, gc 32 15 [.t 31], gt 30 32, gi 33 (.ext 33 30 0), gi 34 (.ext 34 30 1), gi 5 (.alloc 5 2000005 [I 0, I 0, .nul, .nul, .nul]), g0 (.sto 5 (.t 33) (some 5)), gt 6 34]
def r_Z43_4 : List GI := [gs 36 5 5, gt 37 6, gc 38 16 [.t 36, .t 37], gt 35 38, gi 39 (.ext 39 35 0), gi 40 (.ext 40 35 1), gi 7 (.alloc 7 2000007 [I 0, .nul]), g0 (.sto 7 (.t 39) (some 2)), gt 8 40]
def r_Z43_5 : List GI := [gs 42 5 5, gt 43 6, gc 44 17 [.t 42, .t 43], gt 41 44, gi 45 (.ext 45 41 0), gi 46 (.ext 46 41 1), gi 9 (.alloc 9 2000009 [I 0, .nul]), g0 (.sto 9 (.t 45) (some 2)), gt 10 46]
def r_Z43_6 : List GI := [gt 47 8, gt 48 10, gi 49 (.beq 49 true (.t 47) (.t 48)), gt 50 49, ⟨.lod 51 7 (some 2), some 51, some (50, false), false⟩, ⟨.lod 52 9 (some 2), some 52, some (50, false), false⟩, ⟨.call 53 18 [.t 51, .t 52], some 53, some (50, false), true⟩, ⟨.un 54 UnOp.not (.t 53), some 54, some (50, false), false⟩, gi 55 (.pick 55 (.t 50) (.k (.v (.bool true))) (.t 54)), gt 56 55, ⟨.mov 57 (.t 8), some 57, some (56, false), false⟩, ⟨.un 58 UnOp.not (.t 57), some 58, some (56, false), false⟩, gi 59 (.pick 59 (.t 56) (.k (.v (.bool true))) (.t 58))]
def r_Z43_7 : List GI := [gt 60 8, gt 61 10, gi 62 (.beq 62 false (.t 60) (.t 61)), gt 63 62, ⟨.lod 64 7 (some 2), some 64, some (63, true), false⟩, ⟨.lod 65 9 (some 2), some 65, some (63, true), false⟩, ⟨.call 66 18 [.t 64, .t 65], some 66, some (63, true), true⟩, gi 67 (.pick 67 (.t 63) (.t 66) (.k (.v (.bool false)))), gt 4 67]
def r_Z43_8 : List GI := [gi 68 (.build 68 [I 0, I 0, .v (.bool false), I 0, .nul] [(0, (none, .k (I 1)))]), gt 69 1, gn 70 69, gd 71 .rem 70 4, gi 72 (.build 72 [.v (.bool false), I 0] [(1, (none, .t 71))]), gi 73 (.build 73 [I 0, I 0, .v (.bool false), I 0, .nul] [(0, (none, .k (I 2))), (2, (some 2, .t 72))]), gc 74 21 [.k (I 7), .t 68, .t 73], gi 11 (.alloc 11 2000011 [I 0, I 0, .v (.bool false), I 0, .nul]), g0 (.sto 11 (.t 74) (some 5))]
def r_Z43_9 : List GI := [gs 76 11 5, gs 77 5 5, gc 78 19 [.t 76, .t 77], gt 79 6, gc 80 16 [.t 78, .t 79], gt 75 80, gi 81 (.ext 81 75 0), gi 82 (.ext 82 75 1), gi 12 (.alloc 12 2000012 [I 0, .nul]), g0 (.sto 12 (.t 81) (some 2)), gt 13 82]
def r_Z43_10 : List GI := [gs 84 11 5, gc 85 22 [.t 84], gs 86 5 5, gc 87 19 [.t 85, .t 86], gt 88 6, gc 89 16 [.t 87, .t 88], gt 83 89, gi 90 (.ext 90 83 0), gi 91 (.ext 91 83 1), gi 14 (.alloc 14 2000014 [I 0, .nul]), g0 (.sto 14 (.t 90) (some 2)), gt 15 91]
def r_Z43_11 : List GI := [gs 93 11 5, gi 94 (.bsl 94 5 (some 5) [.agg [I 0, I 0, .v (.bool false), I 0, .nul]] [(0, .t 93)]), gi 95 (.build 95 [I 0, I 0, .v (.bool false), I 0, .nul] [(0, (none, .k (I 11))), (4, (none, .t 94))]), gs 96 5 5, gc 97 19 [.t 95, .t 96], gt 98 6, gc 99 16 [.t 97, .t 98], gt 92 99, gi 100 (.ext 100 92 0), gi 101 (.ext 101 92 1), gi 16 (.alloc 16 2000016 [I 0, .nul]), g0 (.sto 16 (.t 100) (some 2)), gt 17 101]
def r_Z43_12 : List GI := [gt 102 13, gi 103 (.un 103 UnOp.not (.t 102)), gt 104 103, ⟨.mov 105 (.t 15), some 105, some (104, false), false⟩, ⟨.un 106 UnOp.not (.t 105), some 106, some (104, false), false⟩, gi 107 (.pick 107 (.t 104) (.k (.v (.bool true))) (.t 106)), gt 108 107, ⟨.mov 109 (.t 17), some 109, some (108, false), false⟩, ⟨.un 110 UnOp.not (.t 109), some 110, some (108, false), false⟩, gi 111 (.pick 111 (.t 108) (.k (.v (.bool true))) (.t 110))]
def r_Z43_13 : List GI := [gt 112 13, gi 113 (.un 113 UnOp.not (.t 112)), gt 114 113, ⟨.mov 115 (.t 15), some 115, some (114, true), false⟩, ⟨.un 116 UnOp.not (.t 115), some 116, some (114, true), false⟩, gi 117 (.pick 117 (.t 114) (.t 116) (.k (.v (.bool false)))), gt 118 117, ⟨.mov 119 (.t 17), some 119, some (118, true), false⟩, ⟨.un 120 UnOp.not (.t 119), some 120, some (118, true), false⟩, gi 121 (.pick 121 (.t 118) (.t 120) (.k (.v (.bool false)))), gt 4 121]
def r_Z43_14 : List GI := [gs 123 12 2, gs 124 14 2, gc 125 23 [.t 123, .t 124], gt 122 125, gi 126 (.ext 126 122 0), gi 127 (.ext 127 122 1), gi 18 (.alloc 18 2000018 [I 0, .nul]), g0 (.sto 18 (.t 126) (some 2)), gt 19 127]
def r_Z43_15 : List GI := [gs 129 18 2, gs 130 16 2, gc 131 23 [.t 129, .t 130], gt 128 131, gi 132 (.ext 132 128 0), gi 133 (.ext 133 128 1), gi 20 (.alloc 20 2000020 [I 0, .nul]), g0 (.sto 20 (.t 132) (some 2)), gt 21 133]
def r_Z43_16 : List GI := [gt 134 19, gt 135 134, ⟨.mov 136 (.t 21), some 136, some (135, true), false⟩, gi 137 (.pick 137 (.t 135) (.t 136) (.k (.v (.bool false)))), gt 138 137, ⟨.lod 139 20 (some 2), some 139, some (138, true), false⟩, ⟨.lod 140 7 (some 2), some 140, some (138, true), false⟩, ⟨.call 141 18 [.t 139, .t 140], some 141, some (138, true), true⟩, gi 142 (.pick 142 (.t 138) (.t 141) (.k (.v (.bool false)))), gt 4 142]
def dc_Z43 : DC := .seq (.z r_Z43_0) (.seq (.seq (.z r_Z43_1) (.cond (.t 29) (.seq (.z r_Z43_2) .ret) .skip)) (.seq (.z r_Z43_3) (.seq (.z r_Z43_4) (.seq (.z r_Z43_5) (.seq (.seq (.z r_Z43_6) (.cond (.t 59) (.seq (.z r_Z43_7) .ret) .skip)) (.seq (.z r_Z43_8) (.seq (.z r_Z43_9) (.seq (.reg r_Z43_10 (some [0, 1, 0, 7, 0, 31, 63, 127, 127, 0, 767, 2047])) (.seq (.z r_Z43_11) (.seq (.seq (.z r_Z43_12) (.cond (.t 111) (.seq (.z r_Z43_13) .ret) .skip)) (.seq (.z r_Z43_14) (.seq (.z r_Z43_15) (.seq (.z r_Z43_16) .ret)))))))))))))
theorem c_Z43 : cfun Tryz.prog [] 10 = some (143, dc_Z43, [(Res.tmp 4)]) := by kernel_rfl
end
end Go.Proofs.YtibknjpbbeackaaGreat
