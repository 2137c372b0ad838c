/-
  Functions of the program read as code on plain data. Closed facts of the program alone.
-/
import Derived.KernelRfl
import Derived.Test.YtibknjpbbeackaaGreatRows
import Derived.Test.YtibknjpbbeackaaGreatJSVGo
import Derived.Test.YtibknjpbbeackaaGreatJSVTbD
namespace Go.Proofs.YtibknjpbbeackaaGreat
open Go.RowKit
noncomputable section
def r_Z55_0 : List GI := [gi 2 (.mov 2 (.k (.v (.bool false))))]
def r_Z55_1 : List GI := [gt 13 0, gn 14 13, gd 15 .gtr 14 1048576]
def r_Z55_2 : List GI := [gi 2 (.mov 2 (.k (.v (.bool true))))]
def r_Z55_3 : List GI := [gt 17 0, gc 18 15 [.t 17], gt 16 18, gi 19 (.ext 19 16 0), gi 20 (.ext 20 16 1), gi 3 (.alloc 3 2000003 [I 0, I 0, .nul, .nul, .nul]), g0 (.sto 3 (.t 19) (some 5)), gt 4 20]
def r_Z55_4 : List GI := [gs 22 3 5, gt 23 4, gc 24 16 [.t 22, .t 23], gt 21 24, gi 25 (.ext 25 21 0), gi 26 (.ext 26 21 1), gi 5 (.alloc 5 2000005 [I 0, .nul]), g0 (.sto 5 (.t 25) (some 2)), gt 6 26]
def r_Z55_5 : List GI := [gs 28 3 5, gt 29 4, gc 30 17 [.t 28, .t 29], gt 27 30, gi 31 (.ext 31 27 0), gi 32 (.ext 32 27 1), gi 7 (.alloc 7 2000007 [I 0, .nul]), g0 (.sto 7 (.t 31) (some 2)), gt 8 32]
def r_Z55_6 : List GI := [gt 33 6, gt 34 8, gi 35 (.beq 35 true (.t 33) (.t 34)), gt 36 35, ⟨.lod 37 5 (some 2), some 37, some (36, false), false⟩, ⟨.lod 38 7 (some 2), some 38, some (36, false), false⟩, ⟨.call 39 18 [.t 37, .t 38], some 39, some (36, false), true⟩, ⟨.un 40 UnOp.not (.t 39), some 40, some (36, false), false⟩, gi 41 (.pick 41 (.t 36) (.k (.v (.bool true))) (.t 40)), gt 42 41, ⟨.mov 43 (.t 6), some 43, some (42, false), false⟩, ⟨.un 44 UnOp.not (.t 43), some 44, some (42, false), false⟩, gi 45 (.pick 45 (.t 42) (.k (.v (.bool true))) (.t 44))]
def r_Z55_7 : List GI := [gt 46 6, gt 47 8, gi 48 (.beq 48 false (.t 46) (.t 47)), gt 49 48, ⟨.lod 50 5 (some 2), some 50, some (49, true), false⟩, ⟨.lod 51 7 (some 2), some 51, some (49, true), false⟩, ⟨.call 52 18 [.t 50, .t 51], some 52, some (49, true), true⟩, gi 53 (.pick 53 (.t 49) (.t 52) (.k (.v (.bool false)))), gt 2 53]
def r_Z55_8 : List GI := [gi 55 (.bsl 55 1 none [I 0] [(0, .k (I 0))]), gs 56 3 5, gi 57 (.bsl 57 5 (some 5) [.agg [I 0, I 0, .nul, .nul, .nul]] [(0, .t 56)]), gi 58 (.build 58 [I 0, I 0, .nul, .nul, .nul] [(0, (none, .k (I 8))), (3, (none, .t 55)), (4, (none, .t 57))]), gt 59 4, gc 60 16 [.t 58, .t 59], gt 54 60, gi 61 (.ext 61 54 0), gi 62 (.ext 62 54 1), gi 9 (.alloc 9 2000009 [I 0, .nul]), g0 (.sto 9 (.t 61) (some 2)), gt 10 62]
def r_Z55_9 : List GI := [gk 11 0]
def r_Z55_10 : List GI := [gk 12 0]
def r_Z55_11 : List GI := [gt 63 12, gf 64 9 1, gl 65 64, gn 66 65, gb 67 .lss 63 66]
def r_Z55_12 : List GI := [gt 70 11, gf 71 9 1, gl 72 71, gt 73 12, ga 74 72 73 1, gl 75 74, gi 76 (.iad 76 75 (.k (I 1)) 2), gf 77 76 1, gl 78 77, gb 79 .add 70 78, gt 11 79]
def r_Z55_13 : List GI := [gf 80 9 1, gl 81 80, gt 82 12, ga 83 81 82 1, gl 84 83, gi 85 (.iad 85 84 (.k (I 1)) 2), gf 86 85 1, gl 87 86, gd 88 .lss 87 1, gt 89 88, ⟨.mov 90 (.t 12), some 90, some (89, false), false⟩, ⟨.bin 91 .gtr (.t 90) (.k (I 0)), some 91, some (89, false), false⟩, ⟨.mov 92 (.t 91), some 92, some (89, false), false⟩, ⟨.fad 93 9 1, some 93, some (92, true), false⟩, ⟨.lod 94 93 none, some 94, some (92, true), false⟩, ⟨.mov 95 (.t 12), some 95, some (92, true), false⟩, ⟨.iad 96 94 (.t 95) 1, some 96, some (92, true), false⟩, ⟨.lod 97 96 none, some 97, some (92, true), false⟩, ⟨.iad 98 97 (.k (I 0)) 2, some 98, some (92, true), false⟩, ⟨.lod 99 98 (some 2), some 99, some (92, true), false⟩, ⟨.fad 100 9 1, some 100, some (92, true), false⟩, ⟨.lod 101 100 none, some 101, some (92, true), false⟩, ⟨.mov 102 (.t 12), some 102, some (92, true), false⟩, ⟨.bin 103 .sub (.t 102) (.k (I 1)), some 103, some (92, true), false⟩, ⟨.iad 104 101 (.t 103) 1, some 104, some (92, true), false⟩, ⟨.lod 105 104 none, some 105, some (92, true), false⟩, ⟨.iad 106 105 (.k (I 0)) 2, some 106, some (92, true), false⟩, ⟨.lod 107 106 (some 2), some 107, some (92, true), false⟩, ⟨.eqs 108 false [false, true] (.t 99) (.t 107), some 108, some (92, true), false⟩, ⟨.pick 109 (.t 92) (.t 108) (.k (.v (.bool false))), some 109, some (89, false), false⟩, gi 110 (.pick 110 (.t 89) (.k (.v (.bool true))) (.t 109))]
def r_Z55_14 : List GI := [gi 2 (.mov 2 (.k (.v (.bool false))))]
def r_Z55_15 : List GI := [gt 68 12, gd 69 .add 68 1, gt 12 69]
def r_Z55_16 : List GI := [gt 111 10, gi 112 (.un 112 UnOp.not (.t 111)), gt 113 112, ⟨.mov 114 (.t 11), some 114, some (113, false), false⟩, ⟨.fad 115 5 1, some 115, some (113, false), false⟩, ⟨.lod 116 115 none, some 116, some (113, false), false⟩, ⟨.len 117 (.t 116), some 117, some (113, false), false⟩, ⟨.bin 118 .eql (.t 114) (.t 117), some 118, some (113, false), false⟩, gi 119 (.pick 119 (.t 113) (.k (.v (.bool true))) (.t 118)), gt 2 119]
def dc_Z55 : DC := .seq (.z r_Z55_0) (.seq (.seq (.z r_Z55_1) (.cond (.t 15) (.seq (.z r_Z55_2) .ret) .skip)) (.seq (.z r_Z55_3) (.seq (.z r_Z55_4) (.seq (.z r_Z55_5) (.seq (.seq (.z r_Z55_6) (.cond (.t 45) (.seq (.z r_Z55_7) .ret) .skip)) (.seq (.z r_Z55_8) (.seq (.z r_Z55_9) (.seq (.seq (.z r_Z55_10) (.block 0 (.loop (.seq (.seq (.z r_Z55_11) (.cond (.t 67) .skip (.exit 0))) (.seq (.block 1 (.seq (.z r_Z55_12) (.seq (.reg r_Z55_13 (some [0, 1, 0, 7, 15, 31, 63, 127, 255, 511, 1023, 2047, 4095, 8191, 16383, 8191, 65535, 131071, 262143, 524287, 8191, 1056767, 8191, 4202495, 15736831, 32514047, 66068479, 133177343, 268435455, 536870911, 1073741823])) (.cond (.t 110) (.seq (.z r_Z55_14) .ret) .skip)))) (.z r_Z55_15)))))) (.seq (.z r_Z55_16) .ret)))))))))
theorem c_Z55 : cfun Tryz.prog [] 13 = some (120, dc_Z55, [(Res.tmp 2)]) := by kernel_rfl
end
end Go.Proofs.YtibknjpbbeackaaGreat
