/-
  Functions of the program read as code on plain data. Closed facts of the program alone.
-/
import Derived.KernelRfl
import Derived.Test.YtibknjpbbeackaaGreatRows
import Derived.Test.YtibknjpbbeackaaGreatJSVGo
import Derived.Test.YtibknjpbbeackaaGreatJSVTbD
namespace Go.Proofs.YtibknjpbbeackaaGreat
open Go.RowKit
noncomputable section
def r_Z30_0 : List GI := [gi 2 (.mov 2 (.k (.v (.bool false))))]
def r_Z30_1 : List GI := [gt 13 0, gn 14 13, gd 15 .gtr 14 1048576]
def r_Z30_2 : List GI := [gi 2 (.mov 2 (.k (.v (.bool true))))]
def r_Z30_3 : List GI := [gt 17 0, gc 18 15 [.t 17], gt 16 18, gi 19 (.ext 19 16 0), gi 20 (.ext 20 16 1), gi 3 (.alloc 3 2000003 [I 0, I 0, .nul, .nul, .nul]), g0 (.sto 3 (.t 19) (some 5)), gt 4 20]
def r_Z30_4 : List GI := [gs 22 3 5, gt 23 4, gc 24 16 [.t 22, .t 23], gt 21 24, gi 25 (.ext 25 21 0), gi 26 (.ext 26 21 1), gi 5 (.alloc 5 2000005 [I 0, .nul]), g0 (.sto 5 (.t 25) (some 2)), gt 6 26]
def r_Z30_5 : List GI := [gs 28 3 5, gt 29 4, gc 30 17 [.t 28, .t 29], gt 27 30, gi 31 (.ext 31 27 0), gi 32 (.ext 32 27 1), gi 7 (.alloc 7 2000007 [I 0, .nul]), g0 (.sto 7 (.t 31) (some 2)), gt 8 32]
def r_Z30_6 : List GI := [gt 33 6, gt 34 8, gi 35 (.beq 35 true (.t 33) (.t 34)), gt 36 35, ⟨.lod 37 5 (some 2), some 37, some (36, false), false⟩, ⟨.lod 38 7 (some 2), some 38, some (36, false), false⟩, ⟨.call 39 18 [.t 37, .t 38], some 39, some (36, false), true⟩, ⟨.un 40 UnOp.not (.t 39), some 40, some (36, false), false⟩, gi 41 (.pick 41 (.t 36) (.k (.v (.bool true))) (.t 40)), gt 42 41, ⟨.mov 43 (.t 6), some 43, some (42, false), false⟩, ⟨.un 44 UnOp.not (.t 43), some 44, some (42, false), false⟩, gi 45 (.pick 45 (.t 42) (.k (.v (.bool true))) (.t 44))]
def r_Z30_7 : List GI := [gt 46 6, gt 47 8, gi 48 (.beq 48 false (.t 46) (.t 47)), gt 49 48, ⟨.lod 50 5 (some 2), some 50, some (49, true), false⟩, ⟨.lod 51 7 (some 2), some 51, some (49, true), false⟩, ⟨.call 52 18 [.t 50, .t 51], some 52, some (49, true), true⟩, gi 53 (.pick 53 (.t 49) (.t 52) (.k (.v (.bool false)))), gt 2 53]
def r_Z30_8 : List GI := [gi 55 (.build 55 [.v (.bool false), I 0] [(1, (none, .k (I 1)))]), gi 56 (.build 56 [I 0, I 0, .v (.bool false), I 0, .nul] [(0, (none, .k (I 2))), (2, (some 2, .t 55))]), gs 57 3 5, gc 58 19 [.t 56, .t 57], gt 59 4, gc 60 16 [.t 58, .t 59], gt 54 60, gi 61 (.ext 61 54 0), gi 62 (.ext 62 54 1), gi 9 (.alloc 9 2000009 [I 0, .nul]), g0 (.sto 9 (.t 61) (some 2)), gt 10 62]
def r_Z30_9 : List GI := [gi 64 (.build 64 [.v (.bool false), I 0] [(0, (none, .k (.v (.bool true))))]), gi 65 (.build 65 [I 0, I 0, .v (.bool false), I 0, .nul] [(0, (none, .k (I 2))), (2, (some 2, .t 64))]), gs 66 3 5, gc 67 19 [.t 65, .t 66], gt 68 4, gc 69 16 [.t 67, .t 68], gt 63 69, gi 70 (.ext 70 63 0), gi 71 (.ext 71 63 1), gi 11 (.alloc 11 2000011 [I 0, .nul]), g0 (.sto 11 (.t 70) (some 2)), gt 12 71]
def r_Z30_10 : List GI := [gt 72 10, gt 73 12, gi 74 (.beq 74 false (.t 72) (.t 73)), gt 75 74, ⟨.mov 76 (.t 10), some 76, some (75, true), false⟩, ⟨.un 77 UnOp.not (.t 76), some 77, some (75, true), false⟩, ⟨.mov 78 (.t 77), some 78, some (75, true), false⟩, ⟨.lod 79 9 (some 2), some 79, some (78, false), false⟩, ⟨.lod 80 5 (some 2), some 80, some (78, false), false⟩, ⟨.call 81 18 [.t 79, .t 80], some 81, some (78, false), true⟩, ⟨.mov 82 (.t 81), some 82, some (78, false), false⟩, ⟨.fad 83 11 1, some 83, some (82, true), false⟩, ⟨.lod 84 83 none, some 84, some (82, true), false⟩, ⟨.len 85 (.t 84), some 85, some (82, true), false⟩, ⟨.bin 86 .eql (.t 85) (.k (I 0)), some 86, some (82, true), false⟩, ⟨.pick 87 (.t 82) (.t 86) (.k (.v (.bool false))), some 87, some (78, false), false⟩, ⟨.pick 88 (.t 78) (.k (.v (.bool true))) (.t 87), some 88, some (75, true), false⟩, gi 89 (.pick 89 (.t 75) (.t 88) (.k (.v (.bool false)))), gt 2 89]
def dc_Z30 : DC := .seq (.z r_Z30_0) (.seq (.seq (.z r_Z30_1) (.cond (.t 15) (.seq (.z r_Z30_2) .ret) .skip)) (.seq (.z r_Z30_3) (.seq (.z r_Z30_4) (.seq (.z r_Z30_5) (.seq (.seq (.z r_Z30_6) (.cond (.t 45) (.seq (.z r_Z30_7) .ret) .skip)) (.seq (.z r_Z30_8) (.seq (.z r_Z30_9) (.seq (.z r_Z30_10) .ret))))))))
theorem c_Z30 : cfun Tryz.prog [] 3 = some (90, dc_Z30, [(Res.tmp 2)]) := by kernel_rfl
end
end Go.Proofs.YtibknjpbbeackaaGreat
