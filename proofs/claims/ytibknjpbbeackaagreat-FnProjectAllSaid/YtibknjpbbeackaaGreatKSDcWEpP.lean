/-
  Functions of the program read as code on plain data. Closed facts of the program alone.
-/
import Derived.KernelRfl
import Derived.Test.YtibknjpbbeackaaGreatRows
import Derived.Test.YtibknjpbbeackaaGreatJSVGo
import Derived.Test.YtibknjpbbeackaaGreatJSVTbD
namespace Go.Proofs.YtibknjpbbeackaaGreat
open Go.RowKit
noncomputable section
def r_Z68_0 : List GI := [gi 2 (.mov 2 (.k (.v (.bool false))))]
def r_Z68_1 : List GI := [gt 13 0, gn 14 13, gd 15 .gtr 14 1048576]
def r_Z68_2 : List GI := [gi 2 (.mov 2 (.k (.v (.bool true))))]
def r_Z68_3 : List GI := [gt 17 0, gc 18 15 [.t 17], gt 16 18, gi 19 (.ext 19 16 0), gi 20 (.ext 20 16 1), gi 3 (.alloc 3 2000003 [I 0, I 0, .nul, .nul, .nul]), g0 (.sto 3 (.t 19) (some 5)), gt 4 20]
def r_Z68_4 : List GI := [gs 22 3 5, gt 23 4, gc 24 16 [.t 22, .t 23], gt 21 24, gi 25 (.ext 25 21 0), gi 26 (.ext 26 21 1), gi 5 (.alloc 5 2000005 [I 0, .nul]), g0 (.sto 5 (.t 25) (some 2)), gt 6 26]
def r_Z68_5 : List GI := [gs 28 3 5, gt 29 4, gc 30 17 [.t 28, .t 29], gt 27 30, gi 31 (.ext 31 27 0), gi 32 (.ext 32 27 1), gi 7 (.alloc 7 2000007 [I 0, .nul]), g0 (.sto 7 (.t 31) (some 2)), gt 8 32]
def r_Z68_6 : List GI := [gt 33 6, gt 34 8, gi 35 (.beq 35 true (.t 33) (.t 34)), gt 36 35, ⟨.lod 37 5 (some 2), some 37, some (36, false), false⟩, ⟨.lod 38 7 (some 2), some 38, some (36, false), false⟩, ⟨.call 39 18 [.t 37, .t 38], some 39, some (36, false), true⟩, ⟨.un 40 UnOp.not (.t 39), some 40, some (36, false), false⟩, gi 41 (.pick 41 (.t 36) (.k (.v (.bool true))) (.t 40)), gt 42 41, ⟨.mov 43 (.t 6), some 43, some (42, false), false⟩, ⟨.un 44 UnOp.not (.t 43), some 44, some (42, false), false⟩, gi 45 (.pick 45 (.t 42) (.k (.v (.bool true))) (.t 44))]
def r_Z68_7 : List GI := [gt 46 6, gt 47 8, gi 48 (.beq 48 false (.t 46) (.t 47)), gt 49 48, ⟨.lod 50 5 (some 2), some 50, some (49, true), false⟩, ⟨.lod 51 7 (some 2), some 51, some (49, true), false⟩, ⟨.call 52 18 [.t 50, .t 51], some 52, some (49, true), true⟩, gi 53 (.pick 53 (.t 49) (.t 52) (.k (.v (.bool false)))), gt 2 53]
def r_Z68_8 : List GI := [gi 54 (.mov 54 (.k .nul)), gt 9 54]
def r_Z68_9 : List GI := [gk 10 0]
def r_Z68_10 : List GI := [gt 55 10, gf 56 5 0, gl 57 56, gb 58 .lss 55 57]
def r_Z68_11 : List GI := [gt 61 9, gt 62 10, gi 63 (.build 63 [I 0, I 0, .v (.bool false), I 0, .nul] [(0, (none, .k (I 1))), (1, (none, .t 62))]), gi 64 (.bsl 64 5 (some 5) [.agg [I 0, I 0, .v (.bool false), I 0, .nul]] [(0, .t 63)]), gi 65 (.app 65 2000065 (.t 61) (.t 64) 5 56), gt 9 65]
def r_Z68_12 : List GI := [gt 59 10, gd 60 .add 59 1, gt 10 60]
def r_Z68_13 : List GI := [gt 67 9, gs 68 3 5, gi 69 (.bsl 69 5 (some 5) [.agg [I 0, I 0, .nul, .nul, .nul]] [(0, .t 68)]), gi 70 (.build 70 [I 0, I 0, .nul, .nul, .nul] [(0, (none, .k (I 3))), (2, (none, .t 67)), (4, (none, .t 69))]), gt 71 4, gc 72 16 [.t 70, .t 71], gt 66 72, gi 73 (.ext 73 66 0), gi 74 (.ext 74 66 1), gi 11 (.alloc 11 2000011 [I 0, .nul]), g0 (.sto 11 (.t 73) (some 2)), gt 12 74]
def r_Z68_14 : List GI := [gt 75 12, gi 76 (.un 76 UnOp.not (.t 75)), gt 77 76, ⟨.lod 78 11 (some 2), some 78, some (77, false), false⟩, ⟨.lod 79 5 (some 2), some 79, some (77, false), false⟩, ⟨.call 80 18 [.t 78, .t 79], some 80, some (77, false), true⟩, gi 81 (.pick 81 (.t 77) (.k (.v (.bool true))) (.t 80)), gt 2 81]
def dc_Z68 : DC := .seq (.z r_Z68_0) (.seq (.seq (.z r_Z68_1) (.cond (.t 15) (.seq (.z r_Z68_2) .ret) .skip)) (.seq (.z r_Z68_3) (.seq (.z r_Z68_4) (.seq (.z r_Z68_5) (.seq (.seq (.z r_Z68_6) (.cond (.t 45) (.seq (.z r_Z68_7) .ret) .skip)) (.seq (.z r_Z68_8) (.seq (.seq (.z r_Z68_9) (.block 0 (.loop (.seq (.seq (.z r_Z68_10) (.cond (.t 58) .skip (.exit 0))) (.seq (.block 1 (.z r_Z68_11)) (.z r_Z68_12)))))) (.seq (.z r_Z68_13) (.seq (.z r_Z68_14) .ret)))))))))
theorem c_Z68 : cfun Tryz.prog [] 4 = some (82, dc_Z68, [(Res.tmp 2)]) := by kernel_rfl
end
end Go.Proofs.YtibknjpbbeackaaGreat
