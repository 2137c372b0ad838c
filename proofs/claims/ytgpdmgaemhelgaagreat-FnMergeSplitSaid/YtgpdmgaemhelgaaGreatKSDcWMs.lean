/-
  Functions of the program read as code on plain data. Closed facts of the program alone.
-/
import Derived.KernelRfl
import Derived.Test.YtgpdmgaemhelgaaGreatRows
import Derived.Test.YtgpdmgaemhelgaaGreatJSVCall
namespace Go.Proofs.YtgpdmgaemhelgaaGreat
open Go.RowKit
noncomputable section
def r_Z39_0 : List GI:=[gi 2 (.mov 2 (.k (.v (.bool false))))]
def r_Z39_1 : List GI:=[gt 16 0,gn 17 16,gd 18 .gtr 17 1048576]
def r_Z39_2 : List GI:=[gi 2 (.mov 2 (.k (.v (.bool true))))]
def r_Z39_3 : List GI:=[gt 20 0,gc 21 15 [.t 20],gt 19 21,gi 22 (.ext 22 19 0),gi 23 (.ext 23 19 1),gi 24 (.ext 24 19 2),gi 3 (.alloc 3 2000003 [I 0,I 0,.nul,.nul,.nul]),gi 5 (.alloc 5 2000005 [I 0,.nul]),g0 (.sto 3 (.t 22) (some 5)),gt 4 23,g0 (.sto 5 (.t 24) (some 2))]
def r_Z39_4 : List GI:=[gs 26 3 5,gt 27 4,gi 28 (.build 28 [I 0,.nul] [(0,(none,.k (I 1)))]),gc 29 16 [.t 26,.t 27,.t 28],gt 25 29,gi 30 (.ext 30 25 0),gi 31 (.ext 31 25 1),gi 6 (.alloc 6 2000006 [I 0,I 0,.nul,.nul,.nul]),g0 (.sto 6 (.t 30) (some 5)),gt 7 31]
def r_Z39_5 : List GI:=[gs 33 3 5,gt 34 4,gi 35 (.build 35 [I 0,.nul] [(0,(none,.k (I 1)))]),gc 36 17 [.t 33,.t 34,.t 35],gt 32 36,gi 37 (.ext 37 32 0),gi 38 (.ext 38 32 1),gi 8 (.alloc 8 2000008 [I 0,I 0,.nul,.nul,.nul]),g0 (.sto 8 (.t 37) (some 5)),gt 9 38]
def r_Z39_6 : List GI:=[gt 39 7,gt 40 9,gi 41 (.beq 41 true (.t 39) (.t 40)),gt 42 41,⟨.lod 43 6 (some 5),some 43,some (42,false),false⟩,⟨.lod 44 8 (some 5),some 44,some (42,false),false⟩,⟨.call 45 18 [.t 43,.t 44],some 45,some (42,false),true⟩,⟨.un 46 UnOp.not (.t 45),some 46,some (42,false),false⟩,gi 47 (.pick 47 (.t 42) (.k (.v (.bool true))) (.t 46)),gt 48 47,⟨.mov 49 (.t 7),some 49,some (48,false),false⟩,⟨.un 50 UnOp.not (.t 49),some 50,some (48,false),false⟩,gi 51 (.pick 51 (.t 48) (.k (.v (.bool true))) (.t 50))]
def r_Z39_7 : List GI:=[gs 53 3 5,gt 54 4,gs 55 5 2,gc 56 16 [.t 53,.t 54,.t 55],gt 52 56,gi 57 (.ext 57 52 0),gi 58 (.ext 58 52 1),gi 10 (.alloc 10 2000010 [I 0,I 0,.nul,.nul,.nul]),g0 (.sto 10 (.t 57) (some 5)),gt 11 58]
def r_Z39_8 : List GI:=[gs 60 3 5,gt 61 4,gs 62 5 2,gc 63 17 [.t 60,.t 61,.t 62],gt 59 63,gi 64 (.ext 64 59 0),gi 65 (.ext 65 59 1),gi 12 (.alloc 12 2000012 [I 0,I 0,.nul,.nul,.nul]),g0 (.sto 12 (.t 64) (some 5)),gt 13 65]
def r_Z39_9 : List GI:=[gt 66 7,gt 67 9,gi 68 (.beq 68 false (.t 66) (.t 67)),gt 69 68,⟨.lod 70 6 (some 5),some 70,some (69,true),false⟩,⟨.lod 71 8 (some 5),some 71,some (69,true),false⟩,⟨.call 72 18 [.t 70,.t 71],some 72,some (69,true),true⟩,gi 73 (.pick 73 (.t 69) (.t 72) (.k (.v (.bool false)))),gt 74 73,⟨.mov 75 (.t 11),some 75,some (74,true),false⟩,⟨.mov 76 (.t 13),some 76,some (74,true),false⟩,⟨.beq 77 false (.t 75) (.t 76),some 77,some (74,true),false⟩,gi 78 (.pick 78 (.t 74) (.t 77) (.k (.v (.bool false)))),gt 2 78]
def r_Z39_10 : List GI:=[gs 80 6 5,gt 81 4,gi 82 (.build 82 [I 0,.nul] [(0,(none,.k (I 2)))]),gc 83 16 [.t 80,.t 81,.t 82],gt 79 83,gi 84 (.ext 84 79 0),gi 85 (.ext 85 79 1),gi 14 (.alloc 14 2000014 [I 0,I 0,.nul,.nul,.nul]),g0 (.sto 14 (.t 84) (some 5)),gt 15 85]
def r_Z39_11 : List GI:=[gt 86 15,gt 87 86,⟨.lod 88 14 (some 5),some 88,some (87,true),false⟩,⟨.lod 89 3 (some 5),some 89,some (87,true),false⟩,⟨.call 90 18 [.t 88,.t 89],some 90,some (87,true),true⟩,gi 91 (.pick 91 (.t 87) (.t 90) (.k (.v (.bool false)))),gt 2 91]
def dc_Z39 : DC:=.seq (.z r_Z39_0) (.seq (.seq (.z r_Z39_1) (.cond (.t 18) (.seq (.z r_Z39_2) .ret) .skip)) (.seq (.z r_Z39_3) (.seq (.z r_Z39_4) (.seq (.z r_Z39_5) (.seq (.seq (.z r_Z39_6) (.cond (.t 51) (.seq (.z r_Z39_7) (.seq (.z r_Z39_8) (.seq (.z r_Z39_9) .ret))) .skip)) (.seq (.z r_Z39_10) (.seq (.z r_Z39_11) .ret)))))))
theorem c_Z39 : cfun Tryz.prog [] 6 = some (92,dc_Z39,[(Res.tmp 2)]):=by kernel_rfl
end
end Go.Proofs.YtgpdmgaemhelgaaGreat
