/-
  Functions of the program read as code on plain data. Closed facts of the program alone.
-/
import Derived.KernelRfl
import Derived.Test.YtgpdmgaemhelgaaGreatRows
import Derived.Test.YtgpdmgaemhelgaaGreatJSVCall
namespace Go.Proofs.YtgpdmgaemhelgaaGreat
open Go.RowKit
noncomputable section
def r_Z24_0 : List GI:=[gi 2 (.mov 2 (.k (.v (.bool false))))]
def r_Z24_1 : List GI:=[gt 10 0,gn 11 10,gd 12 .gtr 11 1048576]
def r_Z24_2 : List GI:=[gi 2 (.mov 2 (.k (.v (.bool true))))]
def r_Z24_3 : List GI:=[gt 14 0,gc 15 31 [.t 14],gt 13 15,gi 16 (.ext 16 13 0),gi 17 (.ext 17 13 1),gi 18 (.ext 18 13 2),gi 19 (.ext 19 13 3),gi 3 (.alloc 3 2000003 [I 0,I 0,.nul,.nul,.nul]),gi 4 (.alloc 4 2000004 [I 0,I 0,.nul,.nul,.nul]),g0 (.sto 3 (.t 16) (some 5)),g0 (.sto 4 (.t 17) (some 5)),gt 5 18,gt 6 19]
def r_Z24_4 : List GI:=[gs 20 3 5,gs 21 4 5,gt 22 5,gt 23 6,gc 24 32 [.t 20,.t 21,.t 22,.t 23],gt 7 24]
def r_Z24_5 : List GI:=[gt 25 7,gs 26 3 5,gs 27 4 5,gt 28 5,gt 29 6,gc 30 33 [.t 26,.t 27,.t 28,.t 29],gi 31 (.beq 31 true (.t 25) (.t 30)),gt 32 31,⟨.lod 33 3 (some 5),some 33,some (32,false),false⟩,⟨.mov 34 (.t 5),some 34,some (32,false),false⟩,⟨.call 35 19 [.t 33,.t 34],some 35,some (32,false),true⟩,⟨.bin 36 .eql (.t 35) (.k (I 0)),some 36,some (32,false),false⟩,gi 37 (.pick 37 (.t 32) (.k (.v (.bool true))) (.t 36))]
def r_Z24_6 : List GI:=[gt 38 7,gs 39 3 5,gs 40 4 5,gt 41 5,gt 42 6,gc 43 33 [.t 39,.t 40,.t 41,.t 42],gi 44 (.beq 44 false (.t 38) (.t 43)),gt 2 44]
def r_Z24_7 : List GI:=[gs 46 3 5,gt 47 5,gt 48 6,gc 49 29 [.t 46,.t 47,.t 48],gt 45 49,gi 50 (.ext 50 45 0),gi 51 (.ext 51 45 1),gi 8 (.alloc 8 2000008 [I 0,I 0,.nul,.nul,.nul]),g0 (.sto 8 (.t 50) (some 5)),gt 9 51]
def r_Z24_8 : List GI:=[gs 52 3 5,gs 53 3 5,gt 54 5,gi 55 (.mov 55 (.k .nul)),gc 56 32 [.t 52,.t 53,.t 54,.t 55],gt 57 56,⟨.mov 58 (.t 7),some 58,some (57,true),false⟩,⟨.un 59 UnOp.not (.t 58),some 59,some (57,true),false⟩,⟨.mov 60 (.t 59),some 60,some (57,true),false⟩,⟨.mov 61 (.t 9),some 61,some (60,false),false⟩,⟨.mov 62 (.t 61),some 62,some (60,false),false⟩,⟨.lod 63 8 (some 5),some 63,some (62,true),false⟩,⟨.lod 64 4 (some 5),some 64,some (62,true),false⟩,⟨.call 65 18 [.t 63,.t 64],some 65,some (62,true),true⟩,⟨.pick 66 (.t 62) (.t 65) (.k (.v (.bool false))),some 66,some (60,false),false⟩,⟨.pick 67 (.t 60) (.k (.v (.bool true))) (.t 66),some 67,some (57,true),false⟩,gi 68 (.pick 68 (.t 57) (.t 67) (.k (.v (.bool false)))),gt 69 68,⟨.mov 70 (.t 9),some 70,some (69,true),false⟩,⟨.un 71 UnOp.not (.t 70),some 71,some (69,true),false⟩,⟨.mov 72 (.t 71),some 72,some (69,true),false⟩,⟨.lod 73 3 (some 5),some 73,some (72,false),false⟩,⟨.lod 74 8 (some 5),some 74,some (72,false),false⟩,⟨.mov 75 (.t 5),some 75,some (72,false),false⟩,⟨.mov 76 (.t 6),some 76,some (72,false),false⟩,⟨.call 77 32 [.t 73,.t 74,.t 75,.t 76],some 77,some (72,false),true⟩,⟨.pick 78 (.t 72) (.k (.v (.bool true))) (.t 77),some 78,some (69,true),false⟩,gi 79 (.pick 79 (.t 69) (.t 78) (.k (.v (.bool false)))),gt 2 79]
def dc_Z24 : DC:=.seq (.z r_Z24_0) (.seq (.seq (.z r_Z24_1) (.cond (.t 12) (.seq (.z r_Z24_2) .ret) .skip)) (.seq (.z r_Z24_3) (.seq (.z r_Z24_4) (.seq (.seq (.z r_Z24_5) (.cond (.t 37) (.seq (.z r_Z24_6) .ret) .skip)) (.seq (.z r_Z24_7) (.seq (.z r_Z24_8) .ret))))))
theorem c_Z24 : cfun Tryz.prog [] 9 = some (80,dc_Z24,[(Res.tmp 2)]):=by kernel_rfl
end
end Go.Proofs.YtgpdmgaemhelgaaGreat
