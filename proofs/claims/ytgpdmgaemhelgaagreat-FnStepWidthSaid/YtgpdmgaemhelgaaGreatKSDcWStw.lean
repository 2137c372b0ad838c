/-
  Functions of the program read as code on plain data. Closed facts of the program alone.
-/
import Derived.KernelRfl
import Derived.Test.YtgpdmgaemhelgaaGreatRows
import Derived.Test.YtgpdmgaemhelgaaGreatJSVCall
namespace Go.Proofs.YtgpdmgaemhelgaaGreat
open Go.RowKit
noncomputable section
def r_Z59_0 : List GI:=[gi 2 (.mov 2 (.k (.v (.bool false))))]
def r_Z59_1 : List GI:=[gt 10 0,gn 11 10,gd 12 .gtr 11 1048576]
def r_Z59_2 : List GI:=[gi 2 (.mov 2 (.k (.v (.bool true))))]
def r_Z59_3 : List GI:=[gt 14 0,gc 15 15 [.t 14],gt 13 15,gi 16 (.ext 16 13 0),gi 17 (.ext 17 13 1),gi 18 (.ext 18 13 2),gi 3 (.alloc 3 2000003 [I 0,I 0,.nul,.nul,.nul]),gi 5 (.alloc 5 2000005 [I 0,.nul]),g0 (.sto 3 (.t 16) (some 5)),gt 4 17,g0 (.sto 5 (.t 18) (some 2))]
def r_Z59_4 : List GI:=[gs 20 3 5,gt 21 4,gs 22 5 2,gc 23 16 [.t 20,.t 21,.t 22],gt 19 23,gi 24 (.ext 24 19 0),gi 25 (.ext 25 19 1),gi 6 (.alloc 6 2000006 [I 0,I 0,.nul,.nul,.nul]),g0 (.sto 6 (.t 24) (some 5)),gt 7 25]
def r_Z59_5 : List GI:=[gs 27 3 5,gt 28 4,gs 29 5 2,gc 30 17 [.t 27,.t 28,.t 29],gt 26 30,gi 31 (.ext 31 26 0),gi 32 (.ext 32 26 1),gi 8 (.alloc 8 2000008 [I 0,I 0,.nul,.nul,.nul]),g0 (.sto 8 (.t 31) (some 5)),gt 9 32]
def r_Z59_6 : List GI:=[gt 33 7,gt 34 9,gi 35 (.beq 35 true (.t 33) (.t 34)),gt 36 35,⟨.lod 37 6 (some 5),some 37,some (36,false),false⟩,⟨.lod 38 8 (some 5),some 38,some (36,false),false⟩,⟨.call 39 18 [.t 37,.t 38],some 39,some (36,false),true⟩,⟨.un 40 UnOp.not (.t 39),some 40,some (36,false),false⟩,gi 41 (.pick 41 (.t 36) (.k (.v (.bool true))) (.t 40)),gt 42 41,⟨.mov 43 (.t 7),some 43,some (42,false),false⟩,⟨.un 44 UnOp.not (.t 43),some 44,some (42,false),false⟩,gi 45 (.pick 45 (.t 42) (.k (.v (.bool true))) (.t 44))]
def r_Z59_7 : List GI:=[gt 46 7,gt 47 9,gi 48 (.beq 48 false (.t 46) (.t 47)),gt 49 48,⟨.lod 50 6 (some 5),some 50,some (49,true),false⟩,⟨.lod 51 8 (some 5),some 51,some (49,true),false⟩,⟨.call 52 18 [.t 50,.t 51],some 52,some (49,true),true⟩,gi 53 (.pick 53 (.t 49) (.t 52) (.k (.v (.bool false)))),gt 2 53]
def r_Z59_8 : List GI:=[gs 54 6 5,gt 55 4,gc 56 19 [.t 54,.t 55],gs 57 3 5,gt 58 4,gc 59 19 [.t 57,.t 58],gb 60 .eql 56 59,gt 61 60,⟨.lod 62 6 (some 5),some 62,some (61,true),false⟩,⟨.mov 63 (.t 4),some 63,some (61,true),false⟩,⟨.call 64 21 [.t 62,.t 63],some 64,some (61,true),true⟩,⟨.lod 65 3 (some 5),some 65,some (61,true),false⟩,⟨.mov 66 (.t 4),some 66,some (61,true),false⟩,⟨.call 67 21 [.t 65,.t 66],some 67,some (61,true),true⟩,⟨.call 68 20 [.t 64,.t 67],some 68,some (61,true),true⟩,gi 69 (.pick 69 (.t 61) (.t 68) (.k (.v (.bool false)))),gt 2 69]
def dc_Z59 : DC:=.seq (.z r_Z59_0) (.seq (.seq (.z r_Z59_1) (.cond (.t 12) (.seq (.z r_Z59_2) .ret) .skip)) (.seq (.z r_Z59_3) (.seq (.z r_Z59_4) (.seq (.z r_Z59_5) (.seq (.seq (.z r_Z59_6) (.cond (.t 45) (.seq (.z r_Z59_7) .ret) .skip)) (.seq (.reg r_Z59_8 (some [0,0,3,0,0,31,63,127,255,255,1023,255,255,8191,16383,32767,65535])) .ret))))))
theorem c_Z59 : cfun Tryz.prog [] 3 = some (70,dc_Z59,[(Res.tmp 2)]):=by kernel_rfl
end
end Go.Proofs.YtgpdmgaemhelgaaGreat
