/-
  Functions of the program read as code on plain data. Closed facts of the program alone.
-/
import Derived.KernelRfl
import Derived.Test.YtgpdmgaemhelgaaGreatRows
import Derived.Test.YtgpdmgaemhelgaaGreatJSVBox
import Derived.Test.YtgpdmgaemhelgaaGreatJSVYld
namespace Go.Proofs.YtgpdmgaemhelgaaGreat
open Go.RowKit
noncomputable section
def r_Z84_0 : List GI:=[gi 2 (.mov 2 (.k (.v (.bool false))))]
def r_Z84_1 : List GI:=[gt 8 0,gn 9 8,gd 10 .gtr 9 1048576]
def r_Z84_2 : List GI:=[gi 2 (.mov 2 (.k (.v (.bool true))))]
def r_Z84_3 : List GI:=[gt 12 0,gc 13 38 [.t 12],gt 11 13,gi 14 (.ext 14 11 0),gi 15 (.ext 15 11 1),gi 3 (.alloc 3 2000003 [I 0,I 0,.nul,.nul,.nul]),g0 (.sto 3 (.t 14) (some 5)),gt 4 15]
def r_Z84_4 : List GI:=[gs 16 3 5,gt 17 4,gc 18 37 [.t 16,.t 17],gt 5 18]
def r_Z84_5 : List GI:=[gt 19 5,gs 20 3 5,gt 21 4,gc 22 39 [.t 20,.t 21],gi 23 (.beq 23 true (.t 19) (.t 22)),gt 24 23,⟨.lod 25 3 (some 5),some 25,some (24,false),false⟩,⟨.mov 26 (.t 4),some 26,some (24,false),false⟩,⟨.call 27 19 [.t 25,.t 26],some 27,some (24,false),true⟩,⟨.bin 28 .eql (.t 27) (.k (I 0)),some 28,some (24,false),false⟩,gi 29 (.pick 29 (.t 24) (.k (.v (.bool true))) (.t 28))]
def r_Z84_6 : List GI:=[gt 30 5,gs 31 3 5,gt 32 4,gc 33 39 [.t 31,.t 32],gi 34 (.beq 34 false (.t 30) (.t 33)),gt 35 34,⟨.mov 36 (.t 5),some 36,some (35,true),false⟩,⟨.beq 37 false (.t 36) (.k (.v (.bool false))),some 37,some (35,true),false⟩,⟨.mov 38 (.t 37),some 38,some (35,true),false⟩,⟨.lod 39 3 (some 5),some 39,some (38,false),false⟩,⟨.mov 40 (.t 4),some 40,some (38,false),false⟩,⟨.call 41 19 [.t 39,.t 40],some 41,some (38,false),true⟩,⟨.bin 42 .gtr (.t 41) (.k (I 0)),some 42,some (38,false),false⟩,⟨.pick 43 (.t 38) (.k (.v (.bool true))) (.t 42),some 43,some (35,true),false⟩,gi 44 (.pick 44 (.t 35) (.t 43) (.k (.v (.bool false)))),gt 2 44]
def r_Z84_7 : List GI:=[gs 46 3 5,gt 47 4,gc 48 35 [.t 46,.t 47],gt 45 48,gi 49 (.ext 49 45 0),gi 50 (.ext 50 45 1),gi 6 (.alloc 6 2000006 [I 0,I 0,.nul,.nul,.nul]),g0 (.sto 6 (.t 49) (some 5)),gt 7 50]
def r_Z84_8 : List GI:=[gt 51 5,gt 52 7,gn 53 52,gd 54 .eql 53 0,gi 55 (.beq 55 false (.t 51) (.t 54)),gt 56 55,⟨.mov 57 (.t 5),some 57,some (56,true),false⟩,⟨.un 58 UnOp.not (.t 57),some 58,some (56,true),false⟩,⟨.mov 59 (.t 58),some 59,some (56,true),false⟩,⟨.lod 60 6 (some 5),some 60,some (59,false),false⟩,⟨.lod 61 3 (some 5),some 61,some (59,false),false⟩,⟨.call 62 18 [.t 60,.t 61],some 62,some (59,false),true⟩,⟨.pick 63 (.t 59) (.k (.v (.bool true))) (.t 62),some 63,some (56,true),false⟩,gi 64 (.pick 64 (.t 56) (.t 63) (.k (.v (.bool false)))),gt 2 64]
def dc_Z84 : DC:=.seq (.z r_Z84_0) (.seq (.seq (.z r_Z84_1) (.cond (.t 10) (.seq (.z r_Z84_2) .ret) .skip)) (.seq (.z r_Z84_3) (.seq (.z r_Z84_4) (.seq (.seq (.z r_Z84_5) (.cond (.t 29) (.seq (.z r_Z84_6) .ret) .skip)) (.seq (.z r_Z84_7) (.seq (.z r_Z84_8) .ret))))))
theorem c_Z84 : cfun Tryz.prog [] 11 = some (65,dc_Z84,[(Res.tmp 2)]):=by kernel_rfl
end
end Go.Proofs.YtgpdmgaemhelgaaGreat
