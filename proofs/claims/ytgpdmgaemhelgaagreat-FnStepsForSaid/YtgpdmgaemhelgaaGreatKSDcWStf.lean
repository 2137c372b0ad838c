/-
  Functions of the program read as code on plain data. Closed facts of the program alone.
-/
import Derived.KernelRfl
import Derived.Test.YtgpdmgaemhelgaaGreatRows
import Derived.Test.YtgpdmgaemhelgaaGreatJSVBox
import Derived.Test.YtgpdmgaemhelgaaGreatJSVYld
namespace Go.Proofs.YtgpdmgaemhelgaaGreat
open Go.RowKit
noncomputable section
def r_Z76_0 : List GI:=[gi 2 (.mov 2 (.k (.v (.bool false))))]
def r_Z76_1 : List GI:=[gt 14 0,gn 15 14,gd 16 .gtr 15 1048576]
def r_Z76_2 : List GI:=[gi 2 (.mov 2 (.k (.v (.bool true))))]
def r_Z76_3 : List GI:=[gt 18 0,gc 19 15 [.t 18],gt 17 19,gi 20 (.ext 20 17 0),gi 21 (.ext 21 17 1),gi 22 (.ext 22 17 2),gi 3 (.alloc 3 2000003 [I 0,I 0,.nul,.nul,.nul]),gi 5 (.alloc 5 2000005 [I 0,.nul]),g0 (.sto 3 (.t 20) (some 5)),gt 4 21,g0 (.sto 5 (.t 22) (some 2))]
def r_Z76_4 : List GI:=[gs 23 3 5,gt 24 4,gc 25 22 [.t 23,.t 24],gt 6 25]
def r_Z76_5 : List GI:=[gt 26 6,gs 27 3 5,gt 28 4,gc 29 24 [.t 27,.t 28],gc 30 23 [.t 26,.t 29],gi 31 (.un 31 UnOp.not (.t 30))]
def r_Z76_6 : List GI:=[gi 2 (.mov 2 (.k (.v (.bool false))))]
def r_Z76_7 : List GI:=[gk 7 0]
def r_Z76_8 : List GI:=[gt 32 7,gt 33 6,gn 34 33,gb 35 .lss 32 34]
def r_Z76_9 : List GI:=[gs 39 3 5,gt 40 4,gt 41 6,gt 42 7,ga 43 41 42 2,gs 44 43 2,gc 45 16 [.t 39,.t 40,.t 44],gt 38 45,gi 46 (.ext 46 38 0),gi 47 (.ext 47 38 1),gi 8 (.alloc 8 2000008 [I 0,I 0,.nul,.nul,.nul]),g0 (.sto 8 (.t 46) (some 5)),gt 9 47]
def r_Z76_10 : List GI:=[gt 48 9,gi 49 (.un 49 UnOp.not (.t 48))]
def r_Z76_11 : List GI:=[gi 2 (.mov 2 (.k (.v (.bool false))))]
def r_Z76_12 : List GI:=[gt 36 7,gd 37 .add 36 1,gt 7 37]
def r_Z76_13 : List GI:=[gs 51 3 5,gt 52 4,gs 53 5 2,gc 54 16 [.t 51,.t 52,.t 53],gt 50 54,gi 55 (.ext 55 50 0),gi 56 (.ext 56 50 1),gi 10 (.alloc 10 2000010 [I 0,I 0,.nul,.nul,.nul]),g0 (.sto 10 (.t 55) (some 5)),gt 11 56]
def r_Z76_14 : List GI:=[gi 12 (.mov 12 (.k (.v (.bool false))))]
def r_Z76_15 : List GI:=[gk 13 0]
def r_Z76_16 : List GI:=[gt 57 13,gt 58 6,gn 59 58,gb 60 .lss 57 59]
def r_Z76_17 : List GI:=[gt 63 12,gt 64 63,⟨.mov 65 (.t 6),some 65,some (64,false),false⟩,⟨.mov 66 (.t 13),some 66,some (64,false),false⟩,⟨.iad 67 65 (.t 66) 2,some 67,some (64,false),false⟩,⟨.fad 68 67 0,some 68,some (64,false),false⟩,⟨.lod 69 68 none,some 69,some (64,false),false⟩,⟨.fad 70 5 0,some 70,some (64,false),false⟩,⟨.lod 71 70 none,some 71,some (64,false),false⟩,⟨.bin 72 .eql (.t 69) (.t 71),some 72,some (64,false),false⟩,⟨.mov 73 (.t 72),some 73,some (64,false),false⟩,⟨.mov 74 (.t 6),some 74,some (73,true),false⟩,⟨.mov 75 (.t 13),some 75,some (73,true),false⟩,⟨.iad 76 74 (.t 75) 2,some 76,some (73,true),false⟩,⟨.fad 77 76 1,some 77,some (73,true),false⟩,⟨.lod 78 77 none,some 78,some (73,true),false⟩,⟨.fad 79 5 1,some 79,some (73,true),false⟩,⟨.lod 80 79 none,some 80,some (73,true),false⟩,⟨.call 81 20 [.t 78,.t 80],some 81,some (73,true),true⟩,⟨.pick 82 (.t 73) (.t 81) (.k (.v (.bool false))),some 82,some (64,false),false⟩,gi 83 (.pick 83 (.t 64) (.k (.v (.bool true))) (.t 82)),gt 12 83]
def r_Z76_18 : List GI:=[gt 61 13,gd 62 .add 61 1,gt 13 62]
def r_Z76_19 : List GI:=[gt 84 12,gt 85 11,gi 86 (.beq 86 false (.t 84) (.t 85)),gt 2 86]
def dc_Z76 : DC:=.seq (.z r_Z76_0) (.seq (.seq (.z r_Z76_1) (.cond (.t 16) (.seq (.z r_Z76_2) .ret) .skip)) (.seq (.z r_Z76_3) (.seq (.z r_Z76_4) (.seq (.seq (.z r_Z76_5) (.cond (.t 31) (.seq (.z r_Z76_6) .ret) .skip)) (.seq (.seq (.z r_Z76_7) (.block 0 (.loop (.seq (.seq (.z r_Z76_8) (.cond (.t 35) .skip (.exit 0))) (.seq (.block 1 (.seq (.reg r_Z76_9 (some [0,0,0,0,12,28,63,127,255,255,0,1535,4095])) (.seq (.z r_Z76_10) (.cond (.t 49) (.seq (.z r_Z76_11) .ret) .skip)))) (.z r_Z76_12)))))) (.seq (.z r_Z76_13) (.seq (.z r_Z76_14) (.seq (.seq (.z r_Z76_15) (.block 2 (.loop (.seq (.seq (.z r_Z76_16) (.cond (.t 60) .skip (.exit 2))) (.seq (.block 3 (.reg r_Z76_17 (some [0,1,3,3,15,31,63,3,131,511,1023,2047,2047,8191,16383,32767,2047,67583,262143,524287,1048575,2097151]))) (.z r_Z76_18)))))) (.seq (.z r_Z76_19) .ret)))))))))
theorem c_Z76 : cfun Tryz.prog [] 4 = some (87,dc_Z76,[(Res.tmp 2)]):=by kernel_rfl
end
end Go.Proofs.YtgpdmgaemhelgaaGreat
