/-
  Functions of the program read as code on plain data. Closed facts of the program alone.
-/
import Derived.KernelRfl
import Derived.Test.YtgpdmgaemhelgaaGreatRows
import Derived.Test.YtgpdmgaemhelgaaGreatJSVBox
import Derived.Test.YtgpdmgaemhelgaaGreatJSVYld
namespace Go.Proofs.YtgpdmgaemhelgaaGreat
open Go.RowKit
noncomputable section
def r_Z44_0 : List GI:=[gi 2 (.mov 2 (.k (.v (.bool false))))]
def r_Z44_1 : List GI:=[gt 7 0,gn 8 7,gd 9 .gtr 8 1048576]
def r_Z44_2 : List GI:=[gi 2 (.mov 2 (.k (.v (.bool true))))]
def r_Z44_3 : List GI:=[gt 11 0,gc 12 25 [.t 11],gt 10 12,gi 13 (.ext 13 10 0),gi 14 (.ext 14 10 1),gi 3 (.alloc 3 2000003 [I 0,I 0,.nul,.nul,.nul]),g0 (.sto 3 (.t 13) (some 5)),gt 4 14]
def r_Z44_4 : List GI:=[gs 15 3 5,gt 16 4,gc 17 22 [.t 15,.t 16],gt 5 17]
def r_Z44_5 : List GI:=[gt 18 5,gs 19 3 5,gt 20 4,gc 21 24 [.t 19,.t 20],gc 22 23 [.t 18,.t 21],gi 23 (.un 23 UnOp.not (.t 22))]
def r_Z44_6 : List GI:=[gi 2 (.mov 2 (.k (.v (.bool false))))]
def r_Z44_7 : List GI:=[gk 6 1]
def r_Z44_8 : List GI:=[gt 24 6,gt 25 5,gn 26 25,gb 27 .lss 24 26]
def r_Z44_9 : List GI:=[gt 30 5,gt 31 6,ga 32 30 31 2,gf 33 32 1,gl 34 33,gt 35 5,gt 36 6,gd 37 .sub 36 1,ga 38 35 37 2,gf 39 38 1,gl 40 39,gc 41 20 [.t 34,.t 40],gt 42 41,⟨.mov 43 (.t 5),some 43,some (42,true),false⟩,⟨.mov 44 (.t 6),some 44,some (42,true),false⟩,⟨.iad 45 43 (.t 44) 2,some 45,some (42,true),false⟩,⟨.fad 46 45 0,some 46,some (42,true),false⟩,⟨.lod 47 46 none,some 47,some (42,true),false⟩,⟨.mov 48 (.t 5),some 48,some (42,true),false⟩,⟨.mov 49 (.t 6),some 49,some (42,true),false⟩,⟨.bin 50 .sub (.t 49) (.k (I 1)),some 50,some (42,true),false⟩,⟨.iad 51 48 (.t 50) 2,some 51,some (42,true),false⟩,⟨.fad 52 51 0,some 52,some (42,true),false⟩,⟨.lod 53 52 none,some 53,some (42,true),false⟩,⟨.bin 54 .leq (.t 47) (.t 53),some 54,some (42,true),false⟩,gi 55 (.pick 55 (.t 42) (.t 54) (.k (.v (.bool false))))]
def r_Z44_10 : List GI:=[gi 2 (.mov 2 (.k (.v (.bool false))))]
def r_Z44_11 : List GI:=[gt 28 6,gd 29 .add 28 1,gt 6 29]
def r_Z44_12 : List GI:=[gi 2 (.mov 2 (.k (.v (.bool true))))]
def dc_Z44 : DC:=.seq (.z r_Z44_0) (.seq (.seq (.z r_Z44_1) (.cond (.t 9) (.seq (.z r_Z44_2) .ret) .skip)) (.seq (.z r_Z44_3) (.seq (.z r_Z44_4) (.seq (.seq (.z r_Z44_5) (.cond (.t 23) (.seq (.z r_Z44_6) .ret) .skip)) (.seq (.seq (.z r_Z44_7) (.block 0 (.loop (.seq (.seq (.z r_Z44_8) (.cond (.t 27) .skip (.exit 0))) (.seq (.block 1 (.seq (.reg r_Z44_9 (some [0,0,3,7,15,0,0,64,224,480,992,2047,4095,8191,8191,32767,65535,131071,8191,8191,532479,1843199,3940351,8134655,16777215,33554431])) (.cond (.t 55) (.seq (.z r_Z44_10) .ret) .skip))) (.z r_Z44_11)))))) (.seq (.z r_Z44_12) .ret))))))
theorem c_Z44 : cfun Tryz.prog [] 5 = some (56,dc_Z44,[(Res.tmp 2)]):=by kernel_rfl
end
end Go.Proofs.YtgpdmgaemhelgaaGreat
