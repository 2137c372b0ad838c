/-
  Functions of the program read as code on plain data. Closed facts of the program alone.
-/
import Derived.KernelRfl
import Derived.Test.YtgpdmgaemhelgaaGreatRows
import Derived.Test.YtgpdmgaemhelgaaGreatJSVCall
namespace Go.Proofs.YtgpdmgaemhelgaaGreat
open Go.RowKit
noncomputable section
def r_Z43_0 : List GI:=[gi 4 (.mov 4 (.k (.v (.bool false))))]
def r_Z43_1 : List GI:=[gt 17 0,gn 18 17,gd 19 .gtr 18 1048576,gt 20 19,⟨.mov 21 (.t 1),some 21,some (20,false),false⟩,⟨.len 22 (.t 21),some 22,some (20,false),false⟩,⟨.bin 23 .gtr (.t 22) (.k (I 1048576)),some 23,some (20,false),false⟩,gi 24 (.pick 24 (.t 20) (.k (.v (.bool true))) (.t 23))]
def r_Z43_2 : List GI:=[gi 4 (.mov 4 (.k (.v (.bool true))))]
def r_Z43_3 : List GI:=[gt 26 0,gc 27 28 [.t 26],gt 25 27,gi 28 (.ext 28 25 0),gi 29 (.ext 29 25 1),gi 30 (.ext 30 25 2),gi 5 (.alloc 5 2000005 [I 0,I 0,.nul,.nul,.nul]),g0 (.sto 5 (.t 28) (some 5)),gt 6 29,gt 7 30]
def r_Z43_4 : List GI:=[gs 32 5 5,gt 33 6,gt 34 7,gc 35 29 [.t 32,.t 33,.t 34],gt 31 35,gi 36 (.ext 36 31 0),gi 37 (.ext 37 31 1),gi 8 (.alloc 8 2000008 [I 0,I 0,.nul,.nul,.nul]),g0 (.sto 8 (.t 36) (some 5)),gt 9 37]
def r_Z43_5 : List GI:=[gs 39 5 5,gt 40 6,gt 41 7,gc 42 30 [.t 39,.t 40,.t 41],gt 38 42,gi 43 (.ext 43 38 0),gi 44 (.ext 44 38 1),gi 10 (.alloc 10 2000010 [I 0,I 0,.nul,.nul,.nul]),g0 (.sto 10 (.t 43) (some 5)),gt 11 44]
def r_Z43_6 : List GI:=[gt 45 9,gt 46 11,gi 47 (.beq 47 true (.t 45) (.t 46)),gt 48 47,⟨.lod 49 8 (some 5),some 49,some (48,false),false⟩,⟨.lod 50 10 (some 5),some 50,some (48,false),false⟩,⟨.call 51 18 [.t 49,.t 50],some 51,some (48,false),true⟩,⟨.un 52 UnOp.not (.t 51),some 52,some (48,false),false⟩,gi 53 (.pick 53 (.t 48) (.k (.v (.bool true))) (.t 52)),gt 54 53,⟨.mov 55 (.t 9),some 55,some (54,false),false⟩,⟨.un 56 UnOp.not (.t 55),some 56,some (54,false),false⟩,gi 57 (.pick 57 (.t 54) (.k (.v (.bool true))) (.t 56))]
def r_Z43_7 : List GI:=[gt 58 9,gt 59 11,gi 60 (.beq 60 false (.t 58) (.t 59)),gt 61 60,⟨.lod 62 8 (some 5),some 62,some (61,true),false⟩,⟨.lod 63 10 (some 5),some 63,some (61,true),false⟩,⟨.call 64 18 [.t 62,.t 63],some 64,some (61,true),true⟩,gi 65 (.pick 65 (.t 61) (.t 64) (.k (.v (.bool false)))),gt 4 65]
def r_Z43_8 : List GI:=[gt 66 1,gn 67 66,gt 68 7,gn 69 68,gd 70 .add 69 1,gb 71 .rem 67 70,gt 12 71]
def r_Z43_9 : List GI:=[gs 73 5 5,gt 74 6,gt 75 7,gt 76 12,gi 77 (.slc 77 (.t 75) none (some (.t 76)) 2),gc 78 29 [.t 73,.t 74,.t 77],gt 72 78,gi 79 (.ext 79 72 0),gi 80 (.ext 80 72 1),gi 13 (.alloc 13 2000013 [I 0,I 0,.nul,.nul,.nul]),g0 (.sto 13 (.t 79) (some 5)),gt 14 80]
def r_Z43_10 : List GI:=[gs 82 13 5,gt 83 6,gt 84 7,gt 85 12,gi 86 (.slc 86 (.t 84) (some (.t 85)) none 2),gc 87 29 [.t 82,.t 83,.t 86],gt 81 87,gi 88 (.ext 88 81 0),gi 89 (.ext 89 81 1),gi 15 (.alloc 15 2000015 [I 0,I 0,.nul,.nul,.nul]),g0 (.sto 15 (.t 88) (some 5)),gt 16 89]
def r_Z43_11 : List GI:=[gt 90 14,gt 91 90,⟨.mov 92 (.t 16),some 92,some (91,true),false⟩,gi 93 (.pick 93 (.t 91) (.t 92) (.k (.v (.bool false)))),gt 94 93,⟨.lod 95 15 (some 5),some 95,some (94,true),false⟩,⟨.lod 96 8 (some 5),some 96,some (94,true),false⟩,⟨.call 97 18 [.t 95,.t 96],some 97,some (94,true),true⟩,gi 98 (.pick 98 (.t 94) (.t 97) (.k (.v (.bool false)))),gt 4 98]
def dc_Z43 : DC:=.seq (.z r_Z43_0) (.seq (.seq (.z r_Z43_1) (.cond (.t 24) (.seq (.z r_Z43_2) .ret) .skip)) (.seq (.z r_Z43_3) (.seq (.z r_Z43_4) (.seq (.z r_Z43_5) (.seq (.seq (.z r_Z43_6) (.cond (.t 57) (.seq (.z r_Z43_7) .ret) .skip)) (.seq (.z r_Z43_8) (.seq (.reg r_Z43_9 (some [0,0,0,0,12,31,63,127,127,0,767,2047])) (.seq (.reg r_Z43_10 (some [0,0,0,0,12,31,63,127,127,0,767,2047])) (.seq (.z r_Z43_11) .ret)))))))))
theorem c_Z43 : cfun Tryz.prog [] 8 = some (99,dc_Z43,[(Res.tmp 4)]):=by kernel_rfl
end
end Go.Proofs.YtgpdmgaemhelgaaGreat
