/-
  Functions of the program read as code on plain data. Closed facts of the program alone.
-/
import Derived.KernelRfl
import Derived.Test.YtedmegmhjmabcaaRows
import Derived.Test.YtedmegmhjmabcaaJSVGo
import Derived.Test.YtedmegmhjmabcaaJSVDraw
namespace Go.Proofs.Ytedmegmhjmabcaa
open Go.RowKit
noncomputable section
def r_Z12_0 : List GI:=[gi 4 (.mov 4 (.k (.v (.bool false))))]
def r_Z12_1 : List GI:=[gk 5 1048576]
def r_Z12_2 : List GI:=[gt 16 1,gt 17 5,gc 18 49 [.t 16,.t 17],gt 5 18]
def r_Z12_3 : List GI:=[gt 19 5,gd 20 .lss 19 0]
def r_Z12_4 : List GI:=[gi 4 (.mov 4 (.k (.v (.bool true))))]
def r_Z12_5 : List GI:=[gt 22 0,gt 23 1,gc 24 51 [.t 23],gc 25 50 [.t 22,.t 24],gt 21 25,gi 26 (.ext 26 21 0),gi 27 (.ext 27 21 1),gi 6 (.alloc 6 2000006 [I 0,.nul]),g0 (.sto 6 (.t 26) (some 2)),gt 7 27]
def r_Z12_6 : List GI:=[gt 28 1,gc 29 51 [.t 28],gt 8 29]
def r_Z12_7 : List GI:=[gt 31 0,gt 32 8,gc 33 52 [.t 31,.t 32],gt 30 33,gi 34 (.ext 34 30 0),gi 35 (.ext 35 30 1),gi 9 (.alloc 9 2000009 [I 0,.nul]),g0 (.sto 9 (.t 34) (some 2)),gt 10 35]
def r_Z12_8 : List GI:=[gs 36 9 2,gs 37 6 2,gc 38 20 [.t 36,.t 37],gi 39 (.un 39 UnOp.not (.t 38)),gt 40 39,⟨.mov 41 (.t 10),some 41,some (40,false),false⟩,⟨.mov 42 (.t 7),some 42,some (40,false),false⟩,⟨.beq 43 true (.t 41) (.t 42),some 43,some (40,false),false⟩,gi 44 (.pick 44 (.t 40) (.k (.v (.bool true))) (.t 43))]
def r_Z12_9 : List GI:=[gi 4 (.mov 4 (.k (.v (.bool false))))]
def r_Z12_10 : List GI:=[gt 45 8,gt 46 1,gc 47 51 [.t 46],gc 48 32 [.t 45,.t 47],gi 49 (.un 49 UnOp.not (.t 48))]
def r_Z12_11 : List GI:=[gi 4 (.mov 4 (.k (.v (.bool false))))]
def r_Z12_12 : List GI:=[gk 11 1]
def r_Z12_13 : List GI:=[gt 50 8,gt 51 11,gc 52 35 [.t 50,.t 51],gt 11 52]
def r_Z12_14 : List GI:=[gt 53 11,gd 54 .lss 53 0,gt 55 54,⟨.lod 56 9 (some 2),some 56,some (55,false),false⟩,⟨.lod 57 6 (some 2),some 57,some (55,false),false⟩,⟨.call 58 20 [.t 56,.t 57],some 58,some (55,false),true⟩,⟨.un 59 UnOp.not (.t 58),some 59,some (55,false),false⟩,gi 60 (.pick 60 (.t 55) (.k (.v (.bool true))) (.t 59)),gt 61 60,⟨.mov 62 (.t 10),some 62,some (61,false),false⟩,⟨.mov 63 (.t 7),some 63,some (61,false),false⟩,⟨.beq 64 true (.t 62) (.t 63),some 64,some (61,false),false⟩,gi 65 (.pick 65 (.t 61) (.k (.v (.bool true))) (.t 64))]
def r_Z12_15 : List GI:=[gi 4 (.mov 4 (.k (.v (.bool false))))]
def r_Z12_16 : List GI:=[gk 12 1]
def r_Z12_17 : List GI:=[gs 66 9 2,gt 67 12,gc 68 21 [.t 66,.t 67],gt 12 68]
def r_Z12_18 : List GI:=[gk 13 1]
def r_Z12_19 : List GI:=[gs 69 9 2,gt 70 13,gc 71 27 [.t 69,.t 70],gt 13 71]
def r_Z12_20 : List GI:=[gt 72 13,gd 73 .lss 72 0]
def r_Z12_21 : List GI:=[gi 4 (.mov 4 (.k (.v (.bool false))))]
def r_Z12_22 : List GI:=[gt 74 13,gt 75 12,gb 76 .neq 74 75]
def r_Z12_23 : List GI:=[gi 4 (.mov 4 (.k (.v (.bool false))))]
def r_Z12_24 : List GI:=[gt 78 0,gt 79 1,gc 80 51 [.t 79],gc 81 52 [.t 78,.t 80],gt 77 81,gi 82 (.ext 82 77 0),gi 83 (.ext 83 77 1),gi 14 (.alloc 14 2000014 [I 0,.nul]),g0 (.sto 14 (.t 82) (some 2)),gt 15 83]
def r_Z12_25 : List GI:=[gs 84 14 2,gs 85 6 2,gc 86 20 [.t 84,.t 85],gi 87 (.un 87 UnOp.not (.t 86)),gt 88 87,⟨.mov 89 (.t 15),some 89,some (88,false),false⟩,⟨.mov 90 (.t 7),some 90,some (88,false),false⟩,⟨.beq 91 true (.t 89) (.t 90),some 91,some (88,false),false⟩,gi 92 (.pick 92 (.t 88) (.k (.v (.bool true))) (.t 91))]
def r_Z12_26 : List GI:=[gi 4 (.mov 4 (.k (.v (.bool false))))]
def r_Z12_27 : List GI:=[gk 13 1]
def r_Z12_28 : List GI:=[gs 93 9 2,gt 94 13,gc 95 27 [.t 93,.t 94],gt 13 95]
def r_Z12_29 : List GI:=[gt 96 13,gd 97 .lss 96 0]
def r_Z12_30 : List GI:=[gi 4 (.mov 4 (.k (.v (.bool false))))]
def r_Z12_31 : List GI:=[gt 98 13,gt 99 12,gb 100 .neq 98 99]
def r_Z12_32 : List GI:=[gi 4 (.mov 4 (.k (.v (.bool false))))]
def r_Z12_33 : List GI:=[gi 4 (.mov 4 (.k (.v (.bool true))))]
def dc_Z12 : DC:=.seq (.z r_Z12_0) (.seq (.z r_Z12_1) (.seq (.z r_Z12_2) (.seq (.seq (.z r_Z12_3) (.cond (.t 20) (.seq (.z r_Z12_4) .ret) .skip)) (.seq (.z r_Z12_5) (.seq (.z r_Z12_6) (.seq (.z r_Z12_7) (.seq (.seq (.z r_Z12_8) (.cond (.t 44) (.seq (.z r_Z12_9) .ret) .skip)) (.seq (.seq (.z r_Z12_10) (.cond (.t 49) (.seq (.z r_Z12_11) .ret) .skip)) (.seq (.z r_Z12_12) (.seq (.z r_Z12_13) (.seq (.seq (.z r_Z12_14) (.cond (.t 65) (.seq (.z r_Z12_15) .ret) .skip)) (.seq (.z r_Z12_16) (.seq (.z r_Z12_17) (.seq (.z r_Z12_18) (.seq (.z r_Z12_19) (.seq (.seq (.z r_Z12_20) (.cond (.t 73) (.seq (.z r_Z12_21) .ret) .skip)) (.seq (.seq (.z r_Z12_22) (.cond (.t 76) (.seq (.z r_Z12_23) .ret) .skip)) (.seq (.z r_Z12_24) (.seq (.seq (.z r_Z12_25) (.cond (.t 92) (.seq (.z r_Z12_26) .ret) .skip)) (.seq (.z r_Z12_27) (.seq (.z r_Z12_28) (.seq (.seq (.z r_Z12_29) (.cond (.t 97) (.seq (.z r_Z12_30) .ret) .skip)) (.seq (.seq (.z r_Z12_31) (.cond (.t 100) (.seq (.z r_Z12_32) .ret) .skip)) (.seq (.z r_Z12_33) .ret))))))))))))))))))))))))
theorem c_Z12 : cfun Try.prog [] 12 = some (101,dc_Z12,[(Res.tmp 4)]):=by kernel_rfl
end
end Go.Proofs.Ytedmegmhjmabcaa
