/-
  Functions of the program read as code on plain data. Closed facts of the program alone.
-/
import Derived.KernelRfl
import Derived.Test.YtedmegmhjmabcaaRows
import Derived.Test.YtedmegmhjmabcaaJSVLib
import Derived.Test.YtedmegmhjmabcaaJSVGi
namespace Go.Proofs.Ytedmegmhjmabcaa
open Go.RowKit
noncomputable section
def r_Z14_0 : List GI:=[gi 4 (.box 4 2000004 (.t 0) (some 2)),gi 5 (.box 5 2000005 (.t 1) (some 2)),gi 8 (.mov 8 (.k (.v (.bool false))))]
def r_Z14_1 : List GI:=[gk 9 1048576]
def r_Z14_2 : List GI:=[gs 21 4 2,gt 22 9,gc 23 15 [.t 21,.t 22],gt 9 23]
def r_Z14_3 : List GI:=[gt 24 9,gd 25 .lss 24 0]
def r_Z14_4 : List GI:=[gi 8 (.mov 8 (.k (.v (.bool true))))]
def r_Z14_5 : List GI:=[gs 26 5 2,gt 27 9,gc 28 15 [.t 26,.t 27],gt 9 28]
def r_Z14_6 : List GI:=[gt 29 9,gd 30 .lss 29 0]
def r_Z14_7 : List GI:=[gi 8 (.mov 8 (.k (.v (.bool true))))]
def r_Z14_8 : List GI:=[gs 32 4 2,gc 33 17 [.t 32],gs 34 5 2,gc 35 17 [.t 34],gt 36 2,gt 37 3,gc 38 43 [.t 33,.t 35,.t 36,.t 37],gt 31 38,gi 39 (.ext 39 31 0),gi 40 (.ext 40 31 1),gi 10 (.alloc 10 2000010 [I 0,.nul]),g0 (.sto 10 (.t 39) (some 2)),gt 11 40]
def r_Z14_9 : List GI:=[gs 41 4 2,gc 42 17 [.t 41],gi 12 (.alloc 12 2000012 [I 0,.nul]),g0 (.sto 12 (.t 42) (some 2))]
def r_Z14_10 : List GI:=[gs 43 5 2,gc 44 17 [.t 43],gi 13 (.alloc 13 2000013 [I 0,.nul]),g0 (.sto 13 (.t 44) (some 2))]
def r_Z14_11 : List GI:=[gs 46 12 2,gs 47 13 2,gt 48 2,gt 49 3,gc 50 44 [.t 46,.t 47,.t 48,.t 49],gt 45 50,gi 51 (.ext 51 45 0),gi 52 (.ext 52 45 1),gi 14 (.alloc 14 2000014 [I 0,.nul]),g0 (.sto 14 (.t 51) (some 2)),gt 15 52]
def r_Z14_12 : List GI:=[gs 53 14 2,gs 54 10 2,gc 55 20 [.t 53,.t 54],gi 56 (.un 56 UnOp.not (.t 55)),gt 57 56,⟨.mov 58 (.t 15),some 58,some (57,false),false⟩,⟨.mov 59 (.t 11),some 59,some (57,false),false⟩,⟨.beq 60 true (.t 58) (.t 59),some 60,some (57,false),false⟩,gi 61 (.pick 61 (.t 57) (.k (.v (.bool true))) (.t 60))]
def r_Z14_13 : List GI:=[gi 8 (.mov 8 (.k (.v (.bool false))))]
def r_Z14_14 : List GI:=[gs 62 12 2,gs 63 4 2,gc 64 17 [.t 63],gc 65 20 [.t 62,.t 64],gi 66 (.un 66 UnOp.not (.t 65))]
def r_Z14_15 : List GI:=[gi 8 (.mov 8 (.k (.v (.bool false))))]
def r_Z14_16 : List GI:=[gs 67 13 2,gs 68 5 2,gc 69 17 [.t 68],gc 70 20 [.t 67,.t 69],gi 71 (.un 71 UnOp.not (.t 70))]
def r_Z14_17 : List GI:=[gi 8 (.mov 8 (.k (.v (.bool false))))]
def r_Z14_18 : List GI:=[gk 16 1]
def r_Z14_19 : List GI:=[gs 72 12 2,gt 73 16,gc 74 21 [.t 72,.t 73],gt 16 74]
def r_Z14_20 : List GI:=[gs 75 13 2,gt 76 16,gc 77 21 [.t 75,.t 76],gt 16 77]
def r_Z14_21 : List GI:=[gt 78 16,gd 79 .lss 78 0,gt 80 79,⟨.lod 81 14 (some 2),some 81,some (80,false),false⟩,⟨.lod 82 10 (some 2),some 82,some (80,false),false⟩,⟨.call 83 20 [.t 81,.t 82],some 83,some (80,false),true⟩,⟨.un 84 UnOp.not (.t 83),some 84,some (80,false),false⟩,gi 85 (.pick 85 (.t 80) (.k (.v (.bool true))) (.t 84)),gt 86 85,⟨.mov 87 (.t 15),some 87,some (86,false),false⟩,⟨.mov 88 (.t 11),some 88,some (86,false),false⟩,⟨.beq 89 true (.t 87) (.t 88),some 89,some (86,false),false⟩,gi 90 (.pick 90 (.t 86) (.k (.v (.bool true))) (.t 89))]
def r_Z14_22 : List GI:=[gi 8 (.mov 8 (.k (.v (.bool false))))]
def r_Z14_23 : List GI:=[gk 17 1]
def r_Z14_24 : List GI:=[gs 91 14 2,gt 92 17,gc 93 21 [.t 91,.t 92],gt 17 93]
def r_Z14_25 : List GI:=[gk 18 1]
def r_Z14_26 : List GI:=[gs 94 14 2,gt 95 18,gc 96 27 [.t 94,.t 95],gt 18 96]
def r_Z14_27 : List GI:=[gt 97 18,gd 98 .lss 97 0]
def r_Z14_28 : List GI:=[gi 8 (.mov 8 (.k (.v (.bool false))))]
def r_Z14_29 : List GI:=[gt 99 18,gt 100 17,gb 101 .neq 99 100]
def r_Z14_30 : List GI:=[gi 8 (.mov 8 (.k (.v (.bool false))))]
def r_Z14_31 : List GI:=[gs 103 4 2,gc 104 17 [.t 103],gs 105 5 2,gc 106 17 [.t 105],gt 107 2,gt 108 3,gc 109 44 [.t 104,.t 106,.t 107,.t 108],gt 102 109,gi 110 (.ext 110 102 0),gi 111 (.ext 111 102 1),gi 19 (.alloc 19 2000019 [I 0,.nul]),g0 (.sto 19 (.t 110) (some 2)),gt 20 111]
def r_Z14_32 : List GI:=[gs 112 19 2,gs 113 10 2,gc 114 20 [.t 112,.t 113],gi 115 (.un 115 UnOp.not (.t 114)),gt 116 115,⟨.mov 117 (.t 20),some 117,some (116,false),false⟩,⟨.mov 118 (.t 11),some 118,some (116,false),false⟩,⟨.beq 119 true (.t 117) (.t 118),some 119,some (116,false),false⟩,gi 120 (.pick 120 (.t 116) (.k (.v (.bool true))) (.t 119))]
def r_Z14_33 : List GI:=[gi 8 (.mov 8 (.k (.v (.bool false))))]
def r_Z14_34 : List GI:=[gk 18 1]
def r_Z14_35 : List GI:=[gs 121 14 2,gt 122 18,gc 123 27 [.t 121,.t 122],gt 18 123]
def r_Z14_36 : List GI:=[gt 124 18,gd 125 .lss 124 0]
def r_Z14_37 : List GI:=[gi 8 (.mov 8 (.k (.v (.bool false))))]
def r_Z14_38 : List GI:=[gt 126 18,gt 127 17,gb 128 .neq 126 127]
def r_Z14_39 : List GI:=[gi 8 (.mov 8 (.k (.v (.bool false))))]
def r_Z14_40 : List GI:=[gi 8 (.mov 8 (.k (.v (.bool true))))]
def dc_Z14 : DC:=.seq (.z r_Z14_0) (.seq (.z r_Z14_1) (.seq (.z r_Z14_2) (.seq (.seq (.z r_Z14_3) (.cond (.t 25) (.seq (.z r_Z14_4) .ret) .skip)) (.seq (.z r_Z14_5) (.seq (.seq (.z r_Z14_6) (.cond (.t 30) (.seq (.z r_Z14_7) .ret) .skip)) (.seq (.reg r_Z14_8 (some [0,1,0,7,0,0,63,127,255,255,0,1535,4095])) (.seq (.z r_Z14_9) (.seq (.z r_Z14_10) (.seq (.z r_Z14_11) (.seq (.seq (.z r_Z14_12) (.cond (.t 61) (.seq (.z r_Z14_13) .ret) .skip)) (.seq (.seq (.reg r_Z14_14 (some [0,0,2,7,15])) (.cond (.t 66) (.seq (.z r_Z14_15) .ret) .skip)) (.seq (.seq (.reg r_Z14_16 (some [0,0,2,7,15])) (.cond (.t 71) (.seq (.z r_Z14_17) .ret) .skip)) (.seq (.z r_Z14_18) (.seq (.z r_Z14_19) (.seq (.z r_Z14_20) (.seq (.seq (.z r_Z14_21) (.cond (.t 90) (.seq (.z r_Z14_22) .ret) .skip)) (.seq (.z r_Z14_23) (.seq (.z r_Z14_24) (.seq (.z r_Z14_25) (.seq (.z r_Z14_26) (.seq (.seq (.z r_Z14_27) (.cond (.t 98) (.seq (.z r_Z14_28) .ret) .skip)) (.seq (.seq (.z r_Z14_29) (.cond (.t 101) (.seq (.z r_Z14_30) .ret) .skip)) (.seq (.reg r_Z14_31 (some [0,1,0,7,0,0,63,127,255,255,0,1535,4095])) (.seq (.seq (.z r_Z14_32) (.cond (.t 120) (.seq (.z r_Z14_33) .ret) .skip)) (.seq (.z r_Z14_34) (.seq (.z r_Z14_35) (.seq (.seq (.z r_Z14_36) (.cond (.t 125) (.seq (.z r_Z14_37) .ret) .skip)) (.seq (.seq (.z r_Z14_38) (.cond (.t 128) (.seq (.z r_Z14_39) .ret) .skip)) (.seq (.z r_Z14_40) .ret)))))))))))))))))))))))))))))
theorem c_Z14 : cfun Try.prog [] 9 = some (129,dc_Z14,[(Res.tmp 8)]):=by kernel_rfl
end
end Go.Proofs.Ytedmegmhjmabcaa
