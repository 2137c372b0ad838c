/-
  Functions of the program read as code on plain data. Closed facts of the program alone.
-/
import Derived.KernelRfl
import Derived.Test.YtedmegmhjmabcaaRows
import Derived.Test.YtedmegmhjmabcaaJSVLib
import Derived.Test.YtedmegmhjmabcaaJSVTbD
namespace Go.Proofs.Ytedmegmhjmabcaa
open Go.RowKit
noncomputable section
def r_Z2_0 : List GI:=[gi 2 (.box 2 2000002 (.t 0) (some 2)),gi 3 (.box 3 2000003 (.t 1) (some 2)),gi 4 (.mov 4 (.k (.v (.bool false))))]
def r_Z2_1 : List GI:=[gk 5 1048576]
def r_Z2_2 : List GI:=[gs 17 2 2,gt 18 5,gc 19 15 [.t 17,.t 18],gt 5 19]
def r_Z2_3 : List GI:=[gt 20 5,gd 21 .lss 20 0]
def r_Z2_4 : List GI:=[gi 4 (.mov 4 (.k (.v (.bool true))))]
def r_Z2_5 : List GI:=[gs 22 3 2,gt 23 5,gc 24 15 [.t 22,.t 23],gt 5 24]
def r_Z2_6 : List GI:=[gt 25 5,gd 26 .lss 25 0]
def r_Z2_7 : List GI:=[gi 4 (.mov 4 (.k (.v (.bool true))))]
def r_Z2_8 : List GI:=[gs 28 2 2,gc 29 17 [.t 28],gs 30 3 2,gc 31 17 [.t 30],gc 32 53 [.t 29,.t 31],gt 27 32,gi 33 (.ext 33 27 0),gi 34 (.ext 34 27 1),gi 6 (.alloc 6 2000006 [I 0,.nul]),g0 (.sto 6 (.t 33) (some 2)),gt 7 34]
def r_Z2_9 : List GI:=[gs 35 2 2,gc 36 17 [.t 35],gi 8 (.alloc 8 2000008 [I 0,.nul]),g0 (.sto 8 (.t 36) (some 2))]
def r_Z2_10 : List GI:=[gs 37 3 2,gc 38 17 [.t 37],gi 9 (.alloc 9 2000009 [I 0,.nul]),g0 (.sto 9 (.t 38) (some 2))]
def r_Z2_11 : List GI:=[gs 40 8 2,gs 41 9 2,gc 42 54 [.t 40,.t 41],gt 39 42,gi 43 (.ext 43 39 0),gi 44 (.ext 44 39 1),gi 10 (.alloc 10 2000010 [I 0,.nul]),g0 (.sto 10 (.t 43) (some 2)),gt 11 44]
def r_Z2_12 : List GI:=[gs 45 10 2,gs 46 6 2,gc 47 20 [.t 45,.t 46],gi 48 (.un 48 UnOp.not (.t 47)),gt 49 48,⟨.mov 50 (.t 11),some 50,some (49,false),false⟩,⟨.mov 51 (.t 7),some 51,some (49,false),false⟩,⟨.beq 52 true (.t 50) (.t 51),some 52,some (49,false),false⟩,gi 53 (.pick 53 (.t 49) (.k (.v (.bool true))) (.t 52))]
def r_Z2_13 : List GI:=[gi 4 (.mov 4 (.k (.v (.bool false))))]
def r_Z2_14 : List GI:=[gs 54 8 2,gs 55 2 2,gc 56 17 [.t 55],gc 57 20 [.t 54,.t 56],gi 58 (.un 58 UnOp.not (.t 57))]
def r_Z2_15 : List GI:=[gi 4 (.mov 4 (.k (.v (.bool false))))]
def r_Z2_16 : List GI:=[gs 59 9 2,gs 60 3 2,gc 61 17 [.t 60],gc 62 20 [.t 59,.t 61],gi 63 (.un 63 UnOp.not (.t 62))]
def r_Z2_17 : List GI:=[gi 4 (.mov 4 (.k (.v (.bool false))))]
def r_Z2_18 : List GI:=[gk 12 1]
def r_Z2_19 : List GI:=[gs 64 8 2,gt 65 12,gc 66 21 [.t 64,.t 65],gt 12 66]
def r_Z2_20 : List GI:=[gs 67 9 2,gt 68 12,gc 69 21 [.t 67,.t 68],gt 12 69]
def r_Z2_21 : List GI:=[gt 70 12,gd 71 .lss 70 0,gt 72 71,⟨.lod 73 10 (some 2),some 73,some (72,false),false⟩,⟨.lod 74 6 (some 2),some 74,some (72,false),false⟩,⟨.call 75 20 [.t 73,.t 74],some 75,some (72,false),true⟩,⟨.un 76 UnOp.not (.t 75),some 76,some (72,false),false⟩,gi 77 (.pick 77 (.t 72) (.k (.v (.bool true))) (.t 76)),gt 78 77,⟨.mov 79 (.t 11),some 79,some (78,false),false⟩,⟨.mov 80 (.t 7),some 80,some (78,false),false⟩,⟨.beq 81 true (.t 79) (.t 80),some 81,some (78,false),false⟩,gi 82 (.pick 82 (.t 78) (.k (.v (.bool true))) (.t 81))]
def r_Z2_22 : List GI:=[gi 4 (.mov 4 (.k (.v (.bool false))))]
def r_Z2_23 : List GI:=[gk 13 1]
def r_Z2_24 : List GI:=[gs 83 10 2,gt 84 13,gc 85 21 [.t 83,.t 84],gt 13 85]
def r_Z2_25 : List GI:=[gk 14 1]
def r_Z2_26 : List GI:=[gs 86 10 2,gt 87 14,gc 88 27 [.t 86,.t 87],gt 14 88]
def r_Z2_27 : List GI:=[gt 89 14,gd 90 .lss 89 0]
def r_Z2_28 : List GI:=[gi 4 (.mov 4 (.k (.v (.bool false))))]
def r_Z2_29 : List GI:=[gt 91 14,gt 92 13,gb 93 .neq 91 92]
def r_Z2_30 : List GI:=[gi 4 (.mov 4 (.k (.v (.bool false))))]
def r_Z2_31 : List GI:=[gs 95 2 2,gc 96 17 [.t 95],gs 97 3 2,gc 98 17 [.t 97],gc 99 54 [.t 96,.t 98],gt 94 99,gi 100 (.ext 100 94 0),gi 101 (.ext 101 94 1),gi 15 (.alloc 15 2000015 [I 0,.nul]),g0 (.sto 15 (.t 100) (some 2)),gt 16 101]
def r_Z2_32 : List GI:=[gs 102 15 2,gs 103 6 2,gc 104 20 [.t 102,.t 103],gi 105 (.un 105 UnOp.not (.t 104)),gt 106 105,⟨.mov 107 (.t 16),some 107,some (106,false),false⟩,⟨.mov 108 (.t 7),some 108,some (106,false),false⟩,⟨.beq 109 true (.t 107) (.t 108),some 109,some (106,false),false⟩,gi 110 (.pick 110 (.t 106) (.k (.v (.bool true))) (.t 109))]
def r_Z2_33 : List GI:=[gi 4 (.mov 4 (.k (.v (.bool false))))]
def r_Z2_34 : List GI:=[gk 14 1]
def r_Z2_35 : List GI:=[gs 111 10 2,gt 112 14,gc 113 27 [.t 111,.t 112],gt 14 113]
def r_Z2_36 : List GI:=[gt 114 14,gd 115 .lss 114 0]
def r_Z2_37 : List GI:=[gi 4 (.mov 4 (.k (.v (.bool false))))]
def r_Z2_38 : List GI:=[gt 116 14,gt 117 13,gb 118 .neq 116 117]
def r_Z2_39 : List GI:=[gi 4 (.mov 4 (.k (.v (.bool false))))]
def r_Z2_40 : List GI:=[gi 4 (.mov 4 (.k (.v (.bool true))))]
def dc_Z2 : DC:=.seq (.z r_Z2_0) (.seq (.z r_Z2_1) (.seq (.z r_Z2_2) (.seq (.seq (.z r_Z2_3) (.cond (.t 21) (.seq (.z r_Z2_4) .ret) .skip)) (.seq (.z r_Z2_5) (.seq (.seq (.z r_Z2_6) (.cond (.t 26) (.seq (.z r_Z2_7) .ret) .skip)) (.seq (.reg r_Z2_8 (some [0,1,0,7,15,31,63,63,0,383,1023])) (.seq (.z r_Z2_9) (.seq (.z r_Z2_10) (.seq (.z r_Z2_11) (.seq (.seq (.z r_Z2_12) (.cond (.t 53) (.seq (.z r_Z2_13) .ret) .skip)) (.seq (.seq (.reg r_Z2_14 (some [0,0,2,7,15])) (.cond (.t 58) (.seq (.z r_Z2_15) .ret) .skip)) (.seq (.seq (.reg r_Z2_16 (some [0,0,2,7,15])) (.cond (.t 63) (.seq (.z r_Z2_17) .ret) .skip)) (.seq (.z r_Z2_18) (.seq (.z r_Z2_19) (.seq (.z r_Z2_20) (.seq (.seq (.z r_Z2_21) (.cond (.t 82) (.seq (.z r_Z2_22) .ret) .skip)) (.seq (.z r_Z2_23) (.seq (.z r_Z2_24) (.seq (.z r_Z2_25) (.seq (.z r_Z2_26) (.seq (.seq (.z r_Z2_27) (.cond (.t 90) (.seq (.z r_Z2_28) .ret) .skip)) (.seq (.seq (.z r_Z2_29) (.cond (.t 93) (.seq (.z r_Z2_30) .ret) .skip)) (.seq (.reg r_Z2_31 (some [0,1,0,7,15,31,63,63,0,383,1023])) (.seq (.seq (.z r_Z2_32) (.cond (.t 110) (.seq (.z r_Z2_33) .ret) .skip)) (.seq (.z r_Z2_34) (.seq (.z r_Z2_35) (.seq (.seq (.z r_Z2_36) (.cond (.t 115) (.seq (.z r_Z2_37) .ret) .skip)) (.seq (.seq (.z r_Z2_38) (.cond (.t 118) (.seq (.z r_Z2_39) .ret) .skip)) (.seq (.z r_Z2_40) .ret)))))))))))))))))))))))))))))
theorem c_Z2 : cfun Try.prog [] 13 = some (119,dc_Z2,[(Res.tmp 4)]):=by kernel_rfl
end
end Go.Proofs.Ytedmegmhjmabcaa
