/-
  Functions of the program read as code on plain data. Closed facts of the program alone.
-/
import Derived.KernelRfl
import Derived.Test.YtgpdmgaemhelgaaGreatRows
import Derived.Test.YtgpdmgaemhelgaaGreatJSVCall
namespace Go.Proofs.YtgpdmgaemhelgaaGreat
open Go.RowKit
noncomputable section
def r_Z21_0 : List GI:=[gi 2 (.mov 2 (.k (.v (.bool false))))]
def r_Z21_1 : List GI:=[gt 17 0,gn 18 17,gd 19 .gtr 18 1048576]
def r_Z21_2 : List GI:=[gi 2 (.mov 2 (.k (.v (.bool true))))]
def r_Z21_3 : List GI:=[gt 21 0,gc 22 15 [.t 21],gt 20 22,gi 23 (.ext 23 20 0),gi 24 (.ext 24 20 1),gi 25 (.ext 25 20 2),gi 3 (.alloc 3 2000003 [I 0,I 0,.nul,.nul,.nul]),gi 5 (.alloc 5 2000005 [I 0,.nul]),g0 (.sto 3 (.t 23) (some 5)),gt 4 24,g0 (.sto 5 (.t 25) (some 2))]
def r_Z21_4 : List GI:=[gs 27 3 5,gt 28 4,gi 29 (.build 29 [I 0,.nul] [(0,(none,.k (I 6)))]),gc 30 16 [.t 27,.t 28,.t 29],gt 26 30,gi 31 (.ext 31 26 0),gi 32 (.ext 32 26 1),gi 6 (.alloc 6 2000006 [I 0,I 0,.nul,.nul,.nul]),g0 (.sto 6 (.t 31) (some 5)),gt 7 32]
def r_Z21_5 : List GI:=[gs 34 3 5,gt 35 4,gi 36 (.build 36 [I 0,.nul] [(0,(none,.k (I 6)))]),gc 37 17 [.t 34,.t 35,.t 36],gt 33 37,gi 38 (.ext 38 33 0),gi 39 (.ext 39 33 1),gi 8 (.alloc 8 2000008 [I 0,I 0,.nul,.nul,.nul]),g0 (.sto 8 (.t 38) (some 5)),gt 9 39]
def r_Z21_6 : List GI:=[gt 40 7,gt 41 9,gi 42 (.beq 42 true (.t 40) (.t 41)),gt 43 42,⟨.lod 44 6 (some 5),some 44,some (43,false),false⟩,⟨.lod 45 8 (some 5),some 45,some (43,false),false⟩,⟨.call 46 18 [.t 44,.t 45],some 46,some (43,false),true⟩,⟨.un 47 UnOp.not (.t 46),some 47,some (43,false),false⟩,gi 48 (.pick 48 (.t 43) (.k (.v (.bool true))) (.t 47)),gt 49 48,⟨.mov 50 (.t 7),some 50,some (49,false),false⟩,⟨.un 51 UnOp.not (.t 50),some 51,some (49,false),false⟩,gi 52 (.pick 52 (.t 49) (.k (.v (.bool true))) (.t 51))]
def r_Z21_7 : List GI:=[gs 54 3 5,gt 55 4,gs 56 5 2,gc 57 16 [.t 54,.t 55,.t 56],gt 53 57,gi 58 (.ext 58 53 0),gi 59 (.ext 59 53 1),gi 10 (.alloc 10 2000010 [I 0,I 0,.nul,.nul,.nul]),g0 (.sto 10 (.t 58) (some 5)),gt 11 59]
def r_Z21_8 : List GI:=[gs 61 3 5,gt 62 4,gs 63 5 2,gc 64 17 [.t 61,.t 62,.t 63],gt 60 64,gi 65 (.ext 65 60 0),gi 66 (.ext 66 60 1),gi 12 (.alloc 12 2000012 [I 0,I 0,.nul,.nul,.nul]),g0 (.sto 12 (.t 65) (some 5)),gt 13 66]
def r_Z21_9 : List GI:=[gt 67 7,gt 68 9,gi 69 (.beq 69 false (.t 67) (.t 68)),gt 70 69,⟨.lod 71 6 (some 5),some 71,some (70,true),false⟩,⟨.lod 72 8 (some 5),some 72,some (70,true),false⟩,⟨.call 73 18 [.t 71,.t 72],some 73,some (70,true),true⟩,gi 74 (.pick 74 (.t 70) (.t 73) (.k (.v (.bool false)))),gt 75 74,⟨.mov 76 (.t 11),some 76,some (75,true),false⟩,⟨.mov 77 (.t 13),some 77,some (75,true),false⟩,⟨.beq 78 false (.t 76) (.t 77),some 78,some (75,true),false⟩,gi 79 (.pick 79 (.t 75) (.t 78) (.k (.v (.bool false)))),gt 2 79]
def r_Z21_10 : List GI:=[gs 81 6 5,gt 82 4,gi 83 (.bsl 83 1 none [I 0] [(0,.k (I 0))]),gi 84 (.build 84 [I 0,.nul] [(0,(none,.k (I 6))),(1,(none,.t 83))]),gc 85 16 [.t 81,.t 82,.t 84],gt 80 85,gi 86 (.ext 86 80 0),gi 87 (.ext 87 80 1),gi 14 (.alloc 14 2000014 [I 0,I 0,.nul,.nul,.nul]),g0 (.sto 14 (.t 86) (some 5)),gt 15 87]
def r_Z21_11 : List GI:=[gs 88 14 5,gc 89 26 [.t 88,.k (I 0)],gc 90 26 [.t 89,.k (I 0)],gi 16 (.alloc 16 2000016 [I 0,I 0,.nul,.nul,.nul]),g0 (.sto 16 (.t 90) (some 5))]
def r_Z21_12 : List GI:=[gf 91 6 0,gl 92 91,gd 93 .eql 92 3,gt 94 93,⟨.lod 95 6 (some 5),some 95,some (94,true),false⟩,⟨.call 96 26 [.t 95,.k (I 0)],some 96,some (94,true),true⟩,⟨.call 97 26 [.t 96,.k (I 0)],some 97,some (94,true),true⟩,⟨.fad 98 3 4,some 98,some (94,true),false⟩,⟨.lod 99 98 none,some 99,some (94,true),false⟩,⟨.iad 100 99 (.k (I 1)) 5,some 100,some (94,true),false⟩,⟨.lod 101 100 (some 5),some 101,some (94,true),false⟩,⟨.call 102 18 [.t 97,.t 101],some 102,some (94,true),true⟩,gi 103 (.pick 103 (.t 94) (.t 102) (.k (.v (.bool false)))),gt 104 103,⟨.mov 105 (.t 15),some 105,some (104,true),false⟩,⟨.un 106 UnOp.not (.t 105),some 106,some (104,true),false⟩,⟨.mov 107 (.t 106),some 107,some (104,true),false⟩,⟨.lod 108 16 (some 5),some 108,some (107,false),false⟩,⟨.call 109 26 [.t 108,.k (I 0)],some 109,some (107,false),true⟩,⟨.fad 110 3 4,some 110,some (107,false),false⟩,⟨.lod 111 110 none,some 111,some (107,false),false⟩,⟨.iad 112 111 (.k (I 0)) 5,some 112,some (107,false),false⟩,⟨.lod 113 112 (some 5),some 113,some (107,false),false⟩,⟨.call 114 18 [.t 109,.t 113],some 114,some (107,false),true⟩,⟨.mov 115 (.t 114),some 115,some (107,false),false⟩,⟨.fad 116 16 2,some 116,some (115,true),false⟩,⟨.lod 117 116 none,some 117,some (115,true),false⟩,⟨.fad 118 3 2,some 118,some (115,true),false⟩,⟨.lod 119 118 none,some 119,some (115,true),false⟩,⟨.call 120 27 [.t 117,.t 119],some 120,some (115,true),true⟩,⟨.pick 121 (.t 115) (.t 120) (.k (.v (.bool false))),some 121,some (107,false),false⟩,⟨.pick 122 (.t 107) (.k (.v (.bool true))) (.t 121),some 122,some (104,true),false⟩,gi 123 (.pick 123 (.t 104) (.t 122) (.k (.v (.bool false)))),gt 2 123]
def dc_Z21 : DC:=.seq (.z r_Z21_0) (.seq (.seq (.z r_Z21_1) (.cond (.t 19) (.seq (.z r_Z21_2) .ret) .skip)) (.seq (.z r_Z21_3) (.seq (.z r_Z21_4) (.seq (.z r_Z21_5) (.seq (.seq (.z r_Z21_6) (.cond (.t 52) (.seq (.z r_Z21_7) (.seq (.z r_Z21_8) (.seq (.z r_Z21_9) .ret))) .skip)) (.seq (.z r_Z21_10) (.seq (.z r_Z21_11) (.seq (.reg r_Z21_12 (some [0,1,3,7,15,31,63,15,143,399,911,2047,4095,8191,16383,32767,65535,131071,262143,131071,655359,1703935,3801087,8388607,16777215,33554431,67108863,33554431,167772159,536870911,1073741823,2147483647,4294967295,8589934591])) .ret))))))))
theorem c_Z21 : cfun Tryz.prog [] 7 = some (124,dc_Z21,[(Res.tmp 2)]):=by kernel_rfl
def r_Z144_0 : List GI:=[gi 2 (.box 2 2000002 (.t 0) (some 5)),gi 4 (.alloc 4 2000004 [I 0,I 0,.nul,.nul,.nul])]
def r_Z144_1 : List GI:=[gt 5 1,gf 6 2 4,gl 7 6,gn 8 7,gb 9 .geq 5 8]
def r_Z144_2 : List GI:=[gi 10 (.build 10 [I 0,I 0,.nul,.nul,.nul] []),g0 (.sto 4 (.t 10) (some 5))]
def r_Z144_3 : List GI:=[gf 11 2 4,gl 12 11,gt 13 1,ga 14 12 13 5,gs 15 14 5,g0 (.sto 4 (.t 15) (some 5))]
def dc_Z144 : DC:=.seq (.z r_Z144_0) (.seq (.seq (.z r_Z144_1) (.cond (.t 9) (.seq (.z r_Z144_2) .ret) .skip)) (.seq (.z r_Z144_3) .ret))
theorem c_Z144 : cfun Tryz.prog [] 26 = some (16,dc_Z144,[(Res.cell 4 (some 5))]):=by kernel_rfl
end
end Go.Proofs.YtgpdmgaemhelgaaGreat
