/-
  Functions of the program read as code on plain data. Closed facts of the program alone.
-/
import Derived.KernelRfl
import Derived.Test.YtgpdmgaemhelgaaGreatRows
import Derived.Test.YtgpdmgaemhelgaaGreatJSVBox
import Derived.Test.YtgpdmgaemhelgaaGreatJSVYld
namespace Go.Proofs.YtgpdmgaemhelgaaGreat
open Go.RowKit
noncomputable section
def r_Z129_0 : List GI:=[gi 2 (.box 2 2000002 (.t 0) (some 5)),gi 4 (.mov 4 (.k .nul))]
def r_Z129_1 : List GI:=[gi 12 (.mov 12 (.k .nul)),gt 5 12]
def r_Z129_2 : List GI:=[gi 13 (.mov 13 (.k .nul)),gs 14 2 5,gi 15 (.mov 15 (.k .nul)),gc 16 109 [.t 13,.t 14,.t 15],gt 6 16]
def r_Z129_3 : List GI:=[gk 7 0]
def r_Z129_4 : List GI:=[gt 17 7,gt 18 6,gn 19 18,gb 20 .lss 17 19]
def r_Z129_5 : List GI:=[gk 8 1]
def r_Z129_6 : List GI:=[gt 23 8,gd 24 .leq 23 11]
def r_Z129_7 : List GI:=[gt 27 8,gi 28 (.mov 28 (.k .nul)),gt 29 6,gt 30 7,ga 31 29 30 1,gl 32 31,gi 33 (.app 33 2000033 (.t 28) (.t 32) 1 8),gi 34 (.build 34 [I 0,.nul] [(0,(none,.t 27)),(1,(none,.t 33))]),gi 9 (.alloc 9 2000009 [I 0,.nul]),g0 (.sto 9 (.t 34) (some 2))]
def r_Z129_8 : List GI:=[gs 36 2 5,gt 37 1,gs 38 9 2,gc 39 54 [.t 36,.t 37,.t 38],gt 35 39,gi 40 (.ext 40 35 0),gi 41 (.ext 41 35 1),gi 10 (.alloc 10 2000010 [I 0,I 0,.nul,.nul,.nul]),g0 (.sto 10 (.t 40) (some 5)),gt 11 41]
def r_Z129_9 : List GI:=[gt 42 11]
def r_Z129_10 : List GI:=[gt 43 5,gs 44 9 2,gi 45 (.bsl 45 2 (some 2) [.agg [I 0,.nul]] [(0,.t 44)]),gi 46 (.app 46 2000046 (.t 43) (.t 45) 2 32),gt 5 46]
def r_Z129_11 : List GI:=[gt 25 8,gd 26 .add 25 1,gt 8 26]
def r_Z129_12 : List GI:=[gt 21 7,gd 22 .add 21 1,gt 7 22]
def r_Z129_13 : List GI:=[gt 47 5,gt 4 47]
def dc_Z129 : DC:=.seq (.z r_Z129_0) (.seq (.z r_Z129_1) (.seq (.z r_Z129_2) (.seq (.seq (.z r_Z129_3) (.block 0 (.loop (.seq (.seq (.z r_Z129_4) (.cond (.t 20) .skip (.exit 0))) (.seq (.block 1 (.seq (.z r_Z129_5) (.block 2 (.loop (.seq (.seq (.z r_Z129_6) (.cond (.t 24) .skip (.exit 2))) (.seq (.block 3 (.seq (.z r_Z129_7) (.seq (.z r_Z129_8) (.seq (.z r_Z129_9) (.cond (.t 42) (.z r_Z129_10) .skip))))) (.z r_Z129_11))))))) (.z r_Z129_12)))))) (.seq (.z r_Z129_13) .ret))))
theorem c_Z129 : cfun Tryz.prog [] 60 = some (48,dc_Z129,[(Res.tmp 4)]):=by kernel_rfl
def r_Z34_0 : List GI:=[gi 4 (.alloc 4 2000004 [I 0,I 0,.nul,.nul,.nul])]
def r_Z34_1 : List GI:=[gt 13 0,gi 14 (.nilc 14 13),gf 15 14 0,gl 16 15,gt 5 16]
def r_Z34_2 : List GI:=[gt 17 5,gt 18 0,gi 19 (.nilc 19 18),gf 20 19 1,gl 21 20,gn 22 21,gc 23 65 [.t 17,.t 22],gi 24 (.build 24 [I 0,I 0,.nul,.nul,.nul] [(0,(none,.k (I 1))),(1,(none,.t 23))]),gi 6 (.alloc 6 2000006 [I 0,I 0,.nul,.nul,.nul]),g0 (.sto 6 (.t 24) (some 5))]
def r_Z34_3 : List GI:=[gt 25 1,gd 26 .eql 25 0,gt 27 26,⟨.mov 28 (.t 5),some 28,some (27,false),false⟩,⟨.call 29 65 [.t 28,.k (I 6)],some 29,some (27,false),true⟩,⟨.bin 30 .eql (.t 29) (.k (I 0)),some 30,some (27,false),false⟩,gi 31 (.pick 31 (.t 27) (.k (.v (.bool true))) (.t 30))]
def r_Z34_4 : List GI:=[gs 32 6 5,g0 (.sto 4 (.t 32) (some 5))]
def r_Z34_5 : List GI:=[gt 33 0,gt 34 1,gd 35 .sub 34 1,gc 36 153 [.t 33,.t 35],gi 7 (.alloc 7 2000007 [I 0,I 0,.nul,.nul,.nul]),g0 (.sto 7 (.t 36) (some 5))]
def r_Z34_6 : List GI:=[gs 37 7 5,gt 38 0,gi 39 (.nilc 39 38),gf 40 39 1,gl 41 40,gc 42 95 [.t 37,.t 41,.k (I 8)],gt 8 42]
def r_Z34_7 : List GI:=[gt 43 5,gc 44 65 [.t 43,.k (I 10)]]
def r_Z34_8 : List GI:=[gd 46 .eql 44 0,gt 45 46]
def r_Z34_9 : List GI:=[gd 47 .eql 44 1,gt 45 47]
def r_Z34_10 : List GI:=[gd 48 .eql 44 2,gt 45 48]
def r_Z34_11 : List GI:=[gt 49 5,gt 50 8,gc 51 155 [.t 49,.t 50],gs 52 7 5,gc 53 154 [.t 51,.t 52],g0 (.sto 4 (.t 53) (some 5))]
def r_Z34_12 : List GI:=[gd 55 .eql 44 3,gt 54 55]
def r_Z34_13 : List GI:=[gd 56 .eql 44 4,gt 54 56]
def r_Z34_14 : List GI:=[gi 57 (.mov 57 (.k .nul)),gt 9 57]
def r_Z34_15 : List GI:=[gt 58 5,gc 59 65 [.t 58,.k (I 2)],gi 60 (.bin 60 .add (.k (I 1)) (.t 59)),gt 10 60]
def r_Z34_16 : List GI:=[gt 61 10,gd 62 .gtr 61 0]
def r_Z34_17 : List GI:=[gt 65 9,gt 66 5,gt 67 8,gt 68 5,gc 69 65 [.t 68,.k (I 2)],gc 70 156 [.t 66,.t 67,.t 69],gi 71 (.bsl 71 5 (some 5) [.agg [I 0,I 0,.v (.bool false),I 0,.nul]] [(0,.t 70)]),gi 72 (.app 72 2000072 (.t 65) (.t 71) 5 56),gt 9 72]
def r_Z34_18 : List GI:=[gt 63 10,gd 64 .sub 63 1,gt 10 64]
def r_Z34_19 : List GI:=[gt 73 9,gs 74 7 5,gi 75 (.bsl 75 5 (some 5) [.agg [I 0,I 0,.nul,.nul,.nul]] [(0,.t 74)]),gi 76 (.build 76 [I 0,I 0,.nul,.nul,.nul] [(0,(none,.k (I 3))),(2,(none,.t 73)),(4,(none,.t 75))]),g0 (.sto 4 (.t 76) (some 5))]
def r_Z34_20 : List GI:=[gd 78 .eql 44 5,gt 77 78]
def r_Z34_21 : List GI:=[gd 79 .eql 44 6,gt 77 79]
def r_Z34_22 : List GI:=[gt 80 0,gi 81 (.nilc 81 80),gf 82 81 2,gl 83 82,gd 84 .gtr 83 0,gt 85 84,⟨.mov 86 (.t 8),some 86,some (85,true),false⟩,⟨.bin 87 .leq (.t 86) (.k (I 4)),some 87,some (85,true),false⟩,gi 88 (.pick 88 (.t 85) (.t 87) (.k (.v (.bool false))))]
def r_Z34_23 : List GI:=[gt 89 0,gt 90 0,gi 91 (.nilc 91 90),gf 92 91 2,gl 93 92,gd 94 .sub 93 1,gi 95 (.nilc 95 89),gf 96 95 2,g0 (.sto 96 (.t 94) none)]
def r_Z34_24 : List GI:=[gt 97 0,gt 98 5,gc 99 65 [.t 98,.k (I 2)],gc 100 153 [.t 97,.t 99],gi 11 (.alloc 11 2000011 [I 0,I 0,.nul,.nul,.nul]),g0 (.sto 11 (.t 100) (some 5))]
def r_Z34_25 : List GI:=[gt 101 8,gs 102 11 5,gt 103 0,gi 104 (.nilc 104 103),gf 105 104 1,gl 106 105,gc 107 95 [.t 102,.t 106,.k (I 8)],gb 108 .add 101 107,gt 12 108]
def r_Z34_26 : List GI:=[gt 109 12,gd 110 .leq 109 6]
def r_Z34_27 : List GI:=[gt 111 5,gi 112 (.bsl 112 1 none [I 0,I 0] [(0,.k (I 4)),(1,.k (I 5))]),gc 113 82 [.t 111,.t 112],gt 114 5,gt 115 12,gc 116 155 [.t 114,.t 115],gi 117 (.bsl 117 5 (some 5) [.agg [I 0,I 0,.v (.bool false),I 0,.nul]] [(0,.t 116)]),gs 118 7 5,gs 119 11 5,gi 120 (.bsl 120 5 (some 5) [.agg [I 0,I 0,.nul,.nul,.nul],.agg [I 0,I 0,.nul,.nul,.nul]] [(0,.t 118),(1,.t 119)]),gi 121 (.build 121 [I 0,I 0,.nul,.nul,.nul] [(0,(none,.t 113)),(2,(none,.t 117)),(4,(none,.t 120))]),g0 (.sto 4 (.t 121) (some 5))]
def r_Z34_28 : List GI:=[gd 123 .eql 44 7,gt 122 123]
def r_Z34_29 : List GI:=[gt 124 0,gi 125 (.nilc 125 124),gf 126 125 3,gl 127 126,gd 128 .gtr 127 0]
def r_Z34_30 : List GI:=[gt 129 0,gt 130 0,gi 131 (.nilc 131 130),gf 132 131 3,gl 133 132,gd 134 .sub 133 1,gi 135 (.nilc 135 129),gf 136 135 3,g0 (.sto 136 (.t 134) none)]
def r_Z34_31 : List GI:=[gs 137 7 5,gt 138 5,gt 139 8,gc 140 155 [.t 138,.t 139],gs 141 7 5,gc 142 64 [.t 141],gc 143 154 [.t 140,.t 142],gi 144 (.bsl 144 5 (some 5) [.agg [I 0,I 0,.nul,.nul,.nul],.agg [I 0,I 0,.nul,.nul,.nul]] [(0,.t 137),(1,.t 143)]),gi 145 (.build 145 [I 0,I 0,.nul,.nul,.nul] [(0,(none,.k (I 6))),(4,(none,.t 144))]),g0 (.sto 4 (.t 145) (some 5))]
def r_Z34_32 : List GI:=[gd 147 .eql 44 8,gt 146 147]
def r_Z34_33 : List GI:=[gs 148 7 5,gi 149 (.bsl 149 5 (some 5) [.agg [I 0,I 0,.nul,.nul,.nul]] [(0,.t 148)]),gi 150 (.build 150 [I 0,I 0,.nul,.nul,.nul] [(0,(none,.k (I 7))),(4,(none,.t 149))]),g0 (.sto 4 (.t 150) (some 5))]
def r_Z34_34 : List GI:=[gd 152 .eql 44 9,gt 151 152]
def r_Z34_35 : List GI:=[gt 153 8,gd 154 .gtr 153 1]
def r_Z34_36 : List GI:=[gt 155 5,gt 156 8,gc 157 65 [.t 155,.t 156],gi 158 (.bsl 158 1 none [I 0] [(0,.t 157)]),gs 159 7 5,gi 160 (.bsl 160 5 (some 5) [.agg [I 0,I 0,.nul,.nul,.nul]] [(0,.t 159)]),gi 161 (.build 161 [I 0,I 0,.nul,.nul,.nul] [(0,(none,.k (I 8))),(3,(none,.t 158)),(4,(none,.t 160))]),g0 (.sto 4 (.t 161) (some 5))]
def r_Z34_37 : List GI:=[gs 162 7 5,gi 163 (.bsl 163 5 (some 5) [.agg [I 0,I 0,.nul,.nul,.nul]] [(0,.t 162)]),gi 164 (.build 164 [I 0,I 0,.nul,.nul,.nul] [(0,(none,.k (I 8))),(4,(none,.t 163))]),g0 (.sto 4 (.t 164) (some 5))]
def r_Z34_38 : List GI:=[gt 165 5,gt 166 8,gc 167 155 [.t 165,.t 166],gs 168 7 5,gc 169 154 [.t 167,.t 168],g0 (.sto 4 (.t 169) (some 5))]
def dc_Z34 : DC:=.seq (.z r_Z34_0) (.seq (.z r_Z34_1) (.seq (.z r_Z34_2) (.seq (.seq (.z r_Z34_3) (.cond (.t 31) (.seq (.z r_Z34_4) .ret) .skip)) (.seq (.z r_Z34_5) (.seq (.reg r_Z34_6 (some [0,0,2,6,14,31,63])) (.seq (.seq (.z r_Z34_7) (.block 0 (.seq (.seq (.z r_Z34_8) (.cond (.t 45) .skip (.seq (.z r_Z34_9) (.cond (.t 45) .skip (.z r_Z34_10))))) (.cond (.t 45) (.seq (.reg r_Z34_11 (some [0,0,3,0,15,31])) .ret) (.seq (.seq (.z r_Z34_12) (.cond (.t 54) .skip (.z r_Z34_13))) (.cond (.t 54) (.seq (.z r_Z34_14) (.seq (.seq (.z r_Z34_15) (.block 1 (.loop (.seq (.seq (.z r_Z34_16) (.cond (.t 62) .skip (.exit 1))) (.seq (.block 2 (.z r_Z34_17)) (.z r_Z34_18)))))) (.seq (.z r_Z34_19) .ret))) (.seq (.seq (.z r_Z34_20) (.cond (.t 77) .skip (.z r_Z34_21))) (.cond (.t 77) (.seq (.z r_Z34_22) (.cond (.t 88) (.seq (.z r_Z34_23) (.seq (.z r_Z34_24) (.seq (.reg r_Z34_25 (some [0,0,0,4,12,28,62,127,255])) (.seq (.z r_Z34_26) (.cond (.t 110) (.seq (.reg r_Z34_27 (some [0,0,3,0,0,31,63,0,0,384,1023,2047])) .ret) .skip))))) .skip)) (.seq (.z r_Z34_28) (.cond (.t 122) (.seq (.z r_Z34_29) (.cond (.t 128) (.seq (.z r_Z34_30) (.seq (.reg r_Z34_31 (some [0,0,0,6,0,30,62,127,255,511])) .ret)) .skip)) (.seq (.z r_Z34_32) (.cond (.t 146) (.seq (.z r_Z34_33) .ret) (.seq (.z r_Z34_34) (.cond (.t 151) (.seq (.seq (.z r_Z34_35) (.cond (.t 154) (.seq (.reg r_Z34_36 (some [0,0,3,7,0,16,63,127])) .ret) .skip)) (.seq (.z r_Z34_37) .ret)) .skip)))))))))))))) (.seq (.reg r_Z34_38 (some [0,0,3,0,15,31])) .ret)))))))
theorem c_Z34 : cfun Tryz.prog [] 153 = some (170,dc_Z34,[(Res.cell 4 (some 5))]):=by kernel_rfl
def r_Z102_0 : List GI:=[gi 2 (.box 2 2000002 (.t 0) (some 5)),gi 3 (.box 3 2000003 (.t 1) (some 5)),gi 4 (.alloc 4 2000004 [I 0,I 0,.nul,.nul,.nul])]
def r_Z102_1 : List GI:=[gs 5 2 5,gi 6 (.bslx 6 2000006 5 (some 5) [.agg [I 0,I 0,.v (.bool false),I 0,.nul]] [(0,.t 5)]),gs 7 3 5,gi 8 (.bsl 8 5 (some 5) [.agg [I 0,I 0,.nul,.nul,.nul]] [(0,.t 7)]),gi 9 (.build 9 [I 0,I 0,.nul,.nul,.nul] [(0,(none,.k (I 2))),(2,(none,.t 6)),(4,(none,.t 8))]),g0 (.sto 4 (.t 9) (some 5))]
def dc_Z102 : DC:=.seq (.z r_Z102_0) (.seq (.z r_Z102_1) .ret)
theorem c_Z102 : cfun Tryz.prog [6] 154 = some (10,dc_Z102,[(Res.cell 4 (some 5))]):=by kernel_rfl
end
end Go.Proofs.YtgpdmgaemhelgaaGreat
namespace Go.Proofs.YtgpdmgaemhelgaaGreat
open Go.RowKit
noncomputable section
def r_Z77_0 : List GI:=[gi 4 (.mov 4 (.k (.v (.bool false))))]
def r_Z77_1 : List GI:=[gt 6 0,gn 7 6,gt 8 1,gn 9 8,gb 10 .neq 7 9]
def r_Z77_2 : List GI:=[gi 4 (.mov 4 (.k (.v (.bool false))))]
def r_Z77_3 : List GI:=[gk 5 0]
def r_Z77_4 : List GI:=[gt 11 5,gt 12 0,gn 13 12,gb 14 .lss 11 13]
def r_Z77_5 : List GI:=[gt 17 0,gt 18 5,ga 19 17 18 2,gf 20 19 0,gl 21 20,gt 22 1,gt 23 5,ga 24 22 23 2,gf 25 24 0,gl 26 25,gb 27 .neq 21 26,gt 28 27,⟨.mov 29 (.t 0),some 29,some (28,false),false⟩,⟨.mov 30 (.t 5),some 30,some (28,false),false⟩,⟨.iad 31 29 (.t 30) 2,some 31,some (28,false),false⟩,⟨.fad 32 31 1,some 32,some (28,false),false⟩,⟨.lod 33 32 none,some 33,some (28,false),false⟩,⟨.mov 34 (.t 1),some 34,some (28,false),false⟩,⟨.mov 35 (.t 5),some 35,some (28,false),false⟩,⟨.iad 36 34 (.t 35) 2,some 36,some (28,false),false⟩,⟨.fad 37 36 1,some 37,some (28,false),false⟩,⟨.lod 38 37 none,some 38,some (28,false),false⟩,⟨.call 39 20 [.t 33,.t 38],some 39,some (28,false),true⟩,⟨.un 40 UnOp.not (.t 39),some 40,some (28,false),false⟩,gi 41 (.pick 41 (.t 28) (.k (.v (.bool true))) (.t 40))]
def r_Z77_6 : List GI:=[gi 4 (.mov 4 (.k (.v (.bool false))))]
def r_Z77_7 : List GI:=[gt 15 5,gd 16 .add 15 1,gt 5 16]
def r_Z77_8 : List GI:=[gi 4 (.mov 4 (.k (.v (.bool true))))]
def dc_Z77 : DC:=.seq (.z r_Z77_0) (.seq (.seq (.z r_Z77_1) (.cond (.t 10) (.seq (.z r_Z77_2) .ret) .skip)) (.seq (.seq (.z r_Z77_3) (.block 0 (.loop (.seq (.seq (.z r_Z77_4) (.cond (.t 14) .skip (.exit 0))) (.seq (.block 1 (.seq (.reg r_Z77_5 (some [0,0,3,7,15,0,0,96,224,480,1023,2047,4095,4095,16383,32767,65535,4095,4095,397311,921599,1970175,4194303,8388607,16777215])) (.cond (.t 41) (.seq (.z r_Z77_6) .ret) .skip))) (.z r_Z77_7)))))) (.seq (.z r_Z77_8) .ret)))
theorem c_Z77 : cfun Tryz.prog [] 23 = some (42,dc_Z77,[(Res.tmp 4)]):=by kernel_rfl
end
end Go.Proofs.YtgpdmgaemhelgaaGreat
