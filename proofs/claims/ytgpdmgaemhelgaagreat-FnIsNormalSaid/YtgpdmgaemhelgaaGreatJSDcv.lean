/-
  Functions of the program read as code on plain data. Closed facts of the program alone.
-/
import Derived.KernelRfl
import Derived.Test.YtgpdmgaemhelgaaGreatRows
import Derived.Test.YtgpdmgaemhelgaaGreatJSVBox
import Derived.Test.YtgpdmgaemhelgaaGreatJSVYld
namespace Go.Proofs.YtgpdmgaemhelgaaGreat
open Go.RowKit
noncomputable section
def r_Z142_0 : List GI:=[gi 2 (.box 2 2000002 (.t 0) (some 5)),gi 4 (.mov 4 (.k .nul))]
def r_Z142_1 : List GI:=[gi 12 (.mov 12 (.k .nul)),gt 5 12]
def r_Z142_2 : List GI:=[gi 13 (.mov 13 (.k .nul)),gs 14 2 5,gi 15 (.mov 15 (.k .nul)),gc 16 109 [.t 13,.t 14,.t 15],gt 6 16]
def r_Z142_3 : List GI:=[gk 7 0]
def r_Z142_4 : List GI:=[gt 17 7,gt 18 6,gn 19 18,gb 20 .lss 17 19]
def r_Z142_5 : List GI:=[gk 8 1]
def r_Z142_6 : List GI:=[gt 23 8,gd 24 .leq 23 11]
def r_Z142_7 : List GI:=[gt 27 8,gi 28 (.mov 28 (.k .nul)),gt 29 6,gt 30 7,ga 31 29 30 1,gl 32 31,gi 33 (.app 33 2000033 (.t 28) (.t 32) 1 8),gi 34 (.build 34 [I 0,.nul] [(0,(none,.t 27)),(1,(none,.t 33))]),gi 9 (.alloc 9 2000009 [I 0,.nul]),g0 (.sto 9 (.t 34) (some 2))]
def r_Z142_8 : List GI:=[gs 36 2 5,gt 37 1,gs 38 9 2,gc 39 54 [.t 36,.t 37,.t 38],gt 35 39,gi 40 (.ext 40 35 0),gi 41 (.ext 41 35 1),gi 10 (.alloc 10 2000010 [I 0,I 0,.nul,.nul,.nul]),g0 (.sto 10 (.t 40) (some 5)),gt 11 41]
def r_Z142_9 : List GI:=[gt 42 11]
def r_Z142_10 : List GI:=[gt 43 5,gs 44 9 2,gi 45 (.bsl 45 2 (some 2) [.agg [I 0,.nul]] [(0,.t 44)]),gi 46 (.app 46 2000046 (.t 43) (.t 45) 2 32),gt 5 46]
def r_Z142_11 : List GI:=[gt 25 8,gd 26 .add 25 1,gt 8 26]
def r_Z142_12 : List GI:=[gt 21 7,gd 22 .add 21 1,gt 7 22]
def r_Z142_13 : List GI:=[gt 47 5,gt 4 47]
def dc_Z142 : DC:=.seq (.z r_Z142_0) (.seq (.z r_Z142_1) (.seq (.z r_Z142_2) (.seq (.seq (.z r_Z142_3) (.block 0 (.loop (.seq (.seq (.z r_Z142_4) (.cond (.t 20) .skip (.exit 0))) (.seq (.block 1 (.seq (.z r_Z142_5) (.block 2 (.loop (.seq (.seq (.z r_Z142_6) (.cond (.t 24) .skip (.exit 2))) (.seq (.block 3 (.seq (.z r_Z142_7) (.seq (.z r_Z142_8) (.seq (.z r_Z142_9) (.cond (.t 42) (.z r_Z142_10) .skip))))) (.z r_Z142_11))))))) (.z r_Z142_12)))))) (.seq (.z r_Z142_13) .ret))))
theorem c_Z142 : cfun Tryz.prog [] 60 = some (48,dc_Z142,[(Res.tmp 4)]):=by kernel_rfl
def r_Z14_0 : List GI:=[gi 4 (.box 4 2000004 (.t 1) (some 5)),gi 6 (.alloc 6 2000006 [I 0,I 0,.nul,.nul,.nul]),gi 7 (.mov 7 (.k (.v (.bool false))))]
def r_Z14_1 : List GI:=[gt 12 0,gn 13 12,gd 14 .gtr 13 40,gt 15 14,⟨.lod 16 4 (some 5),some 16,some (15,false),false⟩,⟨.mov 17 (.t 2),some 17,some (15,false),false⟩,⟨.call 18 19 [.t 16,.t 17],some 18,some (15,false),true⟩,⟨.bin 19 .eql (.t 18) (.k (I 0)),some 19,some (15,false),false⟩,gi 20 (.pick 20 (.t 15) (.k (.v (.bool true))) (.t 19))]
def r_Z14_2 : List GI:=[gi 21 (.build 21 [I 0,I 0,.nul,.nul,.nul] []),g0 (.sto 6 (.t 21) (some 5)),gi 7 (.mov 7 (.k (.v (.bool false))))]
def r_Z14_3 : List GI:=[gt 22 0,gn 23 22,gk 24 0]
def r_Z14_4 : List GI:=[gb 25 .lss 24 23]
def r_Z14_5 : List GI:=[ga 26 22 24 2,gs 27 26 2,gi 9 (.alloc 9 2000009 [I 0,.nul]),g0 (.sto 9 (.t 27) (some 2))]
def r_Z14_6 : List GI:=[gs 29 9 2,gs 30 4 5,gt 31 2,gc 32 51 [.t 29,.t 30,.t 31],gt 28 32,gi 33 (.ext 33 28 0),gi 34 (.ext 34 28 1),gi 10 (.alloc 10 2000010 [I 0,I 0,.nul,.nul,.nul]),g0 (.sto 10 (.t 33) (some 5)),gt 11 34]
def r_Z14_7 : List GI:=[gt 35 11,gi 36 (.un 36 UnOp.not (.t 35))]
def r_Z14_8 : List GI:=[gi 37 (.build 37 [I 0,I 0,.nul,.nul,.nul] []),g0 (.sto 6 (.t 37) (some 5)),gi 7 (.mov 7 (.k (.v (.bool false))))]
def r_Z14_9 : List GI:=[gs 38 10 5,g0 (.sto 4 (.t 38) (some 5))]
def r_Z14_10 : List GI:=[gd 39 .add 24 1,gt 24 39]
def r_Z14_11 : List GI:=[gs 40 4 5,g0 (.sto 6 (.t 40) (some 5)),gi 7 (.mov 7 (.k (.v (.bool true))))]
def dc_Z14 : DC:=.seq (.z r_Z14_0) (.seq (.seq (.z r_Z14_1) (.cond (.t 20) (.seq (.z r_Z14_2) .ret) .skip)) (.seq (.seq (.z r_Z14_3) (.block 0 (.loop (.seq (.z r_Z14_4) (.seq (.cond (.t 25) .skip (.exit 0)) (.seq (.block 1 (.seq (.z r_Z14_5) (.seq (.z r_Z14_6) (.seq (.seq (.z r_Z14_7) (.cond (.t 36) (.seq (.z r_Z14_8) .ret) .skip)) (.z r_Z14_9))))) (.z r_Z14_10))))))) (.seq (.z r_Z14_11) .ret)))
theorem c_Z14 : cfun Tryz.prog [] 63 = some (41,dc_Z14,[(Res.cell 6 (some 5)),(Res.tmp 7)]):=by kernel_rfl
def r_Z41_0 : List GI:=[gi 4 (.alloc 4 2000004 [I 0,I 0,.nul,.nul,.nul])]
def r_Z41_1 : List GI:=[gt 13 0,gi 14 (.nilc 14 13),gf 15 14 0,gl 16 15,gt 5 16]
def r_Z41_2 : List GI:=[gt 17 5,gt 18 0,gi 19 (.nilc 19 18),gf 20 19 1,gl 21 20,gn 22 21,gc 23 65 [.t 17,.t 22],gi 24 (.build 24 [I 0,I 0,.nul,.nul,.nul] [(0,(none,.k (I 1))),(1,(none,.t 23))]),gi 6 (.alloc 6 2000006 [I 0,I 0,.nul,.nul,.nul]),g0 (.sto 6 (.t 24) (some 5))]
def r_Z41_3 : List GI:=[gt 25 1,gd 26 .eql 25 0,gt 27 26,⟨.mov 28 (.t 5),some 28,some (27,false),false⟩,⟨.call 29 65 [.t 28,.k (I 6)],some 29,some (27,false),true⟩,⟨.bin 30 .eql (.t 29) (.k (I 0)),some 30,some (27,false),false⟩,gi 31 (.pick 31 (.t 27) (.k (.v (.bool true))) (.t 30))]
def r_Z41_4 : List GI:=[gs 32 6 5,g0 (.sto 4 (.t 32) (some 5))]
def r_Z41_5 : List GI:=[gt 33 0,gt 34 1,gd 35 .sub 34 1,gc 36 153 [.t 33,.t 35],gi 7 (.alloc 7 2000007 [I 0,I 0,.nul,.nul,.nul]),g0 (.sto 7 (.t 36) (some 5))]
def r_Z41_6 : List GI:=[gs 37 7 5,gt 38 0,gi 39 (.nilc 39 38),gf 40 39 1,gl 41 40,gc 42 95 [.t 37,.t 41,.k (I 8)],gt 8 42]
def r_Z41_7 : List GI:=[gt 43 5,gc 44 65 [.t 43,.k (I 10)]]
def r_Z41_8 : List GI:=[gd 46 .eql 44 0,gt 45 46]
def r_Z41_9 : List GI:=[gd 47 .eql 44 1,gt 45 47]
def r_Z41_10 : List GI:=[gd 48 .eql 44 2,gt 45 48]
def r_Z41_11 : List GI:=[gt 49 5,gt 50 8,gc 51 155 [.t 49,.t 50],gs 52 7 5,gc 53 154 [.t 51,.t 52],g0 (.sto 4 (.t 53) (some 5))]
def r_Z41_12 : List GI:=[gd 55 .eql 44 3,gt 54 55]
def r_Z41_13 : List GI:=[gd 56 .eql 44 4,gt 54 56]
def r_Z41_14 : List GI:=[gi 57 (.mov 57 (.k .nul)),gt 9 57]
def r_Z41_15 : List GI:=[gt 58 5,gc 59 65 [.t 58,.k (I 2)],gi 60 (.bin 60 .add (.k (I 1)) (.t 59)),gt 10 60]
def r_Z41_16 : List GI:=[gt 61 10,gd 62 .gtr 61 0]
def r_Z41_17 : List GI:=[gt 65 9,gt 66 5,gt 67 8,gt 68 5,gc 69 65 [.t 68,.k (I 2)],gc 70 156 [.t 66,.t 67,.t 69],gi 71 (.bsl 71 5 (some 5) [.agg [I 0,I 0,.v (.bool false),I 0,.nul]] [(0,.t 70)]),gi 72 (.app 72 2000072 (.t 65) (.t 71) 5 56),gt 9 72]
def r_Z41_18 : List GI:=[gt 63 10,gd 64 .sub 63 1,gt 10 64]
def r_Z41_19 : List GI:=[gt 73 9,gs 74 7 5,gi 75 (.bsl 75 5 (some 5) [.agg [I 0,I 0,.nul,.nul,.nul]] [(0,.t 74)]),gi 76 (.build 76 [I 0,I 0,.nul,.nul,.nul] [(0,(none,.k (I 3))),(2,(none,.t 73)),(4,(none,.t 75))]),g0 (.sto 4 (.t 76) (some 5))]
def r_Z41_20 : List GI:=[gd 78 .eql 44 5,gt 77 78]
def r_Z41_21 : List GI:=[gd 79 .eql 44 6,gt 77 79]
def r_Z41_22 : List GI:=[gt 80 0,gi 81 (.nilc 81 80),gf 82 81 2,gl 83 82,gd 84 .gtr 83 0,gt 85 84,⟨.mov 86 (.t 8),some 86,some (85,true),false⟩,⟨.bin 87 .leq (.t 86) (.k (I 4)),some 87,some (85,true),false⟩,gi 88 (.pick 88 (.t 85) (.t 87) (.k (.v (.bool false))))]
def r_Z41_23 : List GI:=[gt 89 0,gt 90 0,gi 91 (.nilc 91 90),gf 92 91 2,gl 93 92,gd 94 .sub 93 1,gi 95 (.nilc 95 89),gf 96 95 2,g0 (.sto 96 (.t 94) none)]
def r_Z41_24 : List GI:=[gt 97 0,gt 98 5,gc 99 65 [.t 98,.k (I 2)],gc 100 153 [.t 97,.t 99],gi 11 (.alloc 11 2000011 [I 0,I 0,.nul,.nul,.nul]),g0 (.sto 11 (.t 100) (some 5))]
def r_Z41_25 : List GI:=[gt 101 8,gs 102 11 5,gt 103 0,gi 104 (.nilc 104 103),gf 105 104 1,gl 106 105,gc 107 95 [.t 102,.t 106,.k (I 8)],gb 108 .add 101 107,gt 12 108]
def r_Z41_26 : List GI:=[gt 109 12,gd 110 .leq 109 6]
def r_Z41_27 : List GI:=[gt 111 5,gi 112 (.bsl 112 1 none [I 0,I 0] [(0,.k (I 4)),(1,.k (I 5))]),gc 113 82 [.t 111,.t 112],gt 114 5,gt 115 12,gc 116 155 [.t 114,.t 115],gi 117 (.bsl 117 5 (some 5) [.agg [I 0,I 0,.v (.bool false),I 0,.nul]] [(0,.t 116)]),gs 118 7 5,gs 119 11 5,gi 120 (.bsl 120 5 (some 5) [.agg [I 0,I 0,.nul,.nul,.nul],.agg [I 0,I 0,.nul,.nul,.nul]] [(0,.t 118),(1,.t 119)]),gi 121 (.build 121 [I 0,I 0,.nul,.nul,.nul] [(0,(none,.t 113)),(2,(none,.t 117)),(4,(none,.t 120))]),g0 (.sto 4 (.t 121) (some 5))]
def r_Z41_28 : List GI:=[gd 123 .eql 44 7,gt 122 123]
def r_Z41_29 : List GI:=[gt 124 0,gi 125 (.nilc 125 124),gf 126 125 3,gl 127 126,gd 128 .gtr 127 0]
def r_Z41_30 : List GI:=[gt 129 0,gt 130 0,gi 131 (.nilc 131 130),gf 132 131 3,gl 133 132,gd 134 .sub 133 1,gi 135 (.nilc 135 129),gf 136 135 3,g0 (.sto 136 (.t 134) none)]
def r_Z41_31 : List GI:=[gs 137 7 5,gt 138 5,gt 139 8,gc 140 155 [.t 138,.t 139],gs 141 7 5,gc 142 64 [.t 141],gc 143 154 [.t 140,.t 142],gi 144 (.bsl 144 5 (some 5) [.agg [I 0,I 0,.nul,.nul,.nul],.agg [I 0,I 0,.nul,.nul,.nul]] [(0,.t 137),(1,.t 143)]),gi 145 (.build 145 [I 0,I 0,.nul,.nul,.nul] [(0,(none,.k (I 6))),(4,(none,.t 144))]),g0 (.sto 4 (.t 145) (some 5))]
def r_Z41_32 : List GI:=[gd 147 .eql 44 8,gt 146 147]
def r_Z41_33 : List GI:=[gs 148 7 5,gi 149 (.bsl 149 5 (some 5) [.agg [I 0,I 0,.nul,.nul,.nul]] [(0,.t 148)]),gi 150 (.build 150 [I 0,I 0,.nul,.nul,.nul] [(0,(none,.k (I 7))),(4,(none,.t 149))]),g0 (.sto 4 (.t 150) (some 5))]
def r_Z41_34 : List GI:=[gd 152 .eql 44 9,gt 151 152]
def r_Z41_35 : List GI:=[gt 153 8,gd 154 .gtr 153 1]
def r_Z41_36 : List GI:=[gt 155 5,gt 156 8,gc 157 65 [.t 155,.t 156],gi 158 (.bsl 158 1 none [I 0] [(0,.t 157)]),gs 159 7 5,gi 160 (.bsl 160 5 (some 5) [.agg [I 0,I 0,.nul,.nul,.nul]] [(0,.t 159)]),gi 161 (.build 161 [I 0,I 0,.nul,.nul,.nul] [(0,(none,.k (I 8))),(3,(none,.t 158)),(4,(none,.t 160))]),g0 (.sto 4 (.t 161) (some 5))]
def r_Z41_37 : List GI:=[gs 162 7 5,gi 163 (.bsl 163 5 (some 5) [.agg [I 0,I 0,.nul,.nul,.nul]] [(0,.t 162)]),gi 164 (.build 164 [I 0,I 0,.nul,.nul,.nul] [(0,(none,.k (I 8))),(4,(none,.t 163))]),g0 (.sto 4 (.t 164) (some 5))]
def r_Z41_38 : List GI:=[gt 165 5,gt 166 8,gc 167 155 [.t 165,.t 166],gs 168 7 5,gc 169 154 [.t 167,.t 168],g0 (.sto 4 (.t 169) (some 5))]
def dc_Z41 : DC:=.seq (.z r_Z41_0) (.seq (.z r_Z41_1) (.seq (.z r_Z41_2) (.seq (.seq (.z r_Z41_3) (.cond (.t 31) (.seq (.z r_Z41_4) .ret) .skip)) (.seq (.z r_Z41_5) (.seq (.reg r_Z41_6 (some [0,0,2,6,14,31,63])) (.seq (.seq (.z r_Z41_7) (.block 0 (.seq (.seq (.z r_Z41_8) (.cond (.t 45) .skip (.seq (.z r_Z41_9) (.cond (.t 45) .skip (.z r_Z41_10))))) (.cond (.t 45) (.seq (.reg r_Z41_11 (some [0,0,3,0,15,31])) .ret) (.seq (.seq (.z r_Z41_12) (.cond (.t 54) .skip (.z r_Z41_13))) (.cond (.t 54) (.seq (.z r_Z41_14) (.seq (.seq (.z r_Z41_15) (.block 1 (.loop (.seq (.seq (.z r_Z41_16) (.cond (.t 62) .skip (.exit 1))) (.seq (.block 2 (.z r_Z41_17)) (.z r_Z41_18)))))) (.seq (.z r_Z41_19) .ret))) (.seq (.seq (.z r_Z41_20) (.cond (.t 77) .skip (.z r_Z41_21))) (.cond (.t 77) (.seq (.z r_Z41_22) (.cond (.t 88) (.seq (.z r_Z41_23) (.seq (.z r_Z41_24) (.seq (.reg r_Z41_25 (some [0,0,0,4,12,28,62,127,255])) (.seq (.z r_Z41_26) (.cond (.t 110) (.seq (.reg r_Z41_27 (some [0,0,3,0,0,31,63,0,0,384,1023,2047])) .ret) .skip))))) .skip)) (.seq (.z r_Z41_28) (.cond (.t 122) (.seq (.z r_Z41_29) (.cond (.t 128) (.seq (.z r_Z41_30) (.seq (.reg r_Z41_31 (some [0,0,0,6,0,30,62,127,255,511])) .ret)) .skip)) (.seq (.z r_Z41_32) (.cond (.t 146) (.seq (.z r_Z41_33) .ret) (.seq (.z r_Z41_34) (.cond (.t 151) (.seq (.seq (.z r_Z41_35) (.cond (.t 154) (.seq (.reg r_Z41_36 (some [0,0,3,7,0,16,63,127])) .ret) .skip)) (.seq (.z r_Z41_37) .ret)) .skip)))))))))))))) (.seq (.reg r_Z41_38 (some [0,0,3,0,15,31])) .ret)))))))
theorem c_Z41 : cfun Tryz.prog [] 153 = some (170,dc_Z41,[(Res.cell 4 (some 5))]):=by kernel_rfl
def r_Z114_0 : List GI:=[gi 2 (.box 2 2000002 (.t 0) (some 5)),gi 3 (.box 3 2000003 (.t 1) (some 5)),gi 4 (.alloc 4 2000004 [I 0,I 0,.nul,.nul,.nul])]
def r_Z114_1 : List GI:=[gs 5 2 5,gi 6 (.bslx 6 2000006 5 (some 5) [.agg [I 0,I 0,.v (.bool false),I 0,.nul]] [(0,.t 5)]),gs 7 3 5,gi 8 (.bsl 8 5 (some 5) [.agg [I 0,I 0,.nul,.nul,.nul]] [(0,.t 7)]),gi 9 (.build 9 [I 0,I 0,.nul,.nul,.nul] [(0,(none,.k (I 2))),(2,(none,.t 6)),(4,(none,.t 8))]),g0 (.sto 4 (.t 9) (some 5))]
def dc_Z114 : DC:=.seq (.z r_Z114_0) (.seq (.z r_Z114_1) .ret)
theorem c_Z114 : cfun Tryz.prog [6] 154 = some (10,dc_Z114,[(Res.cell 4 (some 5))]):=by kernel_rfl
end
end Go.Proofs.YtgpdmgaemhelgaaGreat
namespace Go.Proofs.YtgpdmgaemhelgaaGreat
open Go.RowKit
noncomputable section
def r_Z132_0 : List GI:=[gi 2 (.box 2 2000002 (.t 0) (some 5)),gi 4 (.mov 4 (.k (.v (.bool false))))]
def r_Z132_1 : List GI:=[gs 7 2 5,gt 8 1,gc 9 53 [.t 7,.t 8],gd 10 .eql 9 0]
def r_Z132_2 : List GI:=[gi 4 (.mov 4 (.k (.v (.bool false))))]
def r_Z132_3 : List GI:=[gs 11 2 5,gt 12 1,gc 13 60 [.t 11,.t 12],gt 5 13]
def r_Z132_4 : List GI:=[gk 6 0]
def r_Z132_5 : List GI:=[gt 14 6,gt 15 5,gn 16 15,gb 17 .lss 14 16]
def r_Z132_6 : List GI:=[gt 20 5,gt 21 6,ga 22 20 21 2,gf 23 22 0,gl 24 23,gc 25 69 [.t 24]]
def r_Z132_7 : List GI:=[gi 4 (.mov 4 (.k (.v (.bool false))))]
def r_Z132_8 : List GI:=[gt 18 6,gd 19 .add 18 1,gt 6 19]
def r_Z132_9 : List GI:=[gi 4 (.mov 4 (.k (.v (.bool true))))]
def dc_Z132 : DC:=.seq (.z r_Z132_0) (.seq (.seq (.z r_Z132_1) (.cond (.t 10) (.seq (.z r_Z132_2) .ret) .skip)) (.seq (.z r_Z132_3) (.seq (.seq (.z r_Z132_4) (.block 0 (.loop (.seq (.seq (.z r_Z132_5) (.cond (.t 17) .skip (.exit 0))) (.seq (.block 1 (.seq (.z r_Z132_6) (.cond (.t 25) (.seq (.z r_Z132_7) .ret) .skip))) (.z r_Z132_8)))))) (.seq (.z r_Z132_9) .ret))))
theorem c_Z132 : cfun Tryz.prog [] 39 = some (26,dc_Z132,[(Res.tmp 4)]):=by kernel_rfl
end
end Go.Proofs.YtgpdmgaemhelgaaGreat
namespace Go.Proofs.YtgpdmgaemhelgaaGreat
open Go.RowKit
noncomputable section
def r_Z109_0 : List GI:=[gi 2 (.box 2 2000002 (.t 0) (some 5)),gi 4 (.alloc 4 2000004 [I 0,I 0,.nul,.nul,.nul]),gi 5 (.mov 5 (.k .nul))]
def r_Z109_1 : List GI:=[gi 12 (.mov 12 (.k .nul)),gt 6 12]
def r_Z109_2 : List GI:=[gs 13 2 5,gt 14 1,gc 15 53 [.t 13,.t 14],gd 16 .eql 15 0]
def r_Z109_3 : List GI:=[gi 17 (.build 17 [I 0,I 0,.nul,.nul,.nul] []),gt 18 6,g0 (.sto 4 (.t 17) (some 5)),gt 5 18]
def r_Z109_4 : List GI:=[gs 19 2 5,gc 20 64 [.t 19],gi 7 (.alloc 7 2000007 [I 0,I 0,.nul,.nul,.nul]),g0 (.sto 7 (.t 20) (some 5))]
def r_Z109_5 : List GI:=[gt 21 6,gn 22 21,gd 23 .lss 22 40]
def r_Z109_6 : List GI:=[gs 24 7 5,gt 25 1,gc 26 60 [.t 24,.t 25],gt 8 26]
def r_Z109_7 : List GI:=[gk 9 0]
def r_Z109_8 : List GI:=[gt 27 9,gt 28 8,gn 29 28,gb 30 .lss 27 29,gt 31 30,⟨.mov 32 (.t 8),some 32,some (31,true),false⟩,⟨.mov 33 (.t 9),some 33,some (31,true),false⟩,⟨.iad 34 32 (.t 33) 2,some 34,some (31,true),false⟩,⟨.fad 35 34 0,some 35,some (31,true),false⟩,⟨.lod 36 35 none,some 36,some (31,true),false⟩,⟨.call 37 69 [.t 36],some 37,some (31,true),true⟩,⟨.un 38 UnOp.not (.t 37),some 38,some (31,true),false⟩,gi 39 (.pick 39 (.t 31) (.t 38) (.k (.v (.bool false))))]
def r_Z109_9 : List GI:=[gt 40 9,gd 41 .add 40 1,gt 9 41]
def r_Z109_10 : List GI:=[gt 42 9,gt 43 8,gn 44 43,gb 45 .eql 42 44]
def r_Z109_11 : List GI:=[gs 47 7 5,gt 48 1,gt 49 8,gt 50 9,ga 51 49 50 2,gs 52 51 2,gc 53 54 [.t 47,.t 48,.t 52],gt 46 53,gi 54 (.ext 54 46 0),gi 55 (.ext 55 46 1),gi 10 (.alloc 10 2000010 [I 0,I 0,.nul,.nul,.nul]),g0 (.sto 10 (.t 54) (some 5)),gt 11 55]
def r_Z109_12 : List GI:=[gs 56 10 5,g0 (.sto 7 (.t 56) (some 5))]
def r_Z109_13 : List GI:=[gt 57 6,gt 58 8,gt 59 9,ga 60 58 59 2,gs 61 60 2,gi 62 (.bsl 62 2 (some 2) [.agg [I 0,.nul]] [(0,.t 61)]),gi 63 (.app 63 2000063 (.t 57) (.t 62) 2 32),gt 6 63]
def r_Z109_14 : List GI:=[gs 64 7 5,gt 65 6,g0 (.sto 4 (.t 64) (some 5)),gt 5 65]
def dc_Z109 : DC:=.seq (.z r_Z109_0) (.seq (.z r_Z109_1) (.seq (.seq (.z r_Z109_2) (.cond (.t 16) (.seq (.z r_Z109_3) .ret) .skip)) (.seq (.z r_Z109_4) (.seq (.block 0 (.loop (.seq (.seq (.z r_Z109_5) (.cond (.t 23) .skip (.exit 0))) (.block 1 (.seq (.z r_Z109_6) (.seq (.z r_Z109_7) (.seq (.block 2 (.loop (.seq (.seq (.z r_Z109_8) (.cond (.t 39) .skip (.exit 2))) (.block 3 (.z r_Z109_9))))) (.seq (.seq (.z r_Z109_10) (.cond (.t 45) (.exit 0) .skip)) (.seq (.reg r_Z109_11 (some [0,0,0,0,12,28,63,127,255,255,0,1535,4095])) (.seq (.z r_Z109_12) (.z r_Z109_13))))))))))) (.seq (.z r_Z109_14) .ret)))))
theorem c_Z109 : cfun Tryz.prog [] 36 = some (66,dc_Z109,[(Res.cell 4 (some 5)),(Res.tmp 5)]):=by kernel_rfl
end
end Go.Proofs.YtgpdmgaemhelgaaGreat
namespace Go.Proofs.YtgpdmgaemhelgaaGreat
open Go.RowKit
noncomputable section
def r_Z52_0 : List GI:=[gi 2 (.alloc 2 2000002 [I 0,I 0,.nul,.nul,.nul]),gi 3 (.mov 3 (.k .nul))]
def r_Z52_1 : List GI:=[gt 9 0,gc 10 48 [.t 9],gt 4 10]
def r_Z52_2 : List GI:=[gt 12 4,gc 13 49 [.t 12],gt 11 13,gi 14 (.ext 14 11 0),gi 15 (.ext 15 11 1),gi 5 (.alloc 5 2000005 [I 0,I 0,.nul,.nul,.nul]),g0 (.sto 5 (.t 14) (some 5)),gt 6 15]
def r_Z52_3 : List GI:=[gt 16 4,gc 17 65 [.t 16,.k (I 2)],gd 18 .eql 17 0]
def r_Z52_4 : List GI:=[gs 20 5 5,gt 21 6,gc 22 36 [.t 20,.t 21],gt 19 22,gi 23 (.ext 23 19 0),gi 24 (.ext 24 19 1),gi 7 (.alloc 7 2000007 [I 0,I 0,.nul,.nul,.nul]),g0 (.sto 7 (.t 23) (some 5)),gt 8 24]
def r_Z52_5 : List GI:=[gs 25 7 5,gt 26 6,g0 (.sto 2 (.t 25) (some 5)),gt 3 26]
def r_Z52_6 : List GI:=[gs 27 5 5,gt 28 6,g0 (.sto 2 (.t 27) (some 5)),gt 3 28]
def dc_Z52 : DC:=.seq (.z r_Z52_0) (.seq (.z r_Z52_1) (.seq (.z r_Z52_2) (.seq (.seq (.z r_Z52_3) (.cond (.t 18) (.seq (.z r_Z52_4) (.seq (.z r_Z52_5) .ret)) .skip)) (.seq (.z r_Z52_6) .ret))))
theorem c_Z52 : cfun Tryz.prog [] 38 = some (29,dc_Z52,[(Res.cell 2 (some 5)),(Res.tmp 3)]):=by kernel_rfl
def r_Z39_0 : List GI:=[gi 2 (.alloc 2 2000002 [I 0,I 0,.nul,.nul,.nul]),gi 3 (.mov 3 (.k .nul))]
def r_Z39_1 : List GI:=[gt 4 0,gc 5 48 [.t 4],gc 6 49 [.t 5],gi 7 (.ext 7 6 0),gi 8 (.ext 8 6 1),g0 (.sto 2 (.t 7) (some 5)),gt 3 8]
def dc_Z39 : DC:=.seq (.z r_Z39_0) (.seq (.z r_Z39_1) .ret)
theorem c_Z39 : cfun Tryz.prog [] 34 = some (9,dc_Z39,[(Res.cell 2 (some 5)),(Res.tmp 3)]):=by kernel_rfl
end
end Go.Proofs.YtgpdmgaemhelgaaGreat
