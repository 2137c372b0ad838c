/-
  Functions of the program read as code on plain data. Closed facts of the program alone.
-/
import Derived.KernelRfl
import Derived.Test.YtgpdmgaemhelgaaGreatRows
import Derived.Test.YtgpdmgaemhelgaaGreatJSVBox
import Derived.Test.YtgpdmgaemhelgaaGreatJSVYld
import Derived.Test.YtgpdmgaemhelgaaGreatJSVClA
namespace Go.Proofs.YtgpdmgaemhelgaaGreat
open Go.RowKit
noncomputable section
def r_Z26_0 : List GI:=[gi 4 (.alloc 4 2000004 [I 0,I 0,.nul,.nul,.nul])]
def r_Z26_1 : List GI:=[gt 13 0,gi 14 (.nilc 14 13),gf 15 14 0,gl 16 15,gt 5 16]
def r_Z26_2 : List GI:=[gt 17 5,gt 18 0,gi 19 (.nilc 19 18),gf 20 19 1,gl 21 20,gn 22 21,gc 23 65 [.t 17,.t 22],gi 24 (.build 24 [I 0,I 0,.nul,.nul,.nul] [(0,(none,.k (I 1))),(1,(none,.t 23))]),gi 6 (.alloc 6 2000006 [I 0,I 0,.nul,.nul,.nul]),g0 (.sto 6 (.t 24) (some 5))]
def r_Z26_3 : List GI:=[gt 25 1,gd 26 .eql 25 0,gt 27 26,⟨.mov 28 (.t 5),some 28,some (27,false),false⟩,⟨.call 29 65 [.t 28,.k (I 6)],some 29,some (27,false),true⟩,⟨.bin 30 .eql (.t 29) (.k (I 0)),some 30,some (27,false),false⟩,gi 31 (.pick 31 (.t 27) (.k (.v (.bool true))) (.t 30))]
def r_Z26_4 : List GI:=[gs 32 6 5,g0 (.sto 4 (.t 32) (some 5))]
def r_Z26_5 : List GI:=[gt 33 0,gt 34 1,gd 35 .sub 34 1,gc 36 153 [.t 33,.t 35],gi 7 (.alloc 7 2000007 [I 0,I 0,.nul,.nul,.nul]),g0 (.sto 7 (.t 36) (some 5))]
def r_Z26_6 : List GI:=[gs 37 7 5,gt 38 0,gi 39 (.nilc 39 38),gf 40 39 1,gl 41 40,gc 42 95 [.t 37,.t 41,.k (I 8)],gt 8 42]
def r_Z26_7 : List GI:=[gt 43 5,gc 44 65 [.t 43,.k (I 10)]]
def r_Z26_8 : List GI:=[gd 46 .eql 44 0,gt 45 46]
def r_Z26_9 : List GI:=[gd 47 .eql 44 1,gt 45 47]
def r_Z26_10 : List GI:=[gd 48 .eql 44 2,gt 45 48]
def r_Z26_11 : List GI:=[gt 49 5,gt 50 8,gc 51 155 [.t 49,.t 50],gs 52 7 5,gc 53 154 [.t 51,.t 52],g0 (.sto 4 (.t 53) (some 5))]
def r_Z26_12 : List GI:=[gd 55 .eql 44 3,gt 54 55]
def r_Z26_13 : List GI:=[gd 56 .eql 44 4,gt 54 56]
def r_Z26_14 : List GI:=[gi 57 (.mov 57 (.k .nul)),gt 9 57]
def r_Z26_15 : List GI:=[gt 58 5,gc 59 65 [.t 58,.k (I 2)],gi 60 (.bin 60 .add (.k (I 1)) (.t 59)),gt 10 60]
def r_Z26_16 : List GI:=[gt 61 10,gd 62 .gtr 61 0]
def r_Z26_17 : List GI:=[gt 65 9,gt 66 5,gt 67 8,gt 68 5,gc 69 65 [.t 68,.k (I 2)],gc 70 156 [.t 66,.t 67,.t 69],gi 71 (.bsl 71 5 (some 5) [.agg [I 0,I 0,.v (.bool false),I 0,.nul]] [(0,.t 70)]),gi 72 (.app 72 2000072 (.t 65) (.t 71) 5 56),gt 9 72]
def r_Z26_18 : List GI:=[gt 63 10,gd 64 .sub 63 1,gt 10 64]
def r_Z26_19 : List GI:=[gt 73 9,gs 74 7 5,gi 75 (.bsl 75 5 (some 5) [.agg [I 0,I 0,.nul,.nul,.nul]] [(0,.t 74)]),gi 76 (.build 76 [I 0,I 0,.nul,.nul,.nul] [(0,(none,.k (I 3))),(2,(none,.t 73)),(4,(none,.t 75))]),g0 (.sto 4 (.t 76) (some 5))]
def r_Z26_20 : List GI:=[gd 78 .eql 44 5,gt 77 78]
def r_Z26_21 : List GI:=[gd 79 .eql 44 6,gt 77 79]
def r_Z26_22 : List GI:=[gt 80 0,gi 81 (.nilc 81 80),gf 82 81 2,gl 83 82,gd 84 .gtr 83 0,gt 85 84,⟨.mov 86 (.t 8),some 86,some (85,true),false⟩,⟨.bin 87 .leq (.t 86) (.k (I 4)),some 87,some (85,true),false⟩,gi 88 (.pick 88 (.t 85) (.t 87) (.k (.v (.bool false))))]
def r_Z26_23 : List GI:=[gt 89 0,gt 90 0,gi 91 (.nilc 91 90),gf 92 91 2,gl 93 92,gd 94 .sub 93 1,gi 95 (.nilc 95 89),gf 96 95 2,g0 (.sto 96 (.t 94) none)]
def r_Z26_24 : List GI:=[gt 97 0,gt 98 5,gc 99 65 [.t 98,.k (I 2)],gc 100 153 [.t 97,.t 99],gi 11 (.alloc 11 2000011 [I 0,I 0,.nul,.nul,.nul]),g0 (.sto 11 (.t 100) (some 5))]
def r_Z26_25 : List GI:=[gt 101 8,gs 102 11 5,gt 103 0,gi 104 (.nilc 104 103),gf 105 104 1,gl 106 105,gc 107 95 [.t 102,.t 106,.k (I 8)],gb 108 .add 101 107,gt 12 108]
def r_Z26_26 : List GI:=[gt 109 12,gd 110 .leq 109 6]
def r_Z26_27 : List GI:=[gt 111 5,gi 112 (.bsl 112 1 none [I 0,I 0] [(0,.k (I 4)),(1,.k (I 5))]),gc 113 82 [.t 111,.t 112],gt 114 5,gt 115 12,gc 116 155 [.t 114,.t 115],gi 117 (.bslx 117 2000117 5 (some 5) [.agg [I 0,I 0,.v (.bool false),I 0,.nul]] [(0,.t 116)]),gs 118 7 5,gs 119 11 5,gi 120 (.bsl 120 5 (some 5) [.agg [I 0,I 0,.nul,.nul,.nul],.agg [I 0,I 0,.nul,.nul,.nul]] [(0,.t 118),(1,.t 119)]),gi 121 (.build 121 [I 0,I 0,.nul,.nul,.nul] [(0,(none,.t 113)),(2,(none,.t 117)),(4,(none,.t 120))]),g0 (.sto 4 (.t 121) (some 5))]
def r_Z26_28 : List GI:=[gd 123 .eql 44 7,gt 122 123]
def r_Z26_29 : List GI:=[gt 124 0,gi 125 (.nilc 125 124),gf 126 125 3,gl 127 126,gd 128 .gtr 127 0]
def r_Z26_30 : List GI:=[gt 129 0,gt 130 0,gi 131 (.nilc 131 130),gf 132 131 3,gl 133 132,gd 134 .sub 133 1,gi 135 (.nilc 135 129),gf 136 135 3,g0 (.sto 136 (.t 134) none)]
def r_Z26_31 : List GI:=[gs 137 7 5,gt 138 5,gt 139 8,gc 140 155 [.t 138,.t 139],gs 141 7 5,gc 142 64 [.t 141],gc 143 154 [.t 140,.t 142],gi 144 (.bsl 144 5 (some 5) [.agg [I 0,I 0,.nul,.nul,.nul],.agg [I 0,I 0,.nul,.nul,.nul]] [(0,.t 137),(1,.t 143)]),gi 145 (.build 145 [I 0,I 0,.nul,.nul,.nul] [(0,(none,.k (I 6))),(4,(none,.t 144))]),g0 (.sto 4 (.t 145) (some 5))]
def r_Z26_32 : List GI:=[gd 147 .eql 44 8,gt 146 147]
def r_Z26_33 : List GI:=[gs 148 7 5,gi 149 (.bsl 149 5 (some 5) [.agg [I 0,I 0,.nul,.nul,.nul]] [(0,.t 148)]),gi 150 (.build 150 [I 0,I 0,.nul,.nul,.nul] [(0,(none,.k (I 7))),(4,(none,.t 149))]),g0 (.sto 4 (.t 150) (some 5))]
def r_Z26_34 : List GI:=[gd 152 .eql 44 9,gt 151 152]
def r_Z26_35 : List GI:=[gt 153 8,gd 154 .gtr 153 1]
def r_Z26_36 : List GI:=[gt 155 5,gt 156 8,gc 157 65 [.t 155,.t 156],gi 158 (.bslx 158 2000158 1 none [I 0] [(0,.t 157)]),gs 159 7 5,gi 160 (.bsl 160 5 (some 5) [.agg [I 0,I 0,.nul,.nul,.nul]] [(0,.t 159)]),gi 161 (.build 161 [I 0,I 0,.nul,.nul,.nul] [(0,(none,.k (I 8))),(3,(none,.t 158)),(4,(none,.t 160))]),g0 (.sto 4 (.t 161) (some 5))]
def r_Z26_37 : List GI:=[gs 162 7 5,gi 163 (.bsl 163 5 (some 5) [.agg [I 0,I 0,.nul,.nul,.nul]] [(0,.t 162)]),gi 164 (.build 164 [I 0,I 0,.nul,.nul,.nul] [(0,(none,.k (I 8))),(4,(none,.t 163))]),g0 (.sto 4 (.t 164) (some 5))]
def r_Z26_38 : List GI:=[gt 165 5,gt 166 8,gc 167 155 [.t 165,.t 166],gs 168 7 5,gc 169 154 [.t 167,.t 168],g0 (.sto 4 (.t 169) (some 5))]
def dc_Z26 : DC:=.seq (.z r_Z26_0) (.seq (.z r_Z26_1) (.seq (.z r_Z26_2) (.seq (.seq (.z r_Z26_3) (.cond (.t 31) (.seq (.z r_Z26_4) .ret) .skip)) (.seq (.z r_Z26_5) (.seq (.reg r_Z26_6 (some [0,0,2,6,14,31,63])) (.seq (.seq (.z r_Z26_7) (.block 0 (.seq (.seq (.z r_Z26_8) (.cond (.t 45) .skip (.seq (.z r_Z26_9) (.cond (.t 45) .skip (.z r_Z26_10))))) (.cond (.t 45) (.seq (.reg r_Z26_11 (some [0,0,3,0,15,31])) .ret) (.seq (.seq (.z r_Z26_12) (.cond (.t 54) .skip (.z r_Z26_13))) (.cond (.t 54) (.seq (.z r_Z26_14) (.seq (.seq (.z r_Z26_15) (.block 1 (.loop (.seq (.seq (.z r_Z26_16) (.cond (.t 62) .skip (.exit 1))) (.seq (.block 2 (.z r_Z26_17)) (.z r_Z26_18)))))) (.seq (.z r_Z26_19) .ret))) (.seq (.seq (.z r_Z26_20) (.cond (.t 77) .skip (.z r_Z26_21))) (.cond (.t 77) (.seq (.z r_Z26_22) (.cond (.t 88) (.seq (.z r_Z26_23) (.seq (.z r_Z26_24) (.seq (.reg r_Z26_25 (some [0,0,0,4,12,28,62,127,255])) (.seq (.z r_Z26_26) (.cond (.t 110) (.seq (.reg r_Z26_27 (some [0,0,3,0,0,31,63,0,0,384,1023,2047])) .ret) .skip))))) .skip)) (.seq (.z r_Z26_28) (.cond (.t 122) (.seq (.z r_Z26_29) (.cond (.t 128) (.seq (.z r_Z26_30) (.seq (.reg r_Z26_31 (some [0,0,0,6,0,30,62,127,255,511])) .ret)) .skip)) (.seq (.z r_Z26_32) (.cond (.t 146) (.seq (.z r_Z26_33) .ret) (.seq (.z r_Z26_34) (.cond (.t 151) (.seq (.seq (.z r_Z26_35) (.cond (.t 154) (.seq (.reg r_Z26_36 (some [0,0,3,7,0,16,63,127])) .ret) .skip)) (.seq (.z r_Z26_37) .ret)) .skip)))))))))))))) (.seq (.reg r_Z26_38 (some [0,0,3,0,15,31])) .ret)))))))
theorem c_Z26 : cfun Tryz.prog [117,158] 153 = some (170,dc_Z26,[(Res.cell 4 (some 5))]):=by kernel_rfl
def r_Z83_0 : List GI:=[gi 4 (.alloc 4 2000004 [I 0,I 0,.nul,.nul,.nul])]
def r_Z83_1 : List GI:=[gt 7 0,gt 8 1,gi 9 (.build 9 [.v (.pointer none),.nul,I 0,I 0] [(0,(none,.t 7)),(1,(none,.t 8)),(2,(none,.k (I 1))),(3,(none,.k (I 1)))]),gi 10 (.box 10 2000010 (.t 9) (some 4)),gt 5 10]
def r_Z83_2 : List GI:=[gt 11 5,gt 12 0,gc 13 65 [.t 12,.k (I 4)],gi 14 (.bin 14 .add (.k (I 1)) (.t 13)),gc 15 153 [.t 11,.t 14],gi 6 (.alloc 6 2000006 [I 0,I 0,.nul,.nul,.nul]),g0 (.sto 6 (.t 15) (some 5))]
def r_Z83_3 : List GI:=[gt 16 0,gc 17 65 [.t 16,.k (I 2)],gd 18 .eql 17 0]
def r_Z83_4 : List GI:=[gt 19 0,gs 20 6 5,gt 21 1,gc 22 95 [.t 20,.t 21,.k (I 8)],gc 23 155 [.t 19,.t 22],gs 24 6 5,gc 25 154 [.t 23,.t 24],g0 (.sto 4 (.t 25) (some 5))]
def r_Z83_5 : List GI:=[gs 26 6 5,g0 (.sto 4 (.t 26) (some 5))]
def dc_Z83 : DC:=.seq (.z r_Z83_0) (.seq (.z r_Z83_1) (.seq (.z r_Z83_2) (.seq (.seq (.z r_Z83_3) (.cond (.t 18) (.seq (.reg r_Z83_4 (some [0,0,0,6,15,0,63,127])) .ret) .skip)) (.seq (.z r_Z83_5) .ret))))
theorem c_Z83 : cfun Tryz.prog [] 120 = some (27,dc_Z83,[(Res.cell 4 (some 5))]):=by kernel_rfl
def r_Z48_0 : List GI:=[gi 2 (.mov 2 (.k .nul))]
def r_Z48_1 : List GI:=[gi 5 (.mov 5 (.k .nul)),gt 3 5]
def r_Z48_2 : List GI:=[gt 6 0,gc 7 65 [.t 6,.k (I 2)],gi 8 (.bin 8 .add (.k (I 2)) (.t 7)),gt 4 8]
def r_Z48_3 : List GI:=[gt 9 4,gd 10 .gtr 9 0]
def r_Z48_4 : List GI:=[gt 13 3,gt 14 0,gc 15 65 [.t 14,.k (I 2)],gi 16 (.bin 16 .add (.k (I 1)) (.t 15)),gi 17 (.bsl 17 1 none [I 0] [(0,.t 16)]),gi 18 (.app 18 2000018 (.t 13) (.t 17) 1 8),gt 3 18]
def r_Z48_5 : List GI:=[gt 11 4,gd 12 .sub 11 1,gt 4 12]
def r_Z48_6 : List GI:=[gt 19 3,gt 2 19]
def dc_Z48 : DC:=.seq (.z r_Z48_0) (.seq (.z r_Z48_1) (.seq (.seq (.z r_Z48_2) (.block 0 (.loop (.seq (.seq (.z r_Z48_3) (.cond (.t 10) .skip (.exit 0))) (.seq (.block 1 (.z r_Z48_4)) (.z r_Z48_5)))))) (.seq (.z r_Z48_6) .ret)))
theorem c_Z48 : cfun Tryz.prog [] 80 = some (20,dc_Z48,[(Res.tmp 2)]):=by kernel_rfl
def r_Z134_0 : List GI:=[gi 4 (.alloc 4 2000004 [I 0,I 0,.nul,.nul,.nul])]
def r_Z134_1 : List GI:=[gt 6 0,gt 7 1,gc 8 120 [.t 6,.t 7],gi 5 (.alloc 5 2000005 [I 0,I 0,.nul,.nul,.nul]),g0 (.sto 5 (.t 8) (some 5))]
def r_Z134_2 : List GI:=[gt 9 0,gc 10 65 [.t 9,.k (I 18)]]
def r_Z134_3 : List GI:=[gd 12 .eql 10 0,gt 11 12]
def r_Z134_4 : List GI:=[gt 13 0,gi 14 (.bsl 14 1 none [I 0,I 0,I 0,I 0] [(0,.k (I 0)),(1,.k (I 9)),(2,.k (I 1)),(3,.k (I 4))]),gc 15 82 [.t 13,.t 14],gf 16 5 0,g0 (.sto 16 (.t 15) none)]
def r_Z134_5 : List GI:=[gd 18 .eql 10 1,gt 17 18]
def r_Z134_6 : List GI:=[gt 19 0,gi 20 (.bsl 20 1 none [I 0,I 0,I 0] [(0,.k (.v (.int .i64 (-1)))),(1,.k (I 4)),(2,.k (I 1))]),gc 21 82 [.t 19,.t 20],gf 22 5 1,g0 (.sto 22 (.t 21) none)]
def r_Z134_7 : List GI:=[gd 24 .eql 10 2,gt 23 24]
def r_Z134_8 : List GI:=[gf 25 5 3,gl 26 25,gt 27 0,gi 28 (.bsl 28 1 none [I 0,I 0] [(0,.k (I 0)),(1,.k (I 9))]),gc 29 82 [.t 27,.t 28],gi 30 (.bsl 30 1 none [I 0] [(0,.t 29)]),gi 31 (.app 31 2000031 (.t 26) (.t 30) 1 8),gf 32 5 3,g0 (.sto 32 (.t 31) none)]
def r_Z134_9 : List GI:=[gd 34 .eql 10 3,gt 33 34]
def r_Z134_10 : List GI:=[gf 35 5 2,gl 36 35,gt 37 0,gc 38 121 [.t 37,.k (I 2)],gi 39 (.bsl 39 5 (some 5) [.agg [I 0,I 0,.v (.bool false),I 0,.nul]] [(0,.t 38)]),gi 40 (.app 40 2000040 (.t 36) (.t 39) 5 56),gf 41 5 2,g0 (.sto 41 (.t 40) none)]
def r_Z134_11 : List GI:=[gs 42 5 5,g0 (.sto 4 (.t 42) (some 5))]
def dc_Z134 : DC:=.seq (.z r_Z134_0) (.seq (.z r_Z134_1) (.seq (.seq (.z r_Z134_2) (.block 0 (.seq (.z r_Z134_3) (.cond (.t 11) (.z r_Z134_4) (.seq (.z r_Z134_5) (.cond (.t 17) (.z r_Z134_6) (.seq (.z r_Z134_7) (.cond (.t 23) (.reg r_Z134_8 (some [0,1,0,0,12,28,63,127,255])) (.seq (.z r_Z134_9) (.cond (.t 33) (.reg r_Z134_10 (some [0,1,0,4,12,31,63,127])) .skip)))))))))) (.seq (.z r_Z134_11) .ret)))
theorem c_Z134 : cfun Tryz.prog [] 81 = some (43,dc_Z134,[(Res.cell 4 (some 5))]):=by kernel_rfl
def r_Z33_0 : List GI:=[gi 2 (.alloc 2 2000002 [I 0,I 0,.nul,.nul,.nul]),gi 3 (.mov 3 (.k .nul))]
def r_Z33_1 : List GI:=[gt 6 0,gc 7 80 [.t 6],gt 4 7]
def r_Z33_2 : List GI:=[gt 8 0,gt 9 4,gc 10 81 [.t 8,.t 9],gi 5 (.alloc 5 2000005 [I 0,I 0,.nul,.nul,.nul]),g0 (.sto 5 (.t 10) (some 5))]
def r_Z33_3 : List GI:=[gt 11 0,gc 12 65 [.t 11,.k (I 18)],gd 13 .eql 12 0]
def r_Z33_4 : List GI:=[gt 14 4,gt 15 0,gi 16 (.bsl 16 1 none [I 0,I 0,I 0] [(0,.k (I 0)),(1,.k (I 7)),(2,.k (I 1))]),gc 17 82 [.t 15,.t 16],gi 18 (.iad 18 14 (.k (I 0)) 1),g0 (.sto 18 (.t 17) none)]
def r_Z33_5 : List GI:=[gs 19 5 5,gt 20 4,g0 (.sto 2 (.t 19) (some 5)),gt 3 20]
def dc_Z33 : DC:=.seq (.z r_Z33_0) (.seq (.z r_Z33_1) (.seq (.z r_Z33_2) (.seq (.seq (.z r_Z33_3) (.cond (.t 13) (.z r_Z33_4) .skip)) (.seq (.z r_Z33_5) .ret))))
theorem c_Z33 : cfun Tryz.prog [] 49 = some (21,dc_Z33,[(Res.cell 2 (some 5)),(Res.tmp 3)]):=by kernel_rfl
def r_Z127_0 : List GI:=[gi 2 (.mov 2 (.k .nul))]
def r_Z127_1 : List GI:=[gi 5 (.mov 5 (.k .nul)),gt 3 5]
def r_Z127_2 : List GI:=[gt 6 0,gc 7 65 [.t 6,.k (I 4)],gt 4 7]
def r_Z127_3 : List GI:=[gt 8 4,gd 9 .gtr 8 0]
def r_Z127_4 : List GI:=[gt 12 3,gt 13 0,gi 14 (.bsl 14 1 none [I 0,I 0,I 0,I 0,I 0,I 0] [(0,.k (I 0)),(1,.k (I 0)),(2,.k (I 0)),(3,.k (I 1)),(4,.k (I 2)),(5,.k (.v (.int .i64 (-1))))]),gc 15 82 [.t 13,.t 14],gi 16 (.bsl 16 1 none [I 0] [(0,.t 15)]),gi 17 (.app 17 2000017 (.t 12) (.t 16) 1 8),gt 3 17]
def r_Z127_5 : List GI:=[gt 10 4,gd 11 .sub 10 1,gt 4 11]
def r_Z127_6 : List GI:=[gt 18 3,gt 2 18]
def dc_Z127 : DC:=.seq (.z r_Z127_0) (.seq (.z r_Z127_1) (.seq (.seq (.z r_Z127_2) (.block 0 (.loop (.seq (.seq (.z r_Z127_3) (.cond (.t 9) .skip (.exit 0))) (.seq (.block 1 (.z r_Z127_4)) (.z r_Z127_5)))))) (.seq (.z r_Z127_6) .ret)))
theorem c_Z127 : cfun Tryz.prog [] 83 = some (19,dc_Z127,[(Res.tmp 2)]):=by kernel_rfl
def r_Z32_0 : List GI:=[gi 2 (.alloc 2 2000002 [I 0,I 0,.nul,.nul,.nul]),gi 3 (.mov 3 (.k .nul)),gi 4 (.alloc 4 2000004 [I 0,.nul])]
def r_Z32_1 : List GI:=[gt 8 0,gc 9 48 [.t 8],gt 5 9]
def r_Z32_2 : List GI:=[gt 11 5,gc 12 49 [.t 11],gt 10 12,gi 13 (.ext 13 10 0),gi 14 (.ext 14 10 1),gi 6 (.alloc 6 2000006 [I 0,I 0,.nul,.nul,.nul]),g0 (.sto 6 (.t 13) (some 5)),gt 7 14]
def r_Z32_3 : List GI:=[gs 15 6 5,gt 16 7,gt 17 5,gs 18 6 5,gt 19 7,gc 20 50 [.t 17,.t 18,.t 19],g0 (.sto 2 (.t 15) (some 5)),gt 3 16,g0 (.sto 4 (.t 20) (some 2))]
def dc_Z32 : DC:=.seq (.z r_Z32_0) (.seq (.z r_Z32_1) (.seq (.z r_Z32_2) (.seq (.reg r_Z32_3 (some [0,0,0,0,0,28,61,127,255])) .ret)))
theorem c_Z32 : cfun Tryz.prog [] 15 = some (21,dc_Z32,[(Res.cell 2 (some 5)),(Res.tmp 3),(Res.cell 4 (some 2))]):=by kernel_rfl
def r_Z128_0 : List GI:=[gi 4 (.box 4 2000004 (.t 1) (some 5)),gi 6 (.alloc 6 2000006 [I 0,.nul])]
def r_Z128_1 : List GI:=[gs 9 4 5,gt 10 2,gc 11 24 [.t 9,.t 10],gt 7 11]
def r_Z128_2 : List GI:=[gt 12 7,gn 13 12,gd 14 .gtr 13 0,gt 15 14,⟨.mov 16 (.t 0),some 16,some (15,true),false⟩,⟨.call 17 65 [.t 16,.k (I 5)],some 17,some (15,true),true⟩,⟨.bin 18 .gtr (.t 17) (.k (I 0)),some 18,some (15,true),false⟩,gi 19 (.pick 19 (.t 15) (.t 18) (.k (.v (.bool false))))]
def r_Z128_3 : List GI:=[gt 20 7,gt 21 0,gt 22 7,gn 23 22,gc 24 65 [.t 21,.t 23],ga 25 20 24 2,gs 26 25 2,gi 8 (.alloc 8 2000008 [I 0,.nul]),g0 (.sto 8 (.t 26) (some 2))]
def r_Z128_4 : List GI:=[gf 27 8 0,gl 28 27,gi 29 (.mov 29 (.k .nul)),gf 30 8 1,gl 31 30,gi 32 (.app 32 2000032 (.t 29) (.t 31) 1 8),gi 33 (.build 33 [I 0,.nul] [(0,(none,.t 28)),(1,(none,.t 32))]),g0 (.sto 6 (.t 33) (some 2))]
def r_Z128_5 : List GI:=[gt 34 0,gc 35 65 [.t 34,.k (I 13)],gt 36 0,gc 37 83 [.t 36],gi 38 (.build 38 [I 0,.nul] [(0,(none,.t 35)),(1,(none,.t 37))]),g0 (.sto 6 (.t 38) (some 2))]
def dc_Z128 : DC:=.seq (.z r_Z128_0) (.seq (.z r_Z128_1) (.seq (.seq (.z r_Z128_2) (.cond (.t 19) (.seq (.z r_Z128_3) (.seq (.reg r_Z128_4 (some [0,1,0,0,8,28,63,127])) .ret)) .skip)) (.seq (.z r_Z128_5) .ret)))
theorem c_Z128 : cfun Tryz.prog [] 50 = some (39,dc_Z128,[(Res.cell 6 (some 2))]):=by kernel_rfl
end
end Go.Proofs.YtgpdmgaemhelgaaGreat
namespace Go.Proofs.YtgpdmgaemhelgaaGreat
open Go.RowKit
theorem code_fz {a : Option Addr} {len cap : Nat} {zs : List Int} {w : World} (h : IsRow .u8 w a len cap zs) : ∃ cs : List Nat,(∀ b,b ∈ cs → b < 256) ∧ Fz w (allOf w) noNames (bytesD cs) (.slice a len cap):=by
 rcases h with ⟨rfl,rfl,rfl,rfl⟩ | ⟨x,rfl,hl,hm,hz,hc,hwz⟩
 ·exact ⟨[],(fun b h=>by cases h),.sl0 _ 1 none 0⟩
 ·by_cases h0 : len = 0
  ·subst h0
   exact ⟨[],(fun b h=>by cases h),.sl0 _ 1 (some x) cap⟩
  ·obtain ⟨b,off,sp⟩:=x
   have hsp : sp = none:=by
    have:=hc 0 (by omega)
    unfold World.cell? at this
    split at this
    ·cases sp with
     | none=>rfl
     | some s=>simp [Addr.add] at this
    ·cases this
   subst hsp
   have hc' : ∀ i,i < cap → w.cell? ⟨b,off + i,none⟩ = some (.int .u8 (zs.getD i 0)):=fun i hi=>by have:=hc i (by omega); rwa [Addr.add_lit] at this
   have hb : b < w.heap.size:=by
    have:=hc' 0 (by omega)
    unfold World.cell? at this
    split at this
    ·rename_i h; exact (Array.getElem?_eq_some_iff.1 h).1
    ·cases this
   have hrange : ∀ i,i < cap → 0 ≤ zs.getD i 0 ∧ zs.getD i 0 < 256:=fun i hi=>by
    have hm : zs.getD i 0 ∈ zs:=by rw [List.getD_eq_getElem?_getD,List.getElem?_eq_getElem (by omega)]; exact List.getElem_mem _
    have:=hwz _ hm
    generalize zs.getD i 0 = z at this ⊢
    simp [Lit.wf,IntKind.min,IntKind.max,IntKind.bits,IntKind.signed] at this
    omega
   refine ⟨(List.range len).map fun i=>(zs.getD i 0).toNat,fun n hn=>?_,?_⟩
   ·obtain ⟨i,hi,rfl⟩:=List.mem_map.1 hn
    have:=hrange i (by have:=List.mem_range.1 hi; omega)
    omega
   ·have hlen : (((List.range len).map fun i=>(zs.getD i 0).toNat).map byteD).length = len:=by simp
    have:=Fz.sl (w:=w) (F:=allOf w) noNames 1 (((List.range len).map fun i=>(zs.getD i 0).toNat).map byteD) b off cap (fun k=>.int .u8 (zs.getD k 0)) (by decide) (by rw [hlen]; exact hl) (fun e he=>?_) (fun k hk=>?_) (fun k d hd=>?_)
    ·rw [hlen] at this
     exact this
    ·obtain ⟨n,_,rfl⟩:=List.mem_map.1 he
     rfl
    ·rw [hlen] at hk
     exact ⟨hc' k (by omega),hb,rfl⟩
    ·have hf : ∀ l : List Nat,D.flat (l.map byteD) = l.map byteD:=by
      intro l
      induction l with
      | nil=>rfl
      | cons n l ih=>rw [List.map_cons,D.flat,List.flatMap_cons,← D.flat,ih]; rfl
     rw [hf,List.getElem?_map,List.getElem?_map] at hd
     have hk : k < len:=by
      cases hr : (List.range len)[k]? with
      | none=>rw [hr] at hd; cases hd
      | some j=>have:=(List.getElem?_eq_some_iff.1 hr).1; simpa using this
     rw [List.getElem?_range hk] at hd
     obtain rfl : byteD (zs.getD k 0).toNat = d:=by simpa using hd
     have:=hrange k (by omega)
     unfold byteD
     rw [Int.toNat_of_nonneg this.1]
     exact .v _ _
theorem walk_of {f : FuncId} (hdo : ∀ cs : List Nat,(∀ b,b ∈ cs → b < 256) → Does Tryz.prog f [] [bytesD cs] (Bo true) []) (a : Option Addr) (len cap : Nat) (zs : List Int) (w : World) (h : IsRow .u8 w a len cap zs) :
  Calls Tryz.prog f #[.slice a len cap] w fun e W'=>e = .returned (.bool true) ∧ Below w.heap.size w W':=by
 obtain ⟨cs,hcs,hfz⟩:=code_fz h
 refine calls_of (hdo cs hcs) w [.slice a len cap] rfl (fun i d x hd hx=>?_)
 rcases i with _ | i
 ·obtain rfl : bytesD cs = d:=by simpa using hd
  obtain rfl : Value.slice a len cap = x:=by simpa using hx
  exact hfz
 ·simp at hd
end Go.Proofs.YtgpdmgaemhelgaaGreat
