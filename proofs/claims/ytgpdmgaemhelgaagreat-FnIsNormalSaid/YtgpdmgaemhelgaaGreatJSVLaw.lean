/-
  Functions of the program read as code on plain data. Closed facts of the program alone.
-/
import Derived.KernelRfl
import Derived.Test.YtgpdmgaemhelgaaGreatRows
import Derived.Test.YtgpdmgaemhelgaaGreatJSVBox
import Derived.Test.YtgpdmgaemhelgaaGreatJSVYld
import Derived.Test.YtgpdmgaemhelgaaGreatJSVClA
namespace Go.Proofs.YtgpdmgaemhelgaaGreat
open Go.RowKit
noncomputable section
def r_Z33_0 : List GI:=[gi 4 (.alloc 4 2000004 [I 0,I 0,.nul,.nul,.nul])]
def r_Z33_1 : List GI:=[gt 13 0,gi 14 (.nilc 14 13),gf 15 14 0,gl 16 15,gt 5 16]
def r_Z33_2 : List GI:=[gt 17 5,gt 18 0,gi 19 (.nilc 19 18),gf 20 19 1,gl 21 20,gn 22 21,gc 23 65 [.t 17,.t 22],gi 24 (.build 24 [I 0,I 0,.nul,.nul,.nul] [(0,(none,.k (I 1))),(1,(none,.t 23))]),gi 6 (.alloc 6 2000006 [I 0,I 0,.nul,.nul,.nul]),g0 (.sto 6 (.t 24) (some 5))]
def r_Z33_3 : List GI:=[gt 25 1,gd 26 .eql 25 0,gt 27 26,⟨.mov 28 (.t 5),some 28,some (27,false),false⟩,⟨.call 29 65 [.t 28,.k (I 6)],some 29,some (27,false),true⟩,⟨.bin 30 .eql (.t 29) (.k (I 0)),some 30,some (27,false),false⟩,gi 31 (.pick 31 (.t 27) (.k (.v (.bool true))) (.t 30))]
def r_Z33_4 : List GI:=[gs 32 6 5,g0 (.sto 4 (.t 32) (some 5))]
def r_Z33_5 : List GI:=[gt 33 0,gt 34 1,gd 35 .sub 34 1,gc 36 153 [.t 33,.t 35],gi 7 (.alloc 7 2000007 [I 0,I 0,.nul,.nul,.nul]),g0 (.sto 7 (.t 36) (some 5))]
def r_Z33_6 : List GI:=[gs 37 7 5,gt 38 0,gi 39 (.nilc 39 38),gf 40 39 1,gl 41 40,gc 42 95 [.t 37,.t 41,.k (I 8)],gt 8 42]
def r_Z33_7 : List GI:=[gt 43 5,gc 44 65 [.t 43,.k (I 10)]]
def r_Z33_8 : List GI:=[gd 46 .eql 44 0,gt 45 46]
def r_Z33_9 : List GI:=[gd 47 .eql 44 1,gt 45 47]
def r_Z33_10 : List GI:=[gd 48 .eql 44 2,gt 45 48]
def r_Z33_11 : List GI:=[gt 49 5,gt 50 8,gc 51 155 [.t 49,.t 50],gs 52 7 5,gc 53 154 [.t 51,.t 52],g0 (.sto 4 (.t 53) (some 5))]
def r_Z33_12 : List GI:=[gd 55 .eql 44 3,gt 54 55]
def r_Z33_13 : List GI:=[gd 56 .eql 44 4,gt 54 56]
def r_Z33_14 : List GI:=[gi 57 (.mov 57 (.k .nul)),gt 9 57]
def r_Z33_15 : List GI:=[gt 58 5,gc 59 65 [.t 58,.k (I 2)],gi 60 (.bin 60 .add (.k (I 1)) (.t 59)),gt 10 60]
def r_Z33_16 : List GI:=[gt 61 10,gd 62 .gtr 61 0]
def r_Z33_17 : List GI:=[gt 65 9,gt 66 5,gt 67 8,gt 68 5,gc 69 65 [.t 68,.k (I 2)],gc 70 156 [.t 66,.t 67,.t 69],gi 71 (.bsl 71 5 (some 5) [.agg [I 0,I 0,.v (.bool false),I 0,.nul]] [(0,.t 70)]),gi 72 (.app 72 2000072 (.t 65) (.t 71) 5 56),gt 9 72]
def r_Z33_18 : List GI:=[gt 63 10,gd 64 .sub 63 1,gt 10 64]
def r_Z33_19 : List GI:=[gt 73 9,gs 74 7 5,gi 75 (.bsl 75 5 (some 5) [.agg [I 0,I 0,.nul,.nul,.nul]] [(0,.t 74)]),gi 76 (.build 76 [I 0,I 0,.nul,.nul,.nul] [(0,(none,.k (I 3))),(2,(none,.t 73)),(4,(none,.t 75))]),g0 (.sto 4 (.t 76) (some 5))]
def r_Z33_20 : List GI:=[gd 78 .eql 44 5,gt 77 78]
def r_Z33_21 : List GI:=[gd 79 .eql 44 6,gt 77 79]
def r_Z33_22 : List GI:=[gt 80 0,gi 81 (.nilc 81 80),gf 82 81 2,gl 83 82,gd 84 .gtr 83 0,gt 85 84,⟨.mov 86 (.t 8),some 86,some (85,true),false⟩,⟨.bin 87 .leq (.t 86) (.k (I 4)),some 87,some (85,true),false⟩,gi 88 (.pick 88 (.t 85) (.t 87) (.k (.v (.bool false))))]
def r_Z33_23 : List GI:=[gt 89 0,gt 90 0,gi 91 (.nilc 91 90),gf 92 91 2,gl 93 92,gd 94 .sub 93 1,gi 95 (.nilc 95 89),gf 96 95 2,g0 (.sto 96 (.t 94) none)]
def r_Z33_24 : List GI:=[gt 97 0,gt 98 5,gc 99 65 [.t 98,.k (I 2)],gc 100 153 [.t 97,.t 99],gi 11 (.alloc 11 2000011 [I 0,I 0,.nul,.nul,.nul]),g0 (.sto 11 (.t 100) (some 5))]
def r_Z33_25 : List GI:=[gt 101 8,gs 102 11 5,gt 103 0,gi 104 (.nilc 104 103),gf 105 104 1,gl 106 105,gc 107 95 [.t 102,.t 106,.k (I 8)],gb 108 .add 101 107,gt 12 108]
def r_Z33_26 : List GI:=[gt 109 12,gd 110 .leq 109 6]
def r_Z33_27 : List GI:=[gt 111 5,gi 112 (.bsl 112 1 none [I 0,I 0] [(0,.k (I 4)),(1,.k (I 5))]),gc 113 82 [.t 111,.t 112],gt 114 5,gt 115 12,gc 116 155 [.t 114,.t 115],gi 117 (.bslx 117 2000117 5 (some 5) [.agg [I 0,I 0,.v (.bool false),I 0,.nul]] [(0,.t 116)]),gs 118 7 5,gs 119 11 5,gi 120 (.bsl 120 5 (some 5) [.agg [I 0,I 0,.nul,.nul,.nul],.agg [I 0,I 0,.nul,.nul,.nul]] [(0,.t 118),(1,.t 119)]),gi 121 (.build 121 [I 0,I 0,.nul,.nul,.nul] [(0,(none,.t 113)),(2,(none,.t 117)),(4,(none,.t 120))]),g0 (.sto 4 (.t 121) (some 5))]
def r_Z33_28 : List GI:=[gd 123 .eql 44 7,gt 122 123]
def r_Z33_29 : List GI:=[gt 124 0,gi 125 (.nilc 125 124),gf 126 125 3,gl 127 126,gd 128 .gtr 127 0]
def r_Z33_30 : List GI:=[gt 129 0,gt 130 0,gi 131 (.nilc 131 130),gf 132 131 3,gl 133 132,gd 134 .sub 133 1,gi 135 (.nilc 135 129),gf 136 135 3,g0 (.sto 136 (.t 134) none)]
def r_Z33_31 : List GI:=[gs 137 7 5,gt 138 5,gt 139 8,gc 140 155 [.t 138,.t 139],gs 141 7 5,gc 142 64 [.t 141],gc 143 154 [.t 140,.t 142],gi 144 (.bsl 144 5 (some 5) [.agg [I 0,I 0,.nul,.nul,.nul],.agg [I 0,I 0,.nul,.nul,.nul]] [(0,.t 137),(1,.t 143)]),gi 145 (.build 145 [I 0,I 0,.nul,.nul,.nul] [(0,(none,.k (I 6))),(4,(none,.t 144))]),g0 (.sto 4 (.t 145) (some 5))]
def r_Z33_32 : List GI:=[gd 147 .eql 44 8,gt 146 147]
def r_Z33_33 : List GI:=[gs 148 7 5,gi 149 (.bsl 149 5 (some 5) [.agg [I 0,I 0,.nul,.nul,.nul]] [(0,.t 148)]),gi 150 (.build 150 [I 0,I 0,.nul,.nul,.nul] [(0,(none,.k (I 7))),(4,(none,.t 149))]),g0 (.sto 4 (.t 150) (some 5))]
def r_Z33_34 : List GI:=[gd 152 .eql 44 9,gt 151 152]
def r_Z33_35 : List GI:=[gt 153 8,gd 154 .gtr 153 1]
def r_Z33_36 : List GI:=[gt 155 5,gt 156 8,gc 157 65 [.t 155,.t 156],gi 158 (.bslx 158 2000158 1 none [I 0] [(0,.t 157)]),gs 159 7 5,gi 160 (.bsl 160 5 (some 5) [.agg [I 0,I 0,.nul,.nul,.nul]] [(0,.t 159)]),gi 161 (.build 161 [I 0,I 0,.nul,.nul,.nul] [(0,(none,.k (I 8))),(3,(none,.t 158)),(4,(none,.t 160))]),g0 (.sto 4 (.t 161) (some 5))]
def r_Z33_37 : List GI:=[gs 162 7 5,gi 163 (.bsl 163 5 (some 5) [.agg [I 0,I 0,.nul,.nul,.nul]] [(0,.t 162)]),gi 164 (.build 164 [I 0,I 0,.nul,.nul,.nul] [(0,(none,.k (I 8))),(4,(none,.t 163))]),g0 (.sto 4 (.t 164) (some 5))]
def r_Z33_38 : List GI:=[gt 165 5,gt 166 8,gc 167 155 [.t 165,.t 166],gs 168 7 5,gc 169 154 [.t 167,.t 168],g0 (.sto 4 (.t 169) (some 5))]
def dc_Z33 : DC:=.seq (.z r_Z33_0) (.seq (.z r_Z33_1) (.seq (.z r_Z33_2) (.seq (.seq (.z r_Z33_3) (.cond (.t 31) (.seq (.z r_Z33_4) .ret) .skip)) (.seq (.z r_Z33_5) (.seq (.reg r_Z33_6 (some [0,0,2,6,14,31,63])) (.seq (.seq (.z r_Z33_7) (.block 0 (.seq (.seq (.z r_Z33_8) (.cond (.t 45) .skip (.seq (.z r_Z33_9) (.cond (.t 45) .skip (.z r_Z33_10))))) (.cond (.t 45) (.seq (.reg r_Z33_11 (some [0,0,3,0,15,31])) .ret) (.seq (.seq (.z r_Z33_12) (.cond (.t 54) .skip (.z r_Z33_13))) (.cond (.t 54) (.seq (.z r_Z33_14) (.seq (.seq (.z r_Z33_15) (.block 1 (.loop (.seq (.seq (.z r_Z33_16) (.cond (.t 62) .skip (.exit 1))) (.seq (.block 2 (.z r_Z33_17)) (.z r_Z33_18)))))) (.seq (.z r_Z33_19) .ret))) (.seq (.seq (.z r_Z33_20) (.cond (.t 77) .skip (.z r_Z33_21))) (.cond (.t 77) (.seq (.z r_Z33_22) (.cond (.t 88) (.seq (.z r_Z33_23) (.seq (.z r_Z33_24) (.seq (.reg r_Z33_25 (some [0,0,0,4,12,28,62,127,255])) (.seq (.z r_Z33_26) (.cond (.t 110) (.seq (.reg r_Z33_27 (some [0,0,3,0,0,31,63,0,0,384,1023,2047])) .ret) .skip))))) .skip)) (.seq (.z r_Z33_28) (.cond (.t 122) (.seq (.z r_Z33_29) (.cond (.t 128) (.seq (.z r_Z33_30) (.seq (.reg r_Z33_31 (some [0,0,0,6,0,30,62,127,255,511])) .ret)) .skip)) (.seq (.z r_Z33_32) (.cond (.t 146) (.seq (.z r_Z33_33) .ret) (.seq (.z r_Z33_34) (.cond (.t 151) (.seq (.seq (.z r_Z33_35) (.cond (.t 154) (.seq (.reg r_Z33_36 (some [0,0,3,7,0,16,63,127])) .ret) .skip)) (.seq (.z r_Z33_37) .ret)) .skip)))))))))))))) (.seq (.reg r_Z33_38 (some [0,0,3,0,15,31])) .ret)))))))
theorem c_Z33 : cfun Tryz.prog [117,158] 153 = some (170,dc_Z33,[(Res.cell 4 (some 5))]):=by kernel_rfl
def r_Z94_0 : List GI:=[gi 4 (.alloc 4 2000004 [I 0,I 0,.nul,.nul,.nul])]
def r_Z94_1 : List GI:=[gt 7 0,gt 8 1,gi 9 (.build 9 [.v (.pointer none),.nul,I 0,I 0] [(0,(none,.t 7)),(1,(none,.t 8)),(2,(none,.k (I 1))),(3,(none,.k (I 1)))]),gi 10 (.box 10 2000010 (.t 9) (some 4)),gt 5 10]
def r_Z94_2 : List GI:=[gt 11 5,gt 12 0,gc 13 65 [.t 12,.k (I 4)],gi 14 (.bin 14 .add (.k (I 1)) (.t 13)),gc 15 153 [.t 11,.t 14],gi 6 (.alloc 6 2000006 [I 0,I 0,.nul,.nul,.nul]),g0 (.sto 6 (.t 15) (some 5))]
def r_Z94_3 : List GI:=[gt 16 0,gc 17 65 [.t 16,.k (I 2)],gd 18 .eql 17 0]
def r_Z94_4 : List GI:=[gt 19 0,gs 20 6 5,gt 21 1,gc 22 95 [.t 20,.t 21,.k (I 8)],gc 23 155 [.t 19,.t 22],gs 24 6 5,gc 25 154 [.t 23,.t 24],g0 (.sto 4 (.t 25) (some 5))]
def r_Z94_5 : List GI:=[gs 26 6 5,g0 (.sto 4 (.t 26) (some 5))]
def dc_Z94 : DC:=.seq (.z r_Z94_0) (.seq (.z r_Z94_1) (.seq (.z r_Z94_2) (.seq (.seq (.z r_Z94_3) (.cond (.t 18) (.seq (.reg r_Z94_4 (some [0,0,0,6,15,0,63,127])) .ret) .skip)) (.seq (.z r_Z94_5) .ret))))
theorem c_Z94 : cfun Tryz.prog [] 120 = some (27,dc_Z94,[(Res.cell 4 (some 5))]):=by kernel_rfl
def r_Z55_0 : List GI:=[gi 2 (.mov 2 (.k .nul))]
def r_Z55_1 : List GI:=[gi 5 (.mov 5 (.k .nul)),gt 3 5]
def r_Z55_2 : List GI:=[gt 6 0,gc 7 65 [.t 6,.k (I 2)],gi 8 (.bin 8 .add (.k (I 2)) (.t 7)),gt 4 8]
def r_Z55_3 : List GI:=[gt 9 4,gd 10 .gtr 9 0]
def r_Z55_4 : List GI:=[gt 13 3,gt 14 0,gc 15 65 [.t 14,.k (I 2)],gi 16 (.bin 16 .add (.k (I 1)) (.t 15)),gi 17 (.bsl 17 1 none [I 0] [(0,.t 16)]),gi 18 (.app 18 2000018 (.t 13) (.t 17) 1 8),gt 3 18]
def r_Z55_5 : List GI:=[gt 11 4,gd 12 .sub 11 1,gt 4 12]
def r_Z55_6 : List GI:=[gt 19 3,gt 2 19]
def dc_Z55 : DC:=.seq (.z r_Z55_0) (.seq (.z r_Z55_1) (.seq (.seq (.z r_Z55_2) (.block 0 (.loop (.seq (.seq (.z r_Z55_3) (.cond (.t 10) .skip (.exit 0))) (.seq (.block 1 (.z r_Z55_4)) (.z r_Z55_5)))))) (.seq (.z r_Z55_6) .ret)))
theorem c_Z55 : cfun Tryz.prog [] 80 = some (20,dc_Z55,[(Res.tmp 2)]):=by kernel_rfl
def r_Z148_0 : List GI:=[gi 4 (.alloc 4 2000004 [I 0,I 0,.nul,.nul,.nul])]
def r_Z148_1 : List GI:=[gt 6 0,gt 7 1,gc 8 120 [.t 6,.t 7],gi 5 (.alloc 5 2000005 [I 0,I 0,.nul,.nul,.nul]),g0 (.sto 5 (.t 8) (some 5))]
def r_Z148_2 : List GI:=[gt 9 0,gc 10 65 [.t 9,.k (I 18)]]
def r_Z148_3 : List GI:=[gd 12 .eql 10 0,gt 11 12]
def r_Z148_4 : List GI:=[gt 13 0,gi 14 (.bsl 14 1 none [I 0,I 0,I 0,I 0] [(0,.k (I 0)),(1,.k (I 9)),(2,.k (I 1)),(3,.k (I 4))]),gc 15 82 [.t 13,.t 14],gf 16 5 0,g0 (.sto 16 (.t 15) none)]
def r_Z148_5 : List GI:=[gd 18 .eql 10 1,gt 17 18]
def r_Z148_6 : List GI:=[gt 19 0,gi 20 (.bsl 20 1 none [I 0,I 0,I 0] [(0,.k (.v (.int .i64 (-1)))),(1,.k (I 4)),(2,.k (I 1))]),gc 21 82 [.t 19,.t 20],gf 22 5 1,g0 (.sto 22 (.t 21) none)]
def r_Z148_7 : List GI:=[gd 24 .eql 10 2,gt 23 24]
def r_Z148_8 : List GI:=[gf 25 5 3,gl 26 25,gt 27 0,gi 28 (.bsl 28 1 none [I 0,I 0] [(0,.k (I 0)),(1,.k (I 9))]),gc 29 82 [.t 27,.t 28],gi 30 (.bsl 30 1 none [I 0] [(0,.t 29)]),gi 31 (.app 31 2000031 (.t 26) (.t 30) 1 8),gf 32 5 3,g0 (.sto 32 (.t 31) none)]
def r_Z148_9 : List GI:=[gd 34 .eql 10 3,gt 33 34]
def r_Z148_10 : List GI:=[gf 35 5 2,gl 36 35,gt 37 0,gc 38 121 [.t 37,.k (I 2)],gi 39 (.bsl 39 5 (some 5) [.agg [I 0,I 0,.v (.bool false),I 0,.nul]] [(0,.t 38)]),gi 40 (.app 40 2000040 (.t 36) (.t 39) 5 56),gf 41 5 2,g0 (.sto 41 (.t 40) none)]
def r_Z148_11 : List GI:=[gs 42 5 5,g0 (.sto 4 (.t 42) (some 5))]
def dc_Z148 : DC:=.seq (.z r_Z148_0) (.seq (.z r_Z148_1) (.seq (.seq (.z r_Z148_2) (.block 0 (.seq (.z r_Z148_3) (.cond (.t 11) (.z r_Z148_4) (.seq (.z r_Z148_5) (.cond (.t 17) (.z r_Z148_6) (.seq (.z r_Z148_7) (.cond (.t 23) (.reg r_Z148_8 (some [0,1,0,0,12,28,63,127,255])) (.seq (.z r_Z148_9) (.cond (.t 33) (.reg r_Z148_10 (some [0,1,0,4,12,31,63,127])) .skip)))))))))) (.seq (.z r_Z148_11) .ret)))
theorem c_Z148 : cfun Tryz.prog [] 81 = some (43,dc_Z148,[(Res.cell 4 (some 5))]):=by kernel_rfl
def r_Z40_0 : List GI:=[gi 2 (.alloc 2 2000002 [I 0,I 0,.nul,.nul,.nul]),gi 3 (.mov 3 (.k .nul))]
def r_Z40_1 : List GI:=[gt 6 0,gc 7 80 [.t 6],gt 4 7]
def r_Z40_2 : List GI:=[gt 8 0,gt 9 4,gc 10 81 [.t 8,.t 9],gi 5 (.alloc 5 2000005 [I 0,I 0,.nul,.nul,.nul]),g0 (.sto 5 (.t 10) (some 5))]
def r_Z40_3 : List GI:=[gt 11 0,gc 12 65 [.t 11,.k (I 18)],gd 13 .eql 12 0]
def r_Z40_4 : List GI:=[gt 14 4,gt 15 0,gi 16 (.bsl 16 1 none [I 0,I 0,I 0] [(0,.k (I 0)),(1,.k (I 7)),(2,.k (I 1))]),gc 17 82 [.t 15,.t 16],gi 18 (.iad 18 14 (.k (I 0)) 1),g0 (.sto 18 (.t 17) none)]
def r_Z40_5 : List GI:=[gs 19 5 5,gt 20 4,g0 (.sto 2 (.t 19) (some 5)),gt 3 20]
def dc_Z40 : DC:=.seq (.z r_Z40_0) (.seq (.z r_Z40_1) (.seq (.z r_Z40_2) (.seq (.seq (.z r_Z40_3) (.cond (.t 13) (.z r_Z40_4) .skip)) (.seq (.z r_Z40_5) .ret))))
theorem c_Z40 : cfun Tryz.prog [] 49 = some (21,dc_Z40,[(Res.cell 2 (some 5)),(Res.tmp 3)]):=by kernel_rfl
def r_Z129_0 : List GI:=[gi 2 (.box 2 2000002 (.t 0) (some 5)),gi 3 (.box 3 2000003 (.t 1) (some 5)),gi 4 (.mov 4 (.k (.v (.bool false))))]
def r_Z129_1 : List GI:=[gf 5 2 0,gl 6 5,gf 7 3 0,gl 8 7,gb 9 .eql 6 8,gt 10 9,⟨.fad 11 2 1,some 11,some (10,true),false⟩,⟨.lod 12 11 none,some 12,some (10,true),false⟩,⟨.fad 13 3 1,some 13,some (10,true),false⟩,⟨.lod 14 13 none,some 14,some (10,true),false⟩,⟨.bin 15 .eql (.t 12) (.t 14),some 15,some (10,true),false⟩,gi 16 (.pick 16 (.t 10) (.t 15) (.k (.v (.bool false)))),gt 17 16,⟨.fad 18 2 2,some 18,some (17,true),false⟩,⟨.lod 19 18 (some 2),some 19,some (17,true),false⟩,⟨.fad 20 3 2,some 20,some (17,true),false⟩,⟨.lod 21 20 (some 2),some 21,some (17,true),false⟩,⟨.eqs 22 false [false,true] (.t 19) (.t 21),some 22,some (17,true),false⟩,gi 23 (.pick 23 (.t 17) (.t 22) (.k (.v (.bool false)))),gt 24 23,⟨.fad 25 2 4,some 25,some (24,true),false⟩,⟨.lod 26 25 none,some 26,some (24,true),false⟩,⟨.fad 27 3 4,some 27,some (24,true),false⟩,⟨.lod 28 27 none,some 28,some (24,true),false⟩,⟨.call 29 112 [.t 26,.t 28,.k (.fn 113 [])],some 29,some (24,true),true⟩,gi 30 (.pick 30 (.t 24) (.t 29) (.k (.v (.bool false)))),gt 4 30]
def dc_Z129 : DC:=.seq (.z r_Z129_0) (.seq (.z r_Z129_1) .ret)
theorem c_Z129 : cfun Tryz.prog [] 113 = some (31,dc_Z129,[(Res.tmp 4)]):=by kernel_rfl
def r_Z130_0 : List GI:=[gi 2 (.box 2 2000002 (.t 0) (some 5)),gi 3 (.box 3 2000003 (.t 1) (some 5)),gi 4 (.mov 4 (.k (.v (.bool false))))]
def r_Z130_1 : List GI:=[gf 5 2 0,gl 6 5,gf 7 3 0,gl 8 7,gb 9 .eql 6 8,gt 10 9,⟨.fad 11 2 1,some 11,some (10,true),false⟩,⟨.lod 12 11 none,some 12,some (10,true),false⟩,⟨.fad 13 3 1,some 13,some (10,true),false⟩,⟨.lod 14 13 none,some 14,some (10,true),false⟩,⟨.bin 15 .eql (.t 12) (.t 14),some 15,some (10,true),false⟩,gi 16 (.pick 16 (.t 10) (.t 15) (.k (.v (.bool false)))),gt 17 16,⟨.fad 18 2 3,some 18,some (17,true),false⟩,⟨.lod 19 18 none,some 19,some (17,true),false⟩,⟨.fad 20 3 3,some 20,some (17,true),false⟩,⟨.lod 21 20 none,some 21,some (17,true),false⟩,⟨.call 22 111 [.t 19,.t 21],some 22,some (17,true),true⟩,gi 23 (.pick 23 (.t 17) (.t 22) (.k (.v (.bool false)))),gt 24 23,⟨.fad 25 2 2,some 25,some (24,true),false⟩,⟨.lod 26 25 none,some 26,some (24,true),false⟩,⟨.fad 27 3 2,some 27,some (24,true),false⟩,⟨.lod 28 27 none,some 28,some (24,true),false⟩,⟨.call 29 112 [.t 26,.t 28,.k (.fn 113 [])],some 29,some (24,true),true⟩,gi 30 (.pick 30 (.t 24) (.t 29) (.k (.v (.bool false)))),gt 31 30,⟨.fad 32 2 4,some 32,some (31,true),false⟩,⟨.lod 33 32 none,some 33,some (31,true),false⟩,⟨.fad 34 3 4,some 34,some (31,true),false⟩,⟨.lod 35 34 none,some 35,some (31,true),false⟩,⟨.call 36 114 [.t 33,.t 35,.k (.fn 66 [])],some 36,some (31,true),true⟩,gi 37 (.pick 37 (.t 31) (.t 36) (.k (.v (.bool false)))),gt 4 37]
def dc_Z130 : DC:=.seq (.z r_Z130_0) (.seq (.z r_Z130_1) .ret)
theorem c_Z130 : cfun Tryz.prog [] 66 = some (38,dc_Z130,[(Res.tmp 4)]):=by kernel_rfl
end
end Go.Proofs.YtgpdmgaemhelgaaGreat
namespace Go.Proofs.YtgpdmgaemhelgaaGreat
open Go.RowKit
noncomputable section
def r_Z88_0 : List GI:=[gi 4 (.mov 4 (.k (.v (.bool false))))]
def r_Z88_1 : List GI:=[gt 6 0,gn 7 6,gt 8 1,gn 9 8,gb 10 .neq 7 9]
def r_Z88_2 : List GI:=[gi 4 (.mov 4 (.k (.v (.bool false))))]
def r_Z88_3 : List GI:=[gk 5 0]
def r_Z88_4 : List GI:=[gt 11 5,gt 12 0,gn 13 12,gb 14 .lss 11 13]
def r_Z88_5 : List GI:=[gt 17 0,gt 18 5,ga 19 17 18 2,gf 20 19 0,gl 21 20,gt 22 1,gt 23 5,ga 24 22 23 2,gf 25 24 0,gl 26 25,gb 27 .neq 21 26,gt 28 27,⟨.mov 29 (.t 0),some 29,some (28,false),false⟩,⟨.mov 30 (.t 5),some 30,some (28,false),false⟩,⟨.iad 31 29 (.t 30) 2,some 31,some (28,false),false⟩,⟨.fad 32 31 1,some 32,some (28,false),false⟩,⟨.lod 33 32 none,some 33,some (28,false),false⟩,⟨.mov 34 (.t 1),some 34,some (28,false),false⟩,⟨.mov 35 (.t 5),some 35,some (28,false),false⟩,⟨.iad 36 34 (.t 35) 2,some 36,some (28,false),false⟩,⟨.fad 37 36 1,some 37,some (28,false),false⟩,⟨.lod 38 37 none,some 38,some (28,false),false⟩,⟨.call 39 20 [.t 33,.t 38],some 39,some (28,false),true⟩,⟨.un 40 UnOp.not (.t 39),some 40,some (28,false),false⟩,gi 41 (.pick 41 (.t 28) (.k (.v (.bool true))) (.t 40))]
def r_Z88_6 : List GI:=[gi 4 (.mov 4 (.k (.v (.bool false))))]
def r_Z88_7 : List GI:=[gt 15 5,gd 16 .add 15 1,gt 5 16]
def r_Z88_8 : List GI:=[gi 4 (.mov 4 (.k (.v (.bool true))))]
def dc_Z88 : DC:=.seq (.z r_Z88_0) (.seq (.seq (.z r_Z88_1) (.cond (.t 10) (.seq (.z r_Z88_2) .ret) .skip)) (.seq (.seq (.z r_Z88_3) (.block 0 (.loop (.seq (.seq (.z r_Z88_4) (.cond (.t 14) .skip (.exit 0))) (.seq (.block 1 (.seq (.reg r_Z88_5 (some [0,0,3,7,15,0,0,96,224,480,1023,2047,4095,4095,16383,32767,65535,4095,4095,397311,921599,1970175,4194303,8388607,16777215])) (.cond (.t 41) (.seq (.z r_Z88_6) .ret) .skip))) (.z r_Z88_7)))))) (.seq (.z r_Z88_8) .ret)))
theorem c_Z88 : cfun Tryz.prog [] 23 = some (42,dc_Z88,[(Res.tmp 4)]):=by kernel_rfl
end
end Go.Proofs.YtgpdmgaemhelgaaGreat
namespace Go.Proofs.YtgpdmgaemhelgaaGreat
open Go.RowKit
noncomputable section
def r_Z0_0 : List GI:=[gi 6 (.mov 6 (.k (.v (.bool false))))]
def r_Z0_1 : List GI:=[gt 10 0,gn 11 10,gt 12 1,gn 13 12,gb 14 .neq 11 13]
def r_Z0_2 : List GI:=[gi 6 (.mov 6 (.k (.v (.bool false))))]
def r_Z0_3 : List GI:=[gt 15 0,gn 16 15,gk 17 0]
def r_Z0_4 : List GI:=[gb 18 .lss 17 16]
def r_Z0_5 : List GI:=[gt 19 17,ga 20 15 17 5,gs 21 20 5,gi 8 (.alloc 8 2000008 [I 0,I 0,.v (.bool false),I 0,.nul]),gt 7 19,g0 (.sto 8 (.t 21) (some 5))]
def r_Z0_6 : List GI:=[gt 22 1,gt 23 7,ga 24 22 23 5,gs 25 24 5,gi 9 (.alloc 9 2000009 [I 0,I 0,.v (.bool false),I 0,.nul]),g0 (.sto 9 (.t 25) (some 5))]
def r_Z0_7 : List GI:=[gt 26 2,gs 27 8 5,gs 28 9 5,⟨.cal 29 (.t 26) [.t 27,.t 28],some 29,none,true⟩,gi 30 (.un 30 UnOp.not (.t 29))]
def r_Z0_8 : List GI:=[gi 6 (.mov 6 (.k (.v (.bool false))))]
def r_Z0_9 : List GI:=[gd 31 .add 17 1,gt 17 31]
def r_Z0_10 : List GI:=[gi 6 (.mov 6 (.k (.v (.bool true))))]
def dc_Z0 : DC:=.seq (.z r_Z0_0) (.seq (.seq (.z r_Z0_1) (.cond (.t 14) (.seq (.z r_Z0_2) .ret) .skip)) (.seq (.seq (.z r_Z0_3) (.block 0 (.loop (.seq (.z r_Z0_4) (.seq (.cond (.t 18) .skip (.exit 0)) (.seq (.block 1 (.seq (.z r_Z0_5) (.seq (.z r_Z0_6) (.seq (.z r_Z0_7) (.cond (.t 30) (.seq (.z r_Z0_8) .ret) .skip))))) (.z r_Z0_9))))))) (.seq (.z r_Z0_10) .ret)))
theorem c_Z0 : cfun Tryz.prog [] 112 = some (32,dc_Z0,[(Res.tmp 6)]):=by kernel_rfl
def r_Z1_0 : List GI:=[gi 6 (.mov 6 (.k (.v (.bool false))))]
def r_Z1_1 : List GI:=[gt 10 0,gn 11 10,gt 12 1,gn 13 12,gb 14 .neq 11 13]
def r_Z1_2 : List GI:=[gi 6 (.mov 6 (.k (.v (.bool false))))]
def r_Z1_3 : List GI:=[gt 15 0,gn 16 15,gk 17 0]
def r_Z1_4 : List GI:=[gb 18 .lss 17 16]
def r_Z1_5 : List GI:=[gt 19 17,ga 20 15 17 5,gs 21 20 5,gi 8 (.alloc 8 2000008 [I 0,I 0,.nul,.nul,.nul]),gt 7 19,g0 (.sto 8 (.t 21) (some 5))]
def r_Z1_6 : List GI:=[gt 22 1,gt 23 7,ga 24 22 23 5,gs 25 24 5,gi 9 (.alloc 9 2000009 [I 0,I 0,.nul,.nul,.nul]),g0 (.sto 9 (.t 25) (some 5))]
def r_Z1_7 : List GI:=[gt 26 2,gs 27 8 5,gs 28 9 5,⟨.cal 29 (.t 26) [.t 27,.t 28],some 29,none,true⟩,gi 30 (.un 30 UnOp.not (.t 29))]
def r_Z1_8 : List GI:=[gi 6 (.mov 6 (.k (.v (.bool false))))]
def r_Z1_9 : List GI:=[gd 31 .add 17 1,gt 17 31]
def r_Z1_10 : List GI:=[gi 6 (.mov 6 (.k (.v (.bool true))))]
def dc_Z1 : DC:=.seq (.z r_Z1_0) (.seq (.seq (.z r_Z1_1) (.cond (.t 14) (.seq (.z r_Z1_2) .ret) .skip)) (.seq (.seq (.z r_Z1_3) (.block 0 (.loop (.seq (.z r_Z1_4) (.seq (.cond (.t 18) .skip (.exit 0)) (.seq (.block 1 (.seq (.z r_Z1_5) (.seq (.z r_Z1_6) (.seq (.z r_Z1_7) (.cond (.t 30) (.seq (.z r_Z1_8) .ret) .skip))))) (.z r_Z1_9))))))) (.seq (.z r_Z1_10) .ret)))
theorem c_Z1 : cfun Tryz.prog [] 114 = some (32,dc_Z1,[(Res.tmp 6)]):=by kernel_rfl
def r_Z17_0 : List GI:=[gi 4 (.mov 4 (.k (.v (.bool false))))]
def r_Z17_1 : List GI:=[gt 6 0,gn 7 6,gt 8 1,gn 9 8,gb 10 .neq 7 9]
def r_Z17_2 : List GI:=[gi 4 (.mov 4 (.k (.v (.bool false))))]
def r_Z17_3 : List GI:=[gt 11 0,gn 12 11,gk 13 0]
def r_Z17_4 : List GI:=[gb 14 .lss 13 12]
def r_Z17_5 : List GI:=[gt 15 13,gt 5 15]
def r_Z17_6 : List GI:=[gt 16 0,gt 17 5,ga 18 16 17 1,gl 19 18,gt 20 1,gt 21 5,ga 22 20 21 1,gl 23 22,gb 24 .neq 19 23]
def r_Z17_7 : List GI:=[gi 4 (.mov 4 (.k (.v (.bool false))))]
def r_Z17_8 : List GI:=[gd 25 .add 13 1,gt 13 25]
def r_Z17_9 : List GI:=[gi 4 (.mov 4 (.k (.v (.bool true))))]
def dc_Z17 : DC:=.seq (.z r_Z17_0) (.seq (.seq (.z r_Z17_1) (.cond (.t 10) (.seq (.z r_Z17_2) .ret) .skip)) (.seq (.seq (.z r_Z17_3) (.block 0 (.loop (.seq (.z r_Z17_4) (.seq (.cond (.t 14) .skip (.exit 0)) (.seq (.block 1 (.seq (.z r_Z17_5) (.seq (.reg r_Z17_6 (some [0,0,3,7,0,0,48,112,255])) (.cond (.t 24) (.seq (.z r_Z17_7) .ret) .skip)))) (.z r_Z17_8))))))) (.seq (.z r_Z17_9) .ret)))
theorem c_Z17 : cfun Tryz.prog [] 111 = some (26,dc_Z17,[(Res.tmp 4)]):=by kernel_rfl
def r_Z43_0 : List GI:=[gi 4 (.box 4 2000004 (.t 0) (some 5)),gi 5 (.box 5 2000005 (.t 1) (some 5)),gi 8 (.mov 8 (.k (.v (.bool false))))]
def r_Z43_1 : List GI:=[gt 12 3,gs 13 4 5,gt 14 2,gc 15 63 [.t 12,.t 13,.t 14],gt 11 15,gi 16 (.ext 16 11 0),gi 17 (.ext 17 11 1),gi 9 (.alloc 9 2000009 [I 0,I 0,.nul,.nul,.nul]),g0 (.sto 9 (.t 16) (some 5)),gt 10 17]
def r_Z43_2 : List GI:=[gt 18 10,gt 19 18,⟨.lod 20 9 (some 5),some 20,some (19,true),false⟩,⟨.lod 21 5 (some 5),some 21,some (19,true),false⟩,⟨.call 22 66 [.t 20,.t 21],some 22,some (19,true),true⟩,gi 23 (.pick 23 (.t 19) (.t 22) (.k (.v (.bool false)))),gt 8 23]
def dc_Z43 : DC:=.seq (.z r_Z43_0) (.seq (.z r_Z43_1) (.seq (.z r_Z43_2) .ret))
theorem c_Z43 : cfun Tryz.prog [] 32 = some (24,dc_Z43,[(Res.tmp 8)]):=by kernel_rfl
end
end Go.Proofs.YtgpdmgaemhelgaaGreat
namespace Go.Proofs.YtgpdmgaemhelgaaGreat
open Go.RowKit
theorem code_fz {a : Option Addr} {len cap : Nat} {zs : List Int} {w : World} (h : IsRow .u8 w a len cap zs) : ∃ cs : List Nat,(∀ b,b ∈ cs → b < 256) ∧ Fz w (allOf w) noNames (bytesD cs) (.slice a len cap):=by
 rcases h with ⟨rfl,rfl,rfl,rfl⟩ | ⟨x,rfl,hl,hm,hz,hc,hwz⟩
 ·exact ⟨[],(fun b h=>by cases h),.sl0 _ 1 none 0⟩
 ·by_cases h0 : len = 0
  ·subst h0
   exact ⟨[],(fun b h=>by cases h),.sl0 _ 1 (some x) cap⟩
  ·obtain ⟨b,off,sp⟩:=x
   have hsp : sp = none:=by
    have:=hc 0 (by omega)
    unfold World.cell? at this
    split at this
    ·cases sp with
     | none=>rfl
     | some s=>simp [Addr.add] at this
    ·cases this
   subst hsp
   have hc' : ∀ i,i < cap → w.cell? ⟨b,off + i,none⟩ = some (.int .u8 (zs.getD i 0)):=fun i hi=>by have:=hc i (by omega); rwa [Addr.add_lit] at this
   have hb : b < w.heap.size:=by
    have:=hc' 0 (by omega)
    unfold World.cell? at this
    split at this
    ·rename_i h; exact (Array.getElem?_eq_some_iff.1 h).1
    ·cases this
   have hrange : ∀ i,i < cap → 0 ≤ zs.getD i 0 ∧ zs.getD i 0 < 256:=fun i hi=>by
    have hm : zs.getD i 0 ∈ zs:=by rw [List.getD_eq_getElem?_getD,List.getElem?_eq_getElem (by omega)]; exact List.getElem_mem _
    have:=hwz _ hm
    generalize zs.getD i 0 = z at this ⊢
    simp [Lit.wf,IntKind.min,IntKind.max,IntKind.bits,IntKind.signed] at this
    omega
   refine ⟨(List.range len).map fun i=>(zs.getD i 0).toNat,fun n hn=>?_,?_⟩
   ·obtain ⟨i,hi,rfl⟩:=List.mem_map.1 hn
    have:=hrange i (by have:=List.mem_range.1 hi; omega)
    omega
   ·have hlen : (((List.range len).map fun i=>(zs.getD i 0).toNat).map byteD).length = len:=by simp
    have:=Fz.sl (w:=w) (F:=allOf w) noNames 1 (((List.range len).map fun i=>(zs.getD i 0).toNat).map byteD) b off cap (fun k=>.int .u8 (zs.getD k 0)) (by decide) (by rw [hlen]; exact hl) (fun e he=>?_) (fun k hk=>?_) (fun k d hd=>?_)
    ·rw [hlen] at this
     exact this
    ·obtain ⟨n,_,rfl⟩:=List.mem_map.1 he
     rfl
    ·rw [hlen] at hk
     exact ⟨hc' k (by omega),hb,rfl⟩
    ·have hf : ∀ l : List Nat,D.flat (l.map byteD) = l.map byteD:=by
      intro l
      induction l with
      | nil=>rfl
      | cons n l ih=>rw [List.map_cons,D.flat,List.flatMap_cons,← D.flat,ih]; rfl
     rw [hf,List.getElem?_map,List.getElem?_map] at hd
     have hk : k < len:=by
      cases hr : (List.range len)[k]? with
      | none=>rw [hr] at hd; cases hd
      | some j=>have:=(List.getElem?_eq_some_iff.1 hr).1; simpa using this
     rw [List.getElem?_range hk] at hd
     obtain rfl : byteD (zs.getD k 0).toNat = d:=by simpa using hd
     have:=hrange k (by omega)
     unfold byteD
     rw [Int.toNat_of_nonneg this.1]
     exact .v _ _
theorem walk_of {f : FuncId} (hdo : ∀ cs : List Nat,(∀ b,b ∈ cs → b < 256) → Does Tryz.prog f [] [bytesD cs] (Bo true) []) (a : Option Addr) (len cap : Nat) (zs : List Int) (w : World) (h : IsRow .u8 w a len cap zs) :
  Calls Tryz.prog f #[.slice a len cap] w fun e W'=>e = .returned (.bool true) ∧ Below w.heap.size w W':=by
 obtain ⟨cs,hcs,hfz⟩:=code_fz h
 refine calls_of (hdo cs hcs) w [.slice a len cap] rfl (fun i d x hd hx=>?_)
 rcases i with _ | i
 ·obtain rfl : bytesD cs = d:=by simpa using hd
  obtain rfl : Value.slice a len cap = x:=by simpa using hx
  exact hfz
 ·simp at hd
end Go.Proofs.YtgpdmgaemhelgaaGreat
