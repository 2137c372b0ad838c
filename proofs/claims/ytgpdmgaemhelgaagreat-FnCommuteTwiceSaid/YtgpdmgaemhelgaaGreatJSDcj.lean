/-
  Functions of the program read as code on plain data. Closed facts of the program alone.
-/
import Derived.KernelRfl
import Derived.Test.YtgpdmgaemhelgaaGreatRows
import Derived.Test.YtgpdmgaemhelgaaGreatJSVCall
namespace Go.Proofs.YtgpdmgaemhelgaaGreat
open Go.RowKit
noncomputable section
def r_Z72_0 : List GI:=[gi 2 (.box 2 2000002 (.t 0) (some 5)),gi 3 (.box 3 2000003 (.t 1) (some 5)),gi 4 (.mov 4 (.k (.v (.bool false))))]
def r_Z72_1 : List GI:=[gf 6 2 0,gl 7 6,gf 8 3 0,gl 9 8,gb 10 .neq 7 9,gt 11 10,⟨.fad 12 2 1,some 12,some (11,false),false⟩,⟨.lod 13 12 none,some 13,some (11,false),false⟩,⟨.fad 14 3 1,some 14,some (11,false),false⟩,⟨.lod 15 14 none,some 15,some (11,false),false⟩,⟨.bin 16 .neq (.t 13) (.t 15),some 16,some (11,false),false⟩,gi 17 (.pick 17 (.t 11) (.k (.v (.bool true))) (.t 16)),gt 18 17,⟨.fad 19 2 2,some 19,some (18,false),false⟩,⟨.lod 20 19 none,some 20,some (18,false),false⟩,⟨.fad 21 3 2,some 21,some (18,false),false⟩,⟨.lod 22 21 none,some 22,some (18,false),false⟩,⟨.call 23 27 [.t 20,.t 22],some 23,some (18,false),true⟩,⟨.un 24 UnOp.not (.t 23),some 24,some (18,false),false⟩,gi 25 (.pick 25 (.t 18) (.k (.v (.bool true))) (.t 24)),gt 26 25,⟨.fad 27 2 3,some 27,some (26,false),false⟩,⟨.lod 28 27 none,some 28,some (26,false),false⟩,⟨.fad 29 3 3,some 29,some (26,false),false⟩,⟨.lod 30 29 none,some 30,some (26,false),false⟩,⟨.call 31 20 [.t 28,.t 30],some 31,some (26,false),true⟩,⟨.un 32 UnOp.not (.t 31),some 32,some (26,false),false⟩,gi 33 (.pick 33 (.t 26) (.k (.v (.bool true))) (.t 32)),gt 34 33,⟨.fad 35 2 4,some 35,some (34,false),false⟩,⟨.lod 36 35 none,some 36,some (34,false),false⟩,⟨.len 37 (.t 36),some 37,some (34,false),false⟩,⟨.fad 38 3 4,some 38,some (34,false),false⟩,⟨.lod 39 38 none,some 39,some (34,false),false⟩,⟨.len 40 (.t 39),some 40,some (34,false),false⟩,⟨.bin 41 .neq (.t 37) (.t 40),some 41,some (34,false),false⟩,gi 42 (.pick 42 (.t 34) (.k (.v (.bool true))) (.t 41))]
def r_Z72_2 : List GI:=[gi 4 (.mov 4 (.k (.v (.bool false))))]
def r_Z72_3 : List GI:=[gk 5 0]
def r_Z72_4 : List GI:=[gt 43 5,gf 44 2 4,gl 45 44,gn 46 45,gb 47 .lss 43 46]
def r_Z72_5 : List GI:=[gf 50 2 4,gl 51 50,gt 52 5,ga 53 51 52 5,gs 54 53 5,gf 55 3 4,gl 56 55,gt 57 5,ga 58 56 57 5,gs 59 58 5,gc 60 18 [.t 54,.t 59],gi 61 (.un 61 UnOp.not (.t 60))]
def r_Z72_6 : List GI:=[gi 4 (.mov 4 (.k (.v (.bool false))))]
def r_Z72_7 : List GI:=[gt 48 5,gd 49 .add 48 1,gt 5 49]
def r_Z72_8 : List GI:=[gi 4 (.mov 4 (.k (.v (.bool true))))]
def dc_Z72 : DC:=.seq (.z r_Z72_0) (.seq (.seq (.z r_Z72_1) (.cond (.t 42) (.seq (.z r_Z72_2) .ret) .skip)) (.seq (.seq (.z r_Z72_3) (.block 0 (.loop (.seq (.seq (.z r_Z72_4) (.cond (.t 47) .skip (.exit 0))) (.seq (.block 1 (.seq (.reg r_Z72_5 (some [0,1,0,7,15,0,32,0,224,480,1023,2047])) (.cond (.t 61) (.seq (.z r_Z72_6) .ret) .skip))) (.z r_Z72_7)))))) (.seq (.z r_Z72_8) .ret)))
theorem c_Z72 : cfun Tryz.prog [] 18 = some (62,dc_Z72,[(Res.tmp 4)]):=by kernel_rfl
def r_Z140_0 : List GI:=[gi 2 (.box 2 2000002 (.t 0) (some 5)),gi 4 (.alloc 4 2000004 [I 0,I 0,.nul,.nul,.nul]),gi 5 (.mov 5 (.k (.v (.bool false))))]
def r_Z140_1 : List GI:=[gk 6 0]
def r_Z140_2 : List GI:=[gt 7 6,gt 8 1,gn 9 8,gb 10 .lss 7 9]
def r_Z140_3 : List GI:=[gt 13 1,gt 14 6,ga 15 13 14 1,gl 16 15,gf 17 2 4,gl 18 17,gn 19 18,gd 20 .sub 19 1,gc 21 136 [.t 16,.k (I 0),.t 20],gi 22 (.un 22 UnOp.not (.t 21))]
def r_Z140_4 : List GI:=[gi 23 (.build 23 [I 0,I 0,.nul,.nul,.nul] []),g0 (.sto 4 (.t 23) (some 5)),gi 5 (.mov 5 (.k (.v (.bool false))))]
def r_Z140_5 : List GI:=[gf 24 2 4,gl 25 24,gt 26 1,gt 27 6,ga 28 26 27 1,gl 29 28,ga 30 25 29 5,gs 31 30 5,g0 (.sto 2 (.t 31) (some 5))]
def r_Z140_6 : List GI:=[gt 11 6,gd 12 .add 11 1,gt 6 12]
def r_Z140_7 : List GI:=[gs 32 2 5,g0 (.sto 4 (.t 32) (some 5)),gi 5 (.mov 5 (.k (.v (.bool true))))]
def dc_Z140 : DC:=.seq (.z r_Z140_0) (.seq (.seq (.z r_Z140_1) (.block 0 (.loop (.seq (.seq (.z r_Z140_2) (.cond (.t 10) .skip (.exit 0))) (.seq (.block 1 (.seq (.seq (.reg r_Z140_3 (some [0,0,3,7,0,16,48,112,255,511])) (.cond (.t 22) (.seq (.z r_Z140_4) .ret) .skip)) (.reg r_Z140_5 (some [0,1,0,0,12,28,63,127,255])))) (.z r_Z140_6)))))) (.seq (.z r_Z140_7) .ret))
theorem c_Z140 : cfun Tryz.prog [] 96 = some (33,dc_Z140,[(Res.cell 4 (some 5)),(Res.tmp 5)]):=by kernel_rfl
def r_Z96_0 : List GI:=[gi 6 (.alloc 6 2000006 [I 0,I 0,.v (.bool false),I 0,.nul])]
def r_Z96_1 : List GI:=[gt 10 0,gt 11 1,gc 12 65 [.t 10,.t 11],gi 13 (.build 13 [I 0,I 0,.v (.bool false),I 0,.nul] [(0,(none,.k (I 1))),(1,(none,.t 12))]),gi 7 (.alloc 7 2000007 [I 0,I 0,.v (.bool false),I 0,.nul]),g0 (.sto 7 (.t 13) (some 5))]
def r_Z96_2 : List GI:=[gt 14 0,gc 15 65 [.t 14,.k (I 4)],gi 16 (.build 16 [.v (.bool false),I 0] [(1,(none,.t 15))]),gc 17 179 [.t 16],gi 8 (.alloc 8 2000008 [I 0,I 0,.v (.bool false),I 0,.nul]),g0 (.sto 8 (.t 17) (some 5))]
def r_Z96_3 : List GI:=[gt 18 0,gc 19 65 [.t 18,.k (I 3)],gd 20 .eql 19 0]
def r_Z96_4 : List GI:=[gt 21 0,gt 22 1,gc 23 65 [.t 21,.t 22],gi 24 (.build 24 [I 0,I 0,.v (.bool false),I 0,.nul] [(0,(none,.k (I 1))),(1,(none,.t 23))]),g0 (.sto 8 (.t 24) (some 5))]
def r_Z96_5 : List GI:=[gt 25 0,gc 26 65 [.t 25,.k (I 8)],gt 9 26]
def r_Z96_6 : List GI:=[gt 27 9,gd 28 .eql 27 2,gt 29 28,⟨.mov 30 (.t 2),some 30,some (29,true),false⟩,⟨.bin 31 .eql (.t 30) (.k (I 0)),some 31,some (29,true),false⟩,gi 32 (.pick 32 (.t 29) (.t 31) (.k (.v (.bool false))))]
def r_Z96_7 : List GI:=[gk 9 5]
def r_Z96_8 : List GI:=[gt 33 9]
def r_Z96_9 : List GI:=[gd 35 .eql 33 0,gt 34 35]
def r_Z96_10 : List GI:=[gt 36 0,gt 37 1,gc 38 156 [.t 36,.t 37,.k (I 2)],g0 (.sto 6 (.t 38) (some 5))]
def r_Z96_11 : List GI:=[gd 40 .eql 33 1,gt 39 40]
def r_Z96_12 : List GI:=[gs 41 7 5,gi 42 (.bsl 42 5 (some 5) [.agg [I 0,I 0,.v (.bool false),I 0,.nul]] [(0,.t 41)]),gi 43 (.build 43 [I 0,I 0,.v (.bool false),I 0,.nul] [(0,(none,.k (I 11))),(4,(none,.t 42))]),gi 44 (.bsl 44 5 (some 5) [.agg [I 0,I 0,.v (.bool false),I 0,.nul]] [(0,.t 43)]),gi 45 (.build 45 [I 0,I 0,.v (.bool false),I 0,.nul] [(0,(none,.k (I 10))),(4,(none,.t 44))]),g0 (.sto 6 (.t 45) (some 5))]
def r_Z96_13 : List GI:=[gd 47 .eql 33 2,gt 46 47]
def r_Z96_14 : List GI:=[gt 48 0,gt 49 1,gt 50 2,gd 51 .sub 50 1,gc 52 178 [.t 48,.t 49,.t 51],gs 53 7 5,gs 54 8 5,gi 55 (.bsl 55 5 (some 5) [.agg [I 0,I 0,.v (.bool false),I 0,.nul],.agg [I 0,I 0,.v (.bool false),I 0,.nul]] [(0,.t 53),(1,.t 54)]),gi 56 (.build 56 [I 0,I 0,.v (.bool false),I 0,.nul] [(0,(none,.k (I 6))),(4,(none,.t 55))]),gi 57 (.bsl 57 5 (some 5) [.agg [I 0,I 0,.v (.bool false),I 0,.nul],.agg [I 0,I 0,.v (.bool false),I 0,.nul]] [(0,.t 52),(1,.t 56)]),gi 58 (.build 58 [I 0,I 0,.v (.bool false),I 0,.nul] [(0,(none,.k (I 8))),(4,(none,.t 57))]),g0 (.sto 6 (.t 58) (some 5))]
def r_Z96_15 : List GI:=[gd 60 .eql 33 3,gt 59 60]
def r_Z96_16 : List GI:=[gd 61 .eql 33 4,gt 59 61]
def r_Z96_17 : List GI:=[gs 62 8 5,gs 63 7 5,gi 64 (.bsl 64 5 (some 5) [.agg [I 0,I 0,.v (.bool false),I 0,.nul],.agg [I 0,I 0,.v (.bool false),I 0,.nul]] [(0,.t 62),(1,.t 63)]),gi 65 (.build 65 [I 0,I 0,.v (.bool false),I 0,.nul] [(0,(none,.k (I 7))),(4,(none,.t 64))]),g0 (.sto 6 (.t 65) (some 5))]
def r_Z96_18 : List GI:=[gd 67 .eql 33 5,gt 66 67]
def r_Z96_19 : List GI:=[gs 68 7 5,gs 69 8 5,gi 70 (.bsl 70 5 (some 5) [.agg [I 0,I 0,.v (.bool false),I 0,.nul],.agg [I 0,I 0,.v (.bool false),I 0,.nul]] [(0,.t 68),(1,.t 69)]),gi 71 (.build 71 [I 0,I 0,.v (.bool false),I 0,.nul] [(0,(none,.k (I 7))),(4,(none,.t 70))]),g0 (.sto 6 (.t 71) (some 5))]
def r_Z96_20 : List GI:=[gs 72 7 5,gs 73 8 5,gi 74 (.bsl 74 5 (some 5) [.agg [I 0,I 0,.v (.bool false),I 0,.nul],.agg [I 0,I 0,.v (.bool false),I 0,.nul]] [(0,.t 72),(1,.t 73)]),gi 75 (.build 75 [I 0,I 0,.v (.bool false),I 0,.nul] [(0,(none,.k (I 6))),(4,(none,.t 74))]),g0 (.sto 6 (.t 75) (some 5))]
def dc_Z96 : DC:=.seq (.z r_Z96_0) (.seq (.z r_Z96_1) (.seq (.z r_Z96_2) (.seq (.seq (.z r_Z96_3) (.cond (.t 20) (.z r_Z96_4) .skip)) (.seq (.z r_Z96_5) (.seq (.seq (.z r_Z96_6) (.cond (.t 32) (.z r_Z96_7) .skip)) (.seq (.seq (.z r_Z96_8) (.block 0 (.seq (.z r_Z96_9) (.cond (.t 34) (.seq (.z r_Z96_10) .ret) (.seq (.z r_Z96_11) (.cond (.t 39) (.seq (.z r_Z96_12) .ret) (.seq (.z r_Z96_13) (.cond (.t 46) (.seq (.reg r_Z96_14 (some [0,0,0,4,15,0,0,96,224,511,1023,2047])) .ret) (.seq (.seq (.z r_Z96_15) (.cond (.t 59) .skip (.z r_Z96_16))) (.cond (.t 59) (.seq (.z r_Z96_17) .ret) (.seq (.z r_Z96_18) (.cond (.t 66) (.seq (.z r_Z96_19) .ret) .skip)))))))))))) (.seq (.z r_Z96_20) .ret)))))))
theorem c_Z96 : cfun Tryz.prog [] 178 = some (76,dc_Z96,[(Res.cell 6 (some 5))]):=by kernel_rfl
def r_Z18_0 : List GI:=[gi 4 (.alloc 4 2000004 [I 0,I 0,.v (.bool false),I 0,.nul])]
def r_Z18_1 : List GI:=[gt 5 0,gt 6 1,gc 7 178 [.t 5,.t 6,.k (I 2)],g0 (.sto 4 (.t 7) (some 5))]
def dc_Z18 : DC:=.seq (.z r_Z18_0) (.seq (.z r_Z18_1) .ret)
theorem c_Z18 : cfun Tryz.prog [] 155 = some (8,dc_Z18,[(Res.cell 4 (some 5))]):=by kernel_rfl
def r_Z29_0 : List GI:=[gi 4 (.alloc 4 2000004 [I 0,I 0,.nul,.nul,.nul])]
def r_Z29_1 : List GI:=[gt 13 0,gi 14 (.nilc 14 13),gf 15 14 0,gl 16 15,gt 5 16]
def r_Z29_2 : List GI:=[gt 17 5,gt 18 0,gi 19 (.nilc 19 18),gf 20 19 1,gl 21 20,gn 22 21,gc 23 65 [.t 17,.t 22],gi 24 (.build 24 [I 0,I 0,.nul,.nul,.nul] [(0,(none,.k (I 1))),(1,(none,.t 23))]),gi 6 (.alloc 6 2000006 [I 0,I 0,.nul,.nul,.nul]),g0 (.sto 6 (.t 24) (some 5))]
def r_Z29_3 : List GI:=[gt 25 1,gd 26 .eql 25 0,gt 27 26,⟨.mov 28 (.t 5),some 28,some (27,false),false⟩,⟨.call 29 65 [.t 28,.k (I 6)],some 29,some (27,false),true⟩,⟨.bin 30 .eql (.t 29) (.k (I 0)),some 30,some (27,false),false⟩,gi 31 (.pick 31 (.t 27) (.k (.v (.bool true))) (.t 30))]
def r_Z29_4 : List GI:=[gs 32 6 5,g0 (.sto 4 (.t 32) (some 5))]
def r_Z29_5 : List GI:=[gt 33 0,gt 34 1,gd 35 .sub 34 1,gc 36 153 [.t 33,.t 35],gi 7 (.alloc 7 2000007 [I 0,I 0,.nul,.nul,.nul]),g0 (.sto 7 (.t 36) (some 5))]
def r_Z29_6 : List GI:=[gs 37 7 5,gt 38 0,gi 39 (.nilc 39 38),gf 40 39 1,gl 41 40,gc 42 95 [.t 37,.t 41,.k (I 8)],gt 8 42]
def r_Z29_7 : List GI:=[gt 43 5,gc 44 65 [.t 43,.k (I 10)]]
def r_Z29_8 : List GI:=[gd 46 .eql 44 0,gt 45 46]
def r_Z29_9 : List GI:=[gd 47 .eql 44 1,gt 45 47]
def r_Z29_10 : List GI:=[gd 48 .eql 44 2,gt 45 48]
def r_Z29_11 : List GI:=[gt 49 5,gt 50 8,gc 51 155 [.t 49,.t 50],gs 52 7 5,gc 53 154 [.t 51,.t 52],g0 (.sto 4 (.t 53) (some 5))]
def r_Z29_12 : List GI:=[gd 55 .eql 44 3,gt 54 55]
def r_Z29_13 : List GI:=[gd 56 .eql 44 4,gt 54 56]
def r_Z29_14 : List GI:=[gi 57 (.mov 57 (.k .nul)),gt 9 57]
def r_Z29_15 : List GI:=[gt 58 5,gc 59 65 [.t 58,.k (I 2)],gi 60 (.bin 60 .add (.k (I 1)) (.t 59)),gt 10 60]
def r_Z29_16 : List GI:=[gt 61 10,gd 62 .gtr 61 0]
def r_Z29_17 : List GI:=[gt 65 9,gt 66 5,gt 67 8,gt 68 5,gc 69 65 [.t 68,.k (I 2)],gc 70 156 [.t 66,.t 67,.t 69],gi 71 (.bsl 71 5 (some 5) [.agg [I 0,I 0,.v (.bool false),I 0,.nul]] [(0,.t 70)]),gi 72 (.app 72 2000072 (.t 65) (.t 71) 5 56),gt 9 72]
def r_Z29_18 : List GI:=[gt 63 10,gd 64 .sub 63 1,gt 10 64]
def r_Z29_19 : List GI:=[gt 73 9,gs 74 7 5,gi 75 (.bsl 75 5 (some 5) [.agg [I 0,I 0,.nul,.nul,.nul]] [(0,.t 74)]),gi 76 (.build 76 [I 0,I 0,.nul,.nul,.nul] [(0,(none,.k (I 3))),(2,(none,.t 73)),(4,(none,.t 75))]),g0 (.sto 4 (.t 76) (some 5))]
def r_Z29_20 : List GI:=[gd 78 .eql 44 5,gt 77 78]
def r_Z29_21 : List GI:=[gd 79 .eql 44 6,gt 77 79]
def r_Z29_22 : List GI:=[gt 80 0,gi 81 (.nilc 81 80),gf 82 81 2,gl 83 82,gd 84 .gtr 83 0,gt 85 84,⟨.mov 86 (.t 8),some 86,some (85,true),false⟩,⟨.bin 87 .leq (.t 86) (.k (I 4)),some 87,some (85,true),false⟩,gi 88 (.pick 88 (.t 85) (.t 87) (.k (.v (.bool false))))]
def r_Z29_23 : List GI:=[gt 89 0,gt 90 0,gi 91 (.nilc 91 90),gf 92 91 2,gl 93 92,gd 94 .sub 93 1,gi 95 (.nilc 95 89),gf 96 95 2,g0 (.sto 96 (.t 94) none)]
def r_Z29_24 : List GI:=[gt 97 0,gt 98 5,gc 99 65 [.t 98,.k (I 2)],gc 100 153 [.t 97,.t 99],gi 11 (.alloc 11 2000011 [I 0,I 0,.nul,.nul,.nul]),g0 (.sto 11 (.t 100) (some 5))]
def r_Z29_25 : List GI:=[gt 101 8,gs 102 11 5,gt 103 0,gi 104 (.nilc 104 103),gf 105 104 1,gl 106 105,gc 107 95 [.t 102,.t 106,.k (I 8)],gb 108 .add 101 107,gt 12 108]
def r_Z29_26 : List GI:=[gt 109 12,gd 110 .leq 109 6]
def r_Z29_27 : List GI:=[gt 111 5,gi 112 (.bsl 112 1 none [I 0,I 0] [(0,.k (I 4)),(1,.k (I 5))]),gc 113 82 [.t 111,.t 112],gt 114 5,gt 115 12,gc 116 155 [.t 114,.t 115],gi 117 (.bsl 117 5 (some 5) [.agg [I 0,I 0,.v (.bool false),I 0,.nul]] [(0,.t 116)]),gs 118 7 5,gs 119 11 5,gi 120 (.bsl 120 5 (some 5) [.agg [I 0,I 0,.nul,.nul,.nul],.agg [I 0,I 0,.nul,.nul,.nul]] [(0,.t 118),(1,.t 119)]),gi 121 (.build 121 [I 0,I 0,.nul,.nul,.nul] [(0,(none,.t 113)),(2,(none,.t 117)),(4,(none,.t 120))]),g0 (.sto 4 (.t 121) (some 5))]
def r_Z29_28 : List GI:=[gd 123 .eql 44 7,gt 122 123]
def r_Z29_29 : List GI:=[gt 124 0,gi 125 (.nilc 125 124),gf 126 125 3,gl 127 126,gd 128 .gtr 127 0]
def r_Z29_30 : List GI:=[gt 129 0,gt 130 0,gi 131 (.nilc 131 130),gf 132 131 3,gl 133 132,gd 134 .sub 133 1,gi 135 (.nilc 135 129),gf 136 135 3,g0 (.sto 136 (.t 134) none)]
def r_Z29_31 : List GI:=[gs 137 7 5,gt 138 5,gt 139 8,gc 140 155 [.t 138,.t 139],gs 141 7 5,gc 142 64 [.t 141],gc 143 154 [.t 140,.t 142],gi 144 (.bsl 144 5 (some 5) [.agg [I 0,I 0,.nul,.nul,.nul],.agg [I 0,I 0,.nul,.nul,.nul]] [(0,.t 137),(1,.t 143)]),gi 145 (.build 145 [I 0,I 0,.nul,.nul,.nul] [(0,(none,.k (I 6))),(4,(none,.t 144))]),g0 (.sto 4 (.t 145) (some 5))]
def r_Z29_32 : List GI:=[gd 147 .eql 44 8,gt 146 147]
def r_Z29_33 : List GI:=[gs 148 7 5,gi 149 (.bsl 149 5 (some 5) [.agg [I 0,I 0,.nul,.nul,.nul]] [(0,.t 148)]),gi 150 (.build 150 [I 0,I 0,.nul,.nul,.nul] [(0,(none,.k (I 7))),(4,(none,.t 149))]),g0 (.sto 4 (.t 150) (some 5))]
def r_Z29_34 : List GI:=[gd 152 .eql 44 9,gt 151 152]
def r_Z29_35 : List GI:=[gt 153 8,gd 154 .gtr 153 1]
def r_Z29_36 : List GI:=[gt 155 5,gt 156 8,gc 157 65 [.t 155,.t 156],gi 158 (.bsl 158 1 none [I 0] [(0,.t 157)]),gs 159 7 5,gi 160 (.bsl 160 5 (some 5) [.agg [I 0,I 0,.nul,.nul,.nul]] [(0,.t 159)]),gi 161 (.build 161 [I 0,I 0,.nul,.nul,.nul] [(0,(none,.k (I 8))),(3,(none,.t 158)),(4,(none,.t 160))]),g0 (.sto 4 (.t 161) (some 5))]
def r_Z29_37 : List GI:=[gs 162 7 5,gi 163 (.bsl 163 5 (some 5) [.agg [I 0,I 0,.nul,.nul,.nul]] [(0,.t 162)]),gi 164 (.build 164 [I 0,I 0,.nul,.nul,.nul] [(0,(none,.k (I 8))),(4,(none,.t 163))]),g0 (.sto 4 (.t 164) (some 5))]
def r_Z29_38 : List GI:=[gt 165 5,gt 166 8,gc 167 155 [.t 165,.t 166],gs 168 7 5,gc 169 154 [.t 167,.t 168],g0 (.sto 4 (.t 169) (some 5))]
def dc_Z29 : DC:=.seq (.z r_Z29_0) (.seq (.z r_Z29_1) (.seq (.z r_Z29_2) (.seq (.seq (.z r_Z29_3) (.cond (.t 31) (.seq (.z r_Z29_4) .ret) .skip)) (.seq (.z r_Z29_5) (.seq (.reg r_Z29_6 (some [0,0,2,6,14,31,63])) (.seq (.seq (.z r_Z29_7) (.block 0 (.seq (.seq (.z r_Z29_8) (.cond (.t 45) .skip (.seq (.z r_Z29_9) (.cond (.t 45) .skip (.z r_Z29_10))))) (.cond (.t 45) (.seq (.reg r_Z29_11 (some [0,0,3,0,15,31])) .ret) (.seq (.seq (.z r_Z29_12) (.cond (.t 54) .skip (.z r_Z29_13))) (.cond (.t 54) (.seq (.z r_Z29_14) (.seq (.seq (.z r_Z29_15) (.block 1 (.loop (.seq (.seq (.z r_Z29_16) (.cond (.t 62) .skip (.exit 1))) (.seq (.block 2 (.z r_Z29_17)) (.z r_Z29_18)))))) (.seq (.z r_Z29_19) .ret))) (.seq (.seq (.z r_Z29_20) (.cond (.t 77) .skip (.z r_Z29_21))) (.cond (.t 77) (.seq (.z r_Z29_22) (.cond (.t 88) (.seq (.z r_Z29_23) (.seq (.z r_Z29_24) (.seq (.reg r_Z29_25 (some [0,0,0,4,12,28,62,127,255])) (.seq (.z r_Z29_26) (.cond (.t 110) (.seq (.reg r_Z29_27 (some [0,0,3,0,0,31,63,0,0,384,1023,2047])) .ret) .skip))))) .skip)) (.seq (.z r_Z29_28) (.cond (.t 122) (.seq (.z r_Z29_29) (.cond (.t 128) (.seq (.z r_Z29_30) (.seq (.reg r_Z29_31 (some [0,0,0,6,0,30,62,127,255,511])) .ret)) .skip)) (.seq (.z r_Z29_32) (.cond (.t 146) (.seq (.z r_Z29_33) .ret) (.seq (.z r_Z29_34) (.cond (.t 151) (.seq (.seq (.z r_Z29_35) (.cond (.t 154) (.seq (.reg r_Z29_36 (some [0,0,3,7,0,16,63,127])) .ret) .skip)) (.seq (.z r_Z29_37) .ret)) .skip)))))))))))))) (.seq (.reg r_Z29_38 (some [0,0,3,0,15,31])) .ret)))))))
theorem c_Z29 : cfun Tryz.prog [] 153 = some (170,dc_Z29,[(Res.cell 4 (some 5))]):=by kernel_rfl
def r_Z97_0 : List GI:=[gi 2 (.box 2 2000002 (.t 0) (some 5)),gi 3 (.box 3 2000003 (.t 1) (some 5)),gi 4 (.alloc 4 2000004 [I 0,I 0,.nul,.nul,.nul])]
def r_Z97_1 : List GI:=[gs 5 2 5,gi 6 (.bslx 6 2000006 5 (some 5) [.agg [I 0,I 0,.v (.bool false),I 0,.nul]] [(0,.t 5)]),gs 7 3 5,gi 8 (.bsl 8 5 (some 5) [.agg [I 0,I 0,.nul,.nul,.nul]] [(0,.t 7)]),gi 9 (.build 9 [I 0,I 0,.nul,.nul,.nul] [(0,(none,.k (I 2))),(2,(none,.t 6)),(4,(none,.t 8))]),g0 (.sto 4 (.t 9) (some 5))]
def dc_Z97 : DC:=.seq (.z r_Z97_0) (.seq (.z r_Z97_1) .ret)
theorem c_Z97 : cfun Tryz.prog [6] 154 = some (10,dc_Z97,[(Res.cell 4 (some 5))]):=by kernel_rfl
end
end Go.Proofs.YtgpdmgaemhelgaaGreat
namespace Go.Proofs.YtgpdmgaemhelgaaGreat
open Go.RowKit
noncomputable section
def r_Z81_0 : List GI:=[gi 3 (.box 3 2000003 (.t 0) (some 5)),gi 5 (.box 5 2000005 (.t 2) (some 2)),gi 6 (.alloc 6 2000006 [I 0,I 0,.nul,.nul,.nul]),gi 7 (.mov 7 (.k (.v (.bool false))))]
def r_Z81_1 : List GI:=[gs 10 3 5,gt 11 1,gc 12 19 [.t 10,.t 11],gd 13 .eql 12 0]
def r_Z81_2 : List GI:=[gi 14 (.build 14 [I 0,I 0,.nul,.nul,.nul] []),g0 (.sto 6 (.t 14) (some 5)),gi 7 (.mov 7 (.k (.v (.bool false))))]
def r_Z81_3 : List GI:=[gs 16 5 2,gs 17 3 5,gt 18 1,gc 19 51 [.t 16,.t 17,.t 18],gt 15 19,gi 20 (.ext 20 15 0),gi 21 (.ext 21 15 1),gi 8 (.alloc 8 2000008 [I 0,I 0,.nul,.nul,.nul]),g0 (.sto 8 (.t 20) (some 5)),gt 9 21]
def r_Z81_4 : List GI:=[gt 22 9,gi 23 (.un 23 UnOp.not (.t 22))]
def r_Z81_5 : List GI:=[gi 24 (.build 24 [I 0,I 0,.nul,.nul,.nul] []),g0 (.sto 6 (.t 24) (some 5)),gi 7 (.mov 7 (.k (.v (.bool false))))]
def r_Z81_6 : List GI:=[gs 25 8 5,gc 26 52 [.t 25],g0 (.sto 6 (.t 26) (some 5)),gi 7 (.mov 7 (.k (.v (.bool true))))]
def dc_Z81 : DC:=.seq (.z r_Z81_0) (.seq (.seq (.z r_Z81_1) (.cond (.t 13) (.seq (.z r_Z81_2) .ret) .skip)) (.seq (.z r_Z81_3) (.seq (.seq (.z r_Z81_4) (.cond (.t 23) (.seq (.z r_Z81_5) .ret) .skip)) (.seq (.z r_Z81_6) .ret))))
theorem c_Z81 : cfun Tryz.prog [] 16 = some (27,dc_Z81,[(Res.cell 6 (some 5)),(Res.tmp 7)]):=by kernel_rfl
def r_Z32_0 : List GI:=[gi 3 (.box 3 2000003 (.t 0) (some 2)),gi 4 (.box 4 2000004 (.t 1) (some 5)),gi 6 (.alloc 6 2000006 [I 0,I 0,.nul,.nul,.nul]),gi 7 (.mov 7 (.k (.v (.bool false))))]
def r_Z32_1 : List GI:=[gf 13 3 1,gl 14 13,gc 15 84 [],gt 8 14,gt 9 15]
def r_Z32_2 : List GI:=[gt 17 8,gs 18 4 5,gc 19 85 [.t 17,.t 18],gt 16 19,gi 20 (.ext 20 16 0),gi 21 (.ext 21 16 1),gi 10 (.alloc 10 2000010 [I 0,I 0,.nul,.nul,.nul]),g0 (.sto 10 (.t 20) (some 5)),gt 11 21]
def r_Z32_3 : List GI:=[gt 22 11,gi 23 (.un 23 UnOp.not (.t 22)),gt 24 23,⟨.fad 25 3 0,some 25,some (24,false),false⟩,⟨.lod 26 25 none,some 26,some (24,false),false⟩,⟨.bin 27 .lss (.t 26) (.k (I 0)),some 27,some (24,false),false⟩,gi 28 (.pick 28 (.t 24) (.k (.v (.bool true))) (.t 27)),gt 29 28,⟨.fad 30 3 0,some 30,some (29,false),false⟩,⟨.lod 31 30 none,some 31,some (29,false),false⟩,⟨.mov 32 (.t 9),some 32,some (29,false),false⟩,⟨.len 33 (.t 32),some 33,some (29,false),false⟩,⟨.bin 34 .geq (.t 31) (.t 33),some 34,some (29,false),false⟩,gi 35 (.pick 35 (.t 29) (.k (.v (.bool true))) (.t 34))]
def r_Z32_4 : List GI:=[gi 36 (.build 36 [I 0,I 0,.nul,.nul,.nul] []),g0 (.sto 6 (.t 36) (some 5)),gi 7 (.mov 7 (.k (.v (.bool false))))]
def r_Z32_5 : List GI:=[gt 38 9,gf 39 3 0,gl 40 39,ga 41 38 40 3,gs 42 41 3,gs 43 10 5,gt 44 2,gt 45 8,gn 46 45,gi 47 (.bin 47 .sub (.k (I 8)) (.t 46)),gc 48 86 [.t 42,.t 43,.t 44,.t 47],gt 37 48,gi 49 (.ext 49 37 0),gi 50 (.ext 50 37 1),g0 (.sto 10 (.t 49) (some 5)),gt 12 50]
def r_Z32_6 : List GI:=[gt 51 12,gi 52 (.un 52 UnOp.not (.t 51))]
def r_Z32_7 : List GI:=[gi 53 (.build 53 [I 0,I 0,.nul,.nul,.nul] []),g0 (.sto 6 (.t 53) (some 5)),gi 7 (.mov 7 (.k (.v (.bool false))))]
def r_Z32_8 : List GI:=[gt 54 8,gs 55 4 5,gs 56 10 5,gc 57 87 [.t 54,.t 55,.t 56],g0 (.sto 6 (.t 57) (some 5)),gi 7 (.mov 7 (.k (.v (.bool true))))]
def dc_Z32 : DC:=.seq (.z r_Z32_0) (.seq (.reg r_Z32_1 (some [0,1,0,7,15])) (.seq (.z r_Z32_2) (.seq (.seq (.z r_Z32_3) (.cond (.t 35) (.seq (.z r_Z32_4) .ret) .skip)) (.seq (.reg r_Z32_5 (some [0,0,2,7,15,0,0,0,128,384,1023,2047,4095,4095,8191,32767])) (.seq (.seq (.z r_Z32_6) (.cond (.t 52) (.seq (.z r_Z32_7) .ret) .skip)) (.seq (.z r_Z32_8) .ret))))))
theorem c_Z32 : cfun Tryz.prog [] 51 = some (58,dc_Z32,[(Res.cell 6 (some 5)),(Res.tmp 7)]):=by kernel_rfl
end
end Go.Proofs.YtgpdmgaemhelgaaGreat
