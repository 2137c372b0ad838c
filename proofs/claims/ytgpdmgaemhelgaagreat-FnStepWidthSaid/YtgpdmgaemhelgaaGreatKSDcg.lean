/-
  Functions of the program read as code on plain data. Closed facts of the program alone.
-/
import Derived.KernelRfl
import Derived.Test.YtgpdmgaemhelgaaGreatRows
import Derived.Test.YtgpdmgaemhelgaaGreatJSVCall
namespace Go.Proofs.YtgpdmgaemhelgaaGreat
open Go.RowKit
noncomputable section
def r_Z30_0 : List GI:=[gi 3 (.box 3 2000003 (.t 0) (some 5)),gi 6 (.alloc 6 2000006 [I 0,I 0,.nul,.nul,.nul]),gi 7 (.mov 7 (.k (.v (.bool false))))]
def r_Z30_1 : List GI:=[gf 15 3 2,gl 16 15,gi 17 (.iad 17 16 (.k (I 0)) 5),gs 18 17 5,gi 8 (.alloc 8 2000008 [I 0,I 0,.v (.bool false),I 0,.nul]),g0 (.sto 8 (.t 18) (some 5))]
def r_Z30_2 : List GI:=[gf 19 3 4,gl 20 19,gi 21 (.iad 21 20 (.k (I 0)) 5),gs 22 21 5,gi 9 (.alloc 9 2000009 [I 0,I 0,.nul,.nul,.nul]),g0 (.sto 9 (.t 22) (some 5))]
def r_Z30_3 : List GI:=[gk 10 0]
def r_Z30_4 : List GI:=[gf 23 9 4,gl 24 23,gn 25 24,gd 26 .gtr 25 0]
def r_Z30_5 : List GI:=[gf 27 9 4,gl 28 27,gi 29 (.iad 29 28 (.k (I 0)) 5),gs 30 29 5,gt 31 2,gc 32 95 [.t 30,.t 31,.k (I 8)],gt 10 32]
def r_Z30_6 : List GI:=[gs 33 9 5,gt 34 2,gc 35 95 [.t 33,.t 34,.k (I 8)],gt 11 35]
def r_Z30_7 : List GI:=[gf 36 9 0,gl 37 36,gd 38 .eql 37 4,gt 12 38]
def r_Z30_8 : List GI:=[gf 39 9 0,gl 40 39,gd 41 .eql 40 5,gt 13 41]
def r_Z30_9 : List GI:=[gt 43 1,gd 44 .eql 43 1,gt 45 44,⟨.fad 46 9 0,some 46,some (45,true),false⟩,⟨.lod 47 46 none,some 47,some (45,true),false⟩,⟨.bin 48 .eql (.t 47) (.k (I 2)),some 48,some (45,true),false⟩,gi 49 (.pick 49 (.t 45) (.t 48) (.k (.v (.bool false)))),gt 42 49]
def r_Z30_10 : List GI:=[gf 50 9 2,gl 51 50,gi 52 (.iad 52 51 (.k (I 0)) 5),gs 53 52 5,gs 54 8 5,gi 55 (.bsl 55 5 (some 5) [.agg [I 0,I 0,.v (.bool false),I 0,.nul],.agg [I 0,I 0,.v (.bool false),I 0,.nul]] [(0,.t 53),(1,.t 54)]),gi 56 (.build 56 [I 0,I 0,.v (.bool false),I 0,.nul] [(0,(none,.k (I 8))),(4,(none,.t 55))]),gf 57 9 4,gl 58 57,gi 59 (.iad 59 58 (.k (I 0)) 5),gs 60 59 5,gc 61 154 [.t 56,.t 60],g0 (.sto 6 (.t 61) (some 5)),gi 7 (.mov 7 (.k (.v (.bool true))))]
def r_Z30_11 : List GI:=[gt 63 1,gd 64 .eql 63 2,gt 65 64,⟨.fad 66 8 0,some 66,some (65,true),false⟩,⟨.lod 67 66 none,some 67,some (65,true),false⟩,⟨.bin 68 .eql (.t 67) (.k (I 8)),some 68,some (65,true),false⟩,gi 69 (.pick 69 (.t 65) (.t 68) (.k (.v (.bool false)))),gt 62 69]
def r_Z30_12 : List GI:=[gf 70 8 4,gl 71 70,gi 72 (.iad 72 71 (.k (I 1)) 5),gs 73 72 5,gf 74 8 4,gl 75 74,gi 76 (.iad 76 75 (.k (I 0)) 5),gs 77 76 5,gs 78 9 5,gc 79 154 [.t 77,.t 78],gc 80 154 [.t 73,.t 79],g0 (.sto 6 (.t 80) (some 5)),gi 7 (.mov 7 (.k (.v (.bool true))))]
def r_Z30_13 : List GI:=[gt 82 1,gd 83 .eql 82 3,gt 84 83,⟨.mov 85 (.t 12),some 85,some (84,true),false⟩,⟨.mov 86 (.t 85),some 86,some (84,true),false⟩,⟨.mov 87 (.t 13),some 87,some (86,false),false⟩,⟨.pick 88 (.t 86) (.k (.v (.bool true))) (.t 87),some 88,some (84,true),false⟩,gi 89 (.pick 89 (.t 84) (.t 88) (.k (.v (.bool false)))),gt 90 89,⟨.lod 91 8 (some 5),some 91,some (90,true),false⟩,⟨.mov 92 (.t 10),some 92,some (90,true),false⟩,⟨.bin 93 .sub (.t 92) (.k (I 1)),some 93,some (90,true),false⟩,⟨.call 94 173 [.t 91,.k (I 0),.t 93],some 94,some (90,true),true⟩,gi 95 (.pick 95 (.t 90) (.t 94) (.k (.v (.bool false)))),gt 81 95]
def r_Z30_14 : List GI:=[gf 96 9 0,gl 97 96,gf 98 9 2,gl 99 98,gs 100 8 5,gf 101 9 4,gl 102 101,gi 103 (.iad 103 102 (.k (I 0)) 5),gs 104 103 5,gc 105 154 [.t 100,.t 104],gf 106 9 4,gl 107 106,gi 108 (.iad 108 107 (.k (I 1)) 5),gs 109 108 5,gi 110 (.bsl 110 5 (some 5) [.agg [I 0,I 0,.nul,.nul,.nul],.agg [I 0,I 0,.nul,.nul,.nul]] [(0,.t 105),(1,.t 109)]),gi 111 (.build 111 [I 0,I 0,.nul,.nul,.nul] [(0,(none,.t 97)),(2,(none,.t 99)),(4,(none,.t 110))]),g0 (.sto 6 (.t 111) (some 5)),gi 7 (.mov 7 (.k (.v (.bool true))))]
def r_Z30_15 : List GI:=[gt 113 1,gd 114 .eql 113 4,gt 115 114,⟨.mov 116 (.t 12),some 116,some (115,true),false⟩,gi 117 (.pick 117 (.t 115) (.t 116) (.k (.v (.bool false)))),gt 118 117,⟨.lod 119 8 (some 5),some 119,some (118,true),false⟩,⟨.mov 120 (.t 10),some 120,some (118,true),false⟩,⟨.mov 121 (.t 11),some 121,some (118,true),false⟩,⟨.bin 122 .sub (.t 121) (.k (I 1)),some 122,some (118,true),false⟩,⟨.call 123 173 [.t 119,.t 120,.t 122],some 123,some (118,true),true⟩,gi 124 (.pick 124 (.t 118) (.t 123) (.k (.v (.bool false)))),gt 112 124]
def r_Z30_16 : List GI:=[gt 125 10,gc 126 142 [.k (I 0),.t 125],gt 127 11,gt 128 10,gb 129 .sub 127 128,gc 130 142 [.k (I 0),.t 129],gi 131 (.app 131 2000131 (.t 126) (.t 130) 5 56),gt 14 131]
def r_Z30_17 : List GI:=[gf 132 9 0,gl 133 132,gf 134 9 2,gl 135 134,gf 136 9 4,gl 137 136,gi 138 (.iad 138 137 (.k (I 0)) 5),gs 139 138 5,gs 140 8 5,gt 141 14,gc 142 143 [.t 140,.t 141],gf 143 9 4,gl 144 143,gi 145 (.iad 145 144 (.k (I 1)) 5),gs 146 145 5,gc 147 154 [.t 142,.t 146],gi 148 (.bsl 148 5 (some 5) [.agg [I 0,I 0,.nul,.nul,.nul],.agg [I 0,I 0,.nul,.nul,.nul]] [(0,.t 139),(1,.t 147)]),gi 149 (.build 149 [I 0,I 0,.nul,.nul,.nul] [(0,(none,.t 133)),(2,(none,.t 135)),(4,(none,.t 148))]),g0 (.sto 6 (.t 149) (some 5)),gi 7 (.mov 7 (.k (.v (.bool true))))]
def r_Z30_18 : List GI:=[gt 151 1,gd 152 .eql 151 5,gt 153 152,⟨.mov 154 (.t 12),some 154,some (153,true),false⟩,gi 155 (.pick 155 (.t 153) (.t 154) (.k (.v (.bool false)))),gt 150 155]
def r_Z30_19 : List GI:=[gf 156 9 0,gl 157 156,gf 158 9 2,gl 159 158,gi 160 (.iad 160 159 (.k (I 0)) 5),gs 161 160 5,gs 162 8 5,gi 163 (.bsl 163 5 (some 5) [.agg [I 0,I 0,.v (.bool false),I 0,.nul],.agg [I 0,I 0,.v (.bool false),I 0,.nul]] [(0,.t 161),(1,.t 162)]),gi 164 (.build 164 [I 0,I 0,.v (.bool false),I 0,.nul] [(0,(none,.k (I 8))),(4,(none,.t 163))]),gi 165 (.bsl 165 5 (some 5) [.agg [I 0,I 0,.v (.bool false),I 0,.nul]] [(0,.t 164)]),gf 166 9 4,gl 167 166,gi 168 (.build 168 [I 0,I 0,.nul,.nul,.nul] [(0,(none,.t 157)),(2,(none,.t 165)),(4,(none,.t 167))]),g0 (.sto 6 (.t 168) (some 5)),gi 7 (.mov 7 (.k (.v (.bool true))))]
def r_Z30_20 : List GI:=[gt 170 1,gd 171 .eql 170 7,gt 172 171,⟨.mov 173 (.t 13),some 173,some (172,true),false⟩,gi 174 (.pick 174 (.t 172) (.t 173) (.k (.v (.bool false)))),gt 175 174,⟨.lod 176 8 (some 5),some 176,some (175,true),false⟩,⟨.mov 177 (.t 11),some 177,some (175,true),false⟩,⟨.mov 178 (.t 10),some 178,some (175,true),false⟩,⟨.mov 179 (.t 11),some 179,some (175,true),false⟩,⟨.call 180 175 [.t 178,.t 179],some 180,some (175,true),true⟩,⟨.call 181 174 [.t 176,.t 177,.t 180],some 181,some (175,true),true⟩,gi 182 (.pick 182 (.t 175) (.t 181) (.k (.v (.bool false)))),gt 169 182]
def r_Z30_21 : List GI:=[gs 183 8 5,gf 184 9 2,gl 185 184,gf 186 9 4,gl 187 186,gi 188 (.build 188 [I 0,I 0,.nul,.nul,.nul] [(0,(none,.k (I 4))),(2,(none,.t 185)),(4,(none,.t 187))]),gc 189 154 [.t 183,.t 188],g0 (.sto 6 (.t 189) (some 5)),gi 7 (.mov 7 (.k (.v (.bool true))))]
def r_Z30_22 : List GI:=[gt 191 1,gd 192 .eql 191 8,gt 193 192,⟨.fad 194 9 0,some 194,some (193,true),false⟩,⟨.lod 195 194 none,some 195,some (193,true),false⟩,⟨.bin 196 .eql (.t 195) (.k (I 6)),some 196,some (193,true),false⟩,gi 197 (.pick 197 (.t 193) (.t 196) (.k (.v (.bool false)))),gt 190 197]
def r_Z30_23 : List GI:=[gs 198 8 5,gf 199 9 4,gl 200 199,gi 201 (.iad 201 200 (.k (I 0)) 5),gs 202 201 5,gc 203 154 [.t 198,.t 202],gs 204 8 5,gf 205 9 4,gl 206 205,gi 207 (.iad 207 206 (.k (I 1)) 5),gs 208 207 5,gc 209 154 [.t 204,.t 208],gi 210 (.bsl 210 5 (some 5) [.agg [I 0,I 0,.nul,.nul,.nul],.agg [I 0,I 0,.nul,.nul,.nul]] [(0,.t 203),(1,.t 209)]),gi 211 (.build 211 [I 0,I 0,.nul,.nul,.nul] [(0,(none,.k (I 6))),(4,(none,.t 210))]),g0 (.sto 6 (.t 211) (some 5)),gi 7 (.mov 7 (.k (.v (.bool true))))]
def r_Z30_24 : List GI:=[gt 213 1,gd 214 .eql 213 10,gt 215 214,⟨.fad 216 9 0,some 216,some (215,true),false⟩,⟨.lod 217 216 none,some 217,some (215,true),false⟩,⟨.bin 218 .eql (.t 217) (.k (I 3)),some 218,some (215,true),false⟩,gi 219 (.pick 219 (.t 215) (.t 218) (.k (.v (.bool false)))),gt 212 219]
def r_Z30_25 : List GI:=[gf 220 9 2,gl 221 220,gs 222 8 5,gf 223 9 2,gl 224 223,gc 225 143 [.t 222,.t 224],gf 226 9 4,gl 227 226,gi 228 (.iad 228 227 (.k (I 0)) 5),gs 229 228 5,gc 230 154 [.t 225,.t 229],gi 231 (.bsl 231 5 (some 5) [.agg [I 0,I 0,.nul,.nul,.nul]] [(0,.t 230)]),gi 232 (.build 232 [I 0,I 0,.nul,.nul,.nul] [(0,(none,.k (I 3))),(2,(none,.t 221)),(4,(none,.t 231))]),g0 (.sto 6 (.t 232) (some 5)),gi 7 (.mov 7 (.k (.v (.bool true))))]
def r_Z30_26 : List GI:=[gs 233 3 5,g0 (.sto 6 (.t 233) (some 5)),gi 7 (.mov 7 (.k (.v (.bool false))))]
def dc_Z30 : DC:=.seq (.z r_Z30_0) (.seq (.z r_Z30_1) (.seq (.z r_Z30_2) (.seq (.z r_Z30_3) (.seq (.seq (.z r_Z30_4) (.cond (.t 26) (.z r_Z30_5) .skip)) (.seq (.z r_Z30_6) (.seq (.z r_Z30_7) (.seq (.z r_Z30_8) (.seq (.block 0 (.seq (.z r_Z30_9) (.cond (.t 42) (.seq (.reg r_Z30_10 (some [0,1,3,7,0,31,63,0,128,384,896,2047,4095,8191])) .ret) (.seq (.z r_Z30_11) (.cond (.t 62) (.seq (.reg r_Z30_12 (some [0,1,3,7,0,16,48,112,0,496,1023,2047,4095])) .ret) (.seq (.z r_Z30_13) (.cond (.t 81) (.seq (.reg r_Z30_14 (some [0,1,0,4,0,0,32,96,224,496,0,1024,3072,7168,16368,32767,65535,131071])) .ret) (.seq (.z r_Z30_15) (.cond (.t 112) (.seq (.z r_Z30_16) (.seq (.reg r_Z30_17 (some [0,1,0,4,0,16,48,112,0,0,768,0,2048,6144,14336,32512,65520,131071,262143,524287])) .ret)) (.seq (.z r_Z30_18) (.cond (.t 150) (.seq (.reg r_Z30_19 (some [0,1,0,4,12,28,0,124,252,508,0,1024,4095,8191,16383])) .ret) (.seq (.reg r_Z30_20 (some [0,1,3,7,15,31,63,63,63,63,831,2047,4095,8191])) (.cond (.t 169) (.seq (.z r_Z30_21) .ret) (.seq (.z r_Z30_22) (.cond (.t 190) (.seq (.reg r_Z30_23 (some [0,0,2,6,14,31,0,0,128,384,896,2047,4095,8191,16383,32767])) .ret) (.seq (.z r_Z30_24) (.cond (.t 212) (.seq (.reg r_Z30_25 (some [0,1,0,0,8,28,0,64,192,448,1020,2044,4095,8191,16383])) .ret) .skip))))))))))))))))) (.seq (.z r_Z30_26) .ret)))))))))
theorem c_Z30 : cfun Tryz.prog [] 141 = some (234,dc_Z30,[(Res.cell 6 (some 5)),(Res.tmp 7)]):=by kernel_rfl
def r_Z31_0 : List GI:=[gi 3 (.box 3 2000003 (.t 0) (some 5)),gi 6 (.mov 6 (.k (.v (.bool false))))]
def r_Z31_1 : List GI:=[gs 9 3 5,gt 10 1,gc 11 146 [.t 9,.t 10],gi 12 (.un 12 UnOp.not (.t 11))]
def r_Z31_2 : List GI:=[gi 6 (.mov 6 (.k (.v (.bool false))))]
def r_Z31_3 : List GI:=[gt 13 1,gi 14 (.mks 14 2000014 (.t 13) 1 8 (I 0)),gt 7 14]
def r_Z31_4 : List GI:=[gt 15 7,gn 16 15,gk 17 0]
def r_Z31_5 : List GI:=[gb 18 .lss 17 16]
def r_Z31_6 : List GI:=[gt 19 17,gt 8 19]
def r_Z31_7 : List GI:=[gt 20 7,gt 21 8,ga 22 20 21 1,g0 (.sto 22 (.k (I 7)) none)]
def r_Z31_8 : List GI:=[gt 23 2,gt 24 8,gc 25 133 [.t 23,.t 24]]
def r_Z31_9 : List GI:=[gt 26 7,gt 27 8,ga 28 26 27 1,g0 (.sto 28 (.k (I 4)) none)]
def r_Z31_10 : List GI:=[gd 29 .add 17 1,gt 17 29]
def r_Z31_11 : List GI:=[gs 30 3 5,gt 31 7,gc 32 184 [.t 30,.t 31],gd 33 .and 32 2,gd 34 .eql 33 0,gt 6 34]
def dc_Z31 : DC:=.seq (.z r_Z31_0) (.seq (.seq (.z r_Z31_1) (.cond (.t 12) (.seq (.z r_Z31_2) .ret) .skip)) (.seq (.z r_Z31_3) (.seq (.seq (.z r_Z31_4) (.block 0 (.loop (.seq (.z r_Z31_5) (.seq (.cond (.t 18) .skip (.exit 0)) (.seq (.block 1 (.seq (.z r_Z31_6) (.seq (.z r_Z31_7) (.seq (.z r_Z31_8) (.cond (.t 25) (.z r_Z31_9) .skip))))) (.z r_Z31_10))))))) (.seq (.z r_Z31_11) .ret))))
theorem c_Z31 : cfun Tryz.prog [] 169 = some (35,dc_Z31,[(Res.tmp 6)]):=by kernel_rfl
def r_Z104_0 : List GI:=[gi 2 (.box 2 2000002 (.t 0) (some 5)),gi 3 (.box 3 2000003 (.t 1) (some 5)),gi 4 (.alloc 4 2000004 [I 0,I 0,.v (.bool false),I 0,.nul])]
def r_Z104_1 : List GI:=[gs 5 2 5,gs 6 3 5,gi 7 (.bsl 7 5 (some 5) [.agg [I 0,I 0,.v (.bool false),I 0,.nul],.agg [I 0,I 0,.v (.bool false),I 0,.nul]] [(0,.t 5),(1,.t 6)]),gi 8 (.build 8 [I 0,I 0,.v (.bool false),I 0,.nul] [(0,(none,.k (I 8))),(4,(none,.t 7))]),g0 (.sto 4 (.t 8) (some 5))]
def dc_Z104 : DC:=.seq (.z r_Z104_0) (.seq (.z r_Z104_1) .ret)
theorem c_Z104 : cfun Tryz.prog [] 159 = some (9,dc_Z104,[(Res.cell 4 (some 5))]):=by kernel_rfl
def r_Z12_0 : List GI:=[gi 2 (.box 2 2000002 (.t 0) (some 1)),gi 3 (.box 3 2000003 (.t 1) (some 5)),gi 4 (.alloc 4 2000004 [I 0,I 0,.v (.bool false),I 0,.nul])]
def r_Z12_1 : List GI:=[gf 5 3 0,gl 6 5,gd 7 .eql 6 1]
def r_Z12_2 : List GI:=[gf 8 2 0,gl 9 8,gf 10 3 1,gl 11 10,⟨.cal 12 (.t 9) [.t 11],some 12,none,true⟩,gf 13 3 1,g0 (.sto 13 (.t 12) none)]
def r_Z12_3 : List GI:=[gs 14 3 5,g0 (.sto 4 (.t 14) (some 5))]
def dc_Z12 : DC:=.seq (.z r_Z12_0) (.seq (.seq (.z r_Z12_1) (.cond (.t 7) (.z r_Z12_2) .skip)) (.seq (.z r_Z12_3) .ret))
theorem c_Z12 : cfun Tryz.prog [] 168 = some (15,dc_Z12,[(Res.cell 4 (some 5))]):=by kernel_rfl
def r_Z23_0 : List GI:=[gk 4 0]
def r_Z23_1 : List GI:=[gt 5 0,gl 6 1,gb 7 .add 5 6,gl 8 2,gl 9 1,gb 10 .add 8 9,gb 11 .rem 7 10,gt 4 11]
def dc_Z23 : DC:=.seq (.z r_Z23_0) (.seq (.z r_Z23_1) .ret)
theorem c_Z23 : cfun Tryz.prog [] 167 = some (12,dc_Z23,[(Res.tmp 4)]):=by kernel_rfl
def r_Z105_0 : List GI:=[gi 2 (.box 2 2000002 (.t 0) (some 5)),gi 3 (.box 3 2000003 (.t 1) (some 5)),gi 4 (.alloc 4 2000004 [I 0,I 0,.nul,.nul,.nul])]
def r_Z105_1 : List GI:=[gs 5 2 5,gi 6 (.bsl 6 5 (some 5) [.agg [I 0,I 0,.v (.bool false),I 0,.nul]] [(0,.t 5)]),gs 7 3 5,gi 8 (.bsl 8 5 (some 5) [.agg [I 0,I 0,.nul,.nul,.nul]] [(0,.t 7)]),gi 9 (.build 9 [I 0,I 0,.nul,.nul,.nul] [(0,(none,.k (I 2))),(2,(none,.t 6)),(4,(none,.t 8))]),g0 (.sto 4 (.t 9) (some 5))]
def dc_Z105 : DC:=.seq (.z r_Z105_0) (.seq (.z r_Z105_1) .ret)
theorem c_Z105 : cfun Tryz.prog [] 158 = some (10,dc_Z105,[(Res.cell 4 (some 5))]):=by kernel_rfl
def r_Z87_0 : List GI:=[gi 2 (.box 2 2000002 (.t 0) (some 5)),gk 4 0,gk 5 0]
def r_Z87_1 : List GI:=[gf 6 2 4,gl 7 6,gi 8 (.iad 8 7 (.k (I 0)) 5),gs 9 8 5,gt 10 1,gc 11 19 [.t 9,.t 10],gf 12 2 4,gl 13 12,gi 14 (.iad 14 13 (.k (I 1)) 5),gs 15 14 5,gt 16 1,gc 17 19 [.t 15,.t 16],gt 4 11,gt 5 17]
def dc_Z87 : DC:=.seq (.z r_Z87_0) (.seq (.reg r_Z87_1 (some [0,1,3,7,0,31,0,64,192,448,0,2047,4095,8191])) .ret)
theorem c_Z87 : cfun Tryz.prog [] 160 = some (18,dc_Z87,[(Res.tmp 4),(Res.tmp 5)]):=by kernel_rfl
def r_Z68_0 : List GI:=[gi 3 (.mov 3 (.k (.v (.bool false))))]
def r_Z68_1 : List GI:=[gt 4 0,gl 5 1,gb 6 .geq 4 5,gt 3 6]
def dc_Z68 : DC:=.seq (.z r_Z68_0) (.seq (.z r_Z68_1) .ret)
theorem c_Z68 : cfun Tryz.prog [] 163 = some (7,dc_Z68,[(Res.tmp 3)]):=by kernel_rfl
def r_Z49_0 : List GI:=[gi 3 (.mov 3 (.k (.v (.bool false))))]
def r_Z49_1 : List GI:=[gt 4 0,gl 5 1,gb 6 .lss 4 5,gt 3 6]
def dc_Z49 : DC:=.seq (.z r_Z49_0) (.seq (.z r_Z49_1) .ret)
theorem c_Z49 : cfun Tryz.prog [] 164 = some (7,dc_Z49,[(Res.tmp 3)]):=by kernel_rfl
def r_Z50_0 : List GI:=[gk 3 0]
def r_Z50_1 : List GI:=[gt 4 0,gl 5 1,gb 6 .sub 4 5,gt 3 6]
def dc_Z50 : DC:=.seq (.z r_Z50_0) (.seq (.z r_Z50_1) .ret)
theorem c_Z50 : cfun Tryz.prog [] 166 = some (7,dc_Z50,[(Res.tmp 3)]):=by kernel_rfl
def r_Z6_0 : List GI:=[gi 4 (.mov 4 (.k (.v (.bool false))))]
def r_Z6_1 : List GI:=[gt 5 0,gt 6 1,gc 7 182 [.t 5,.t 6],gd 8 .geq 7 0,gt 4 8]
def dc_Z6 : DC:=.seq (.z r_Z6_0) (.seq (.z r_Z6_1) .ret)
theorem c_Z6 : cfun Tryz.prog [] 161 = some (9,dc_Z6,[(Res.tmp 4)]):=by kernel_rfl
def r_Z7_0 : List GI:=[gk 4 0]
def r_Z7_1 : List GI:=[gt 6 0,gn 7 6,gk 8 0]
def r_Z7_2 : List GI:=[gb 9 .lss 8 7]
def r_Z7_3 : List GI:=[gt 10 8,gt 5 10]
def r_Z7_4 : List GI:=[gt 11 1,gt 12 0,gt 13 5,ga 14 12 13 1,gl 15 14,⟨.cal 16 (.t 11) [.t 15],some 16,none,true⟩]
def r_Z7_5 : List GI:=[gt 17 5,gt 4 17]
def r_Z7_6 : List GI:=[gd 18 .add 8 1,gt 8 18]
def r_Z7_7 : List GI:=[gi 4 (.mov 4 (.k (.v (.int .i64 (-1)))))]
def dc_Z7 : DC:=.seq (.z r_Z7_0) (.seq (.seq (.z r_Z7_1) (.block 0 (.loop (.seq (.z r_Z7_2) (.seq (.cond (.t 9) .skip (.exit 0)) (.seq (.block 1 (.seq (.z r_Z7_3) (.seq (.z r_Z7_4) (.cond (.t 16) (.seq (.z r_Z7_5) .ret) .skip)))) (.z r_Z7_6))))))) (.seq (.z r_Z7_7) .ret))
theorem c_Z7 : cfun Tryz.prog [] 182 = some (19,dc_Z7,[(Res.tmp 4)]):=by kernel_rfl
end
end Go.Proofs.YtgpdmgaemhelgaaGreat
