/-
  Functions of the program read as code on plain data. Closed facts of the program alone.
-/
import Derived.KernelRfl
import Derived.Test.YtgpdmgaemhelgaaGreatRows
import Derived.Test.YtgpdmgaemhelgaaGreatJSVBox
import Derived.Test.YtgpdmgaemhelgaaGreatJSVYld
namespace Go.Proofs.YtgpdmgaemhelgaaGreat
open Go.RowKit
noncomputable section
def r_Z139_0 : List GI:=[gi 3 (.box 3 2000003 (.t 0) (some 5)),gi 6 (.alloc 6 2000006 [I 0,I 0,.nul,.nul,.nul]),gi 7 (.mov 7 (.k (.v (.bool false))))]
def r_Z139_1 : List GI:=[gf 15 3 0,gl 16 15,gd 17 .eql 16 2,gt 14 17]
def r_Z139_2 : List GI:=[gs 18 3 5,gt 19 1,gt 20 2,gc 21 141 [.t 18,.t 19,.t 20],gi 22 (.ext 22 21 0),gi 23 (.ext 23 21 1),g0 (.sto 6 (.t 22) (some 5)),gt 7 23]
def r_Z139_3 : List GI:=[gt 25 1,gd 26 .eql 25 6,gt 27 26,⟨.fad 28 3 0,some 28,some (27,true),false⟩,⟨.lod 29 28 none,some 29,some (27,true),false⟩,⟨.bin 30 .eql (.t 29) (.k (I 4)),some 30,some (27,true),false⟩,gi 31 (.pick 31 (.t 27) (.t 30) (.k (.v (.bool false)))),gt 24 31]
def r_Z139_4 : List GI:=[gf 32 3 4,gl 33 32,gi 34 (.iad 34 33 (.k (I 0)) 5),gs 35 34 5,gt 36 2,gc 37 95 [.t 35,.t 36,.k (I 8)],gt 8 37]
def r_Z139_5 : List GI:=[gf 38 3 4,gl 39 38,gi 40 (.iad 40 39 (.k (I 1)) 5),gs 41 40 5,gt 42 2,gc 43 95 [.t 41,.t 42,.k (I 8)],gt 9 43]
def r_Z139_6 : List GI:=[gt 44 9,gt 45 8,gc 46 142 [.t 44,.t 45],gt 47 9,gc 48 142 [.k (I 0),.t 47],gi 49 (.app 49 2000049 (.t 46) (.t 48) 5 56),gt 10 49]
def r_Z139_7 : List GI:=[gf 50 3 2,gl 51 50,gi 52 (.iad 52 51 (.k (I 0)) 5),gs 53 52 5,gt 54 10,gc 55 143 [.t 53,.t 54],gi 56 (.bsl 56 5 (some 5) [.agg [I 0,I 0,.v (.bool false),I 0,.nul]] [(0,.t 55)]),gf 57 3 4,gl 58 57,gi 59 (.iad 59 58 (.k (I 1)) 5),gs 60 59 5,gf 61 3 4,gl 62 61,gi 63 (.iad 63 62 (.k (I 0)) 5),gs 64 63 5,gi 65 (.bsl 65 5 (some 5) [.agg [I 0,I 0,.nul,.nul,.nul],.agg [I 0,I 0,.nul,.nul,.nul]] [(0,.t 60),(1,.t 64)]),gi 66 (.build 66 [I 0,I 0,.nul,.nul,.nul] [(0,(none,.k (I 4))),(2,(none,.t 56)),(4,(none,.t 65))]),gi 11 (.alloc 11 2000011 [I 0,I 0,.nul,.nul,.nul]),g0 (.sto 11 (.t 66) (some 5))]
def r_Z139_8 : List GI:=[gt 67 10,gs 68 11 5,gi 69 (.bsl 69 5 (some 5) [.agg [I 0,I 0,.nul,.nul,.nul]] [(0,.t 68)]),gi 70 (.build 70 [I 0,I 0,.nul,.nul,.nul] [(0,(none,.k (I 3))),(2,(none,.t 67)),(4,(none,.t 69))]),g0 (.sto 6 (.t 70) (some 5)),gi 7 (.mov 7 (.k (.v (.bool true))))]
def r_Z139_9 : List GI:=[gt 72 1,gd 73 .eql 72 9,gt 74 73,⟨.fad 75 3 0,some 75,some (74,true),false⟩,⟨.lod 76 75 none,some 76,some (74,true),false⟩,⟨.bin 77 .eql (.t 76) (.k (I 7)),some 77,some (74,true),false⟩,gi 78 (.pick 78 (.t 74) (.t 77) (.k (.v (.bool false)))),gt 79 78,⟨.fad 80 3 4,some 80,some (79,true),false⟩,⟨.lod 81 80 none,some 81,some (79,true),false⟩,⟨.iad 82 81 (.k (I 0)) 5,some 82,some (79,true),false⟩,⟨.fad 83 82 0,some 83,some (79,true),false⟩,⟨.lod 84 83 none,some 84,some (79,true),false⟩,⟨.bin 85 .eql (.t 84) (.k (I 7)),some 85,some (79,true),false⟩,⟨.mov 86 (.t 85),some 86,some (79,true),false⟩,⟨.fad 87 3 4,some 87,some (86,false),false⟩,⟨.lod 88 87 none,some 88,some (86,false),false⟩,⟨.iad 89 88 (.k (I 0)) 5,some 89,some (86,false),false⟩,⟨.fad 90 89 0,some 90,some (86,false),false⟩,⟨.lod 91 90 none,some 91,some (86,false),false⟩,⟨.bin 92 .eql (.t 91) (.k (I 8)),some 92,some (86,false),false⟩,⟨.pick 93 (.t 86) (.k (.v (.bool true))) (.t 92),some 93,some (79,true),false⟩,gi 94 (.pick 94 (.t 79) (.t 93) (.k (.v (.bool false)))),gt 71 94]
def r_Z139_10 : List GI:=[gf 95 3 4,gl 96 95,gi 97 (.iad 97 96 (.k (I 0)) 5),gs 98 97 5,g0 (.sto 6 (.t 98) (some 5)),gi 7 (.mov 7 (.k (.v (.bool true))))]
def r_Z139_11 : List GI:=[gt 100 1,gd 101 .eql 100 11,gt 102 101,⟨.fad 103 3 0,some 103,some (102,true),false⟩,⟨.lod 104 103 none,some 104,some (102,true),false⟩,⟨.bin 105 .eql (.t 104) (.k (I 3)),some 105,some (102,true),false⟩,gi 106 (.pick 106 (.t 102) (.t 105) (.k (.v (.bool false)))),gt 107 106,⟨.fad 108 3 4,some 108,some (107,true),false⟩,⟨.lod 109 108 none,some 109,some (107,true),false⟩,⟨.iad 110 109 (.k (I 0)) 5,some 110,some (107,true),false⟩,⟨.fad 111 110 0,some 111,some (107,true),false⟩,⟨.lod 112 111 none,some 112,some (107,true),false⟩,⟨.bin 113 .eql (.t 112) (.k (I 3)),some 113,some (107,true),false⟩,gi 114 (.pick 114 (.t 107) (.t 113) (.k (.v (.bool false)))),gt 99 114]
def r_Z139_12 : List GI:=[gi 115 (.mov 115 (.k .nul)),gt 12 115]
def r_Z139_13 : List GI:=[gk 13 0]
def r_Z139_14 : List GI:=[gt 116 13,gf 117 3 2,gl 118 117,gn 119 118,gb 120 .lss 116 119]
def r_Z139_15 : List GI:=[gt 123 12,gf 124 3 2,gl 125 124,gt 126 13,ga 127 125 126 5,gs 128 127 5,gf 129 3 4,gl 130 129,gi 131 (.iad 131 130 (.k (I 0)) 5),gf 132 131 2,gl 133 132,gc 134 143 [.t 128,.t 133],gi 135 (.bsl 135 5 (some 5) [.agg [I 0,I 0,.v (.bool false),I 0,.nul]] [(0,.t 134)]),gi 136 (.app 136 2000136 (.t 123) (.t 135) 5 56),gt 12 136]
def r_Z139_16 : List GI:=[gt 121 13,gd 122 .add 121 1,gt 13 122]
def r_Z139_17 : List GI:=[gt 137 12,gf 138 3 4,gl 139 138,gi 140 (.iad 140 139 (.k (I 0)) 5),gf 141 140 4,gl 142 141,gi 143 (.build 143 [I 0,I 0,.nul,.nul,.nul] [(0,(none,.k (I 3))),(2,(none,.t 137)),(4,(none,.t 142))]),g0 (.sto 6 (.t 143) (some 5)),gi 7 (.mov 7 (.k (.v (.bool true))))]
def r_Z139_18 : List GI:=[gs 144 3 5,g0 (.sto 6 (.t 144) (some 5)),gi 7 (.mov 7 (.k (.v (.bool false))))]
def dc_Z139 : DC:=.seq (.z r_Z139_0) (.seq (.block 0 (.seq (.z r_Z139_1) (.cond (.t 14) (.seq (.z r_Z139_2) .ret) (.seq (.z r_Z139_3) (.cond (.t 24) (.seq (.z r_Z139_4) (.seq (.z r_Z139_5) (.seq (.z r_Z139_6) (.seq (.reg r_Z139_7 (some [0,1,3,7,0,31,63,0,128,384,896,0,2048,6144,14336,32640,65535,0,262143])) (.seq (.z r_Z139_8) .ret))))) (.seq (.z r_Z139_9) (.cond (.t 71) (.seq (.z r_Z139_10) .ret) (.seq (.z r_Z139_11) (.cond (.t 99) (.seq (.z r_Z139_12) (.seq (.seq (.z r_Z139_13) (.block 1 (.loop (.seq (.seq (.z r_Z139_14) (.cond (.t 120) .skip (.exit 1))) (.seq (.block 2 (.reg r_Z139_15 (some [0,0,2,0,14,30,0,64,192,448,960,2046,4094,8191,16383]))) (.z r_Z139_16)))))) (.seq (.z r_Z139_17) .ret))) .skip))))))))) (.seq (.z r_Z139_18) .ret))
theorem c_Z139 : cfun Tryz.prog [] 97 = some (145,dc_Z139,[(Res.cell 6 (some 5)),(Res.tmp 7)]):=by kernel_rfl
def r_Z36_0 : List GI:=[gi 3 (.box 3 2000003 (.t 0) (some 5)),gi 6 (.mov 6 (.k (.v (.bool false))))]
def r_Z36_1 : List GI:=[gs 9 3 5,gt 10 1,gc 11 146 [.t 9,.t 10],gi 12 (.un 12 UnOp.not (.t 11))]
def r_Z36_2 : List GI:=[gi 6 (.mov 6 (.k (.v (.bool false))))]
def r_Z36_3 : List GI:=[gt 13 1,gi 14 (.mks 14 2000014 (.t 13) 1 8 (I 0)),gt 7 14]
def r_Z36_4 : List GI:=[gt 15 7,gn 16 15,gk 17 0]
def r_Z36_5 : List GI:=[gb 18 .lss 17 16]
def r_Z36_6 : List GI:=[gt 19 17,gt 8 19]
def r_Z36_7 : List GI:=[gt 20 7,gt 21 8,ga 22 20 21 1,g0 (.sto 22 (.k (I 7)) none)]
def r_Z36_8 : List GI:=[gt 23 2,gt 24 8,gc 25 133 [.t 23,.t 24]]
def r_Z36_9 : List GI:=[gt 26 7,gt 27 8,ga 28 26 27 1,g0 (.sto 28 (.k (I 4)) none)]
def r_Z36_10 : List GI:=[gd 29 .add 17 1,gt 17 29]
def r_Z36_11 : List GI:=[gs 30 3 5,gt 31 7,gc 32 184 [.t 30,.t 31],gd 33 .and 32 2,gd 34 .eql 33 0,gt 6 34]
def dc_Z36 : DC:=.seq (.z r_Z36_0) (.seq (.seq (.z r_Z36_1) (.cond (.t 12) (.seq (.z r_Z36_2) .ret) .skip)) (.seq (.z r_Z36_3) (.seq (.seq (.z r_Z36_4) (.block 0 (.loop (.seq (.z r_Z36_5) (.seq (.cond (.t 18) .skip (.exit 0)) (.seq (.block 1 (.seq (.z r_Z36_6) (.seq (.z r_Z36_7) (.seq (.z r_Z36_8) (.cond (.t 25) (.z r_Z36_9) .skip))))) (.z r_Z36_10))))))) (.seq (.z r_Z36_11) .ret))))
theorem c_Z36 : cfun Tryz.prog [] 169 = some (35,dc_Z36,[(Res.tmp 6)]):=by kernel_rfl
def r_Z109_0 : List GI:=[gi 2 (.box 2 2000002 (.t 0) (some 5)),gi 3 (.box 3 2000003 (.t 1) (some 5)),gi 4 (.alloc 4 2000004 [I 0,I 0,.v (.bool false),I 0,.nul])]
def r_Z109_1 : List GI:=[gs 5 2 5,gs 6 3 5,gi 7 (.bsl 7 5 (some 5) [.agg [I 0,I 0,.v (.bool false),I 0,.nul],.agg [I 0,I 0,.v (.bool false),I 0,.nul]] [(0,.t 5),(1,.t 6)]),gi 8 (.build 8 [I 0,I 0,.v (.bool false),I 0,.nul] [(0,(none,.k (I 8))),(4,(none,.t 7))]),g0 (.sto 4 (.t 8) (some 5))]
def dc_Z109 : DC:=.seq (.z r_Z109_0) (.seq (.z r_Z109_1) .ret)
theorem c_Z109 : cfun Tryz.prog [] 159 = some (9,dc_Z109,[(Res.cell 4 (some 5))]):=by kernel_rfl
def r_Z15_0 : List GI:=[gi 2 (.box 2 2000002 (.t 0) (some 1)),gi 3 (.box 3 2000003 (.t 1) (some 5)),gi 4 (.alloc 4 2000004 [I 0,I 0,.v (.bool false),I 0,.nul])]
def r_Z15_1 : List GI:=[gf 5 3 0,gl 6 5,gd 7 .eql 6 1]
def r_Z15_2 : List GI:=[gf 8 2 0,gl 9 8,gf 10 3 1,gl 11 10,⟨.cal 12 (.t 9) [.t 11],some 12,none,true⟩,gf 13 3 1,g0 (.sto 13 (.t 12) none)]
def r_Z15_3 : List GI:=[gs 14 3 5,g0 (.sto 4 (.t 14) (some 5))]
def dc_Z15 : DC:=.seq (.z r_Z15_0) (.seq (.seq (.z r_Z15_1) (.cond (.t 7) (.z r_Z15_2) .skip)) (.seq (.z r_Z15_3) .ret))
theorem c_Z15 : cfun Tryz.prog [] 168 = some (15,dc_Z15,[(Res.cell 4 (some 5))]):=by kernel_rfl
def r_Z27_0 : List GI:=[gk 4 0]
def r_Z27_1 : List GI:=[gt 5 0,gl 6 1,gb 7 .add 5 6,gl 8 2,gl 9 1,gb 10 .add 8 9,gb 11 .rem 7 10,gt 4 11]
def dc_Z27 : DC:=.seq (.z r_Z27_0) (.seq (.z r_Z27_1) .ret)
theorem c_Z27 : cfun Tryz.prog [] 167 = some (12,dc_Z27,[(Res.tmp 4)]):=by kernel_rfl
def r_Z110_0 : List GI:=[gi 2 (.box 2 2000002 (.t 0) (some 5)),gi 3 (.box 3 2000003 (.t 1) (some 5)),gi 4 (.alloc 4 2000004 [I 0,I 0,.nul,.nul,.nul])]
def r_Z110_1 : List GI:=[gs 5 2 5,gi 6 (.bsl 6 5 (some 5) [.agg [I 0,I 0,.v (.bool false),I 0,.nul]] [(0,.t 5)]),gs 7 3 5,gi 8 (.bsl 8 5 (some 5) [.agg [I 0,I 0,.nul,.nul,.nul]] [(0,.t 7)]),gi 9 (.build 9 [I 0,I 0,.nul,.nul,.nul] [(0,(none,.k (I 2))),(2,(none,.t 6)),(4,(none,.t 8))]),g0 (.sto 4 (.t 9) (some 5))]
def dc_Z110 : DC:=.seq (.z r_Z110_0) (.seq (.z r_Z110_1) .ret)
theorem c_Z110 : cfun Tryz.prog [] 158 = some (10,dc_Z110,[(Res.cell 4 (some 5))]):=by kernel_rfl
def r_Z92_0 : List GI:=[gi 2 (.box 2 2000002 (.t 0) (some 5)),gk 4 0,gk 5 0]
def r_Z92_1 : List GI:=[gf 6 2 4,gl 7 6,gi 8 (.iad 8 7 (.k (I 0)) 5),gs 9 8 5,gt 10 1,gc 11 19 [.t 9,.t 10],gf 12 2 4,gl 13 12,gi 14 (.iad 14 13 (.k (I 1)) 5),gs 15 14 5,gt 16 1,gc 17 19 [.t 15,.t 16],gt 4 11,gt 5 17]
def dc_Z92 : DC:=.seq (.z r_Z92_0) (.seq (.reg r_Z92_1 (some [0,1,3,7,0,31,0,64,192,448,0,2047,4095,8191])) .ret)
theorem c_Z92 : cfun Tryz.prog [] 160 = some (18,dc_Z92,[(Res.tmp 4),(Res.tmp 5)]):=by kernel_rfl
def r_Z73_0 : List GI:=[gi 3 (.mov 3 (.k (.v (.bool false))))]
def r_Z73_1 : List GI:=[gt 4 0,gl 5 1,gb 6 .geq 4 5,gt 3 6]
def dc_Z73 : DC:=.seq (.z r_Z73_0) (.seq (.z r_Z73_1) .ret)
theorem c_Z73 : cfun Tryz.prog [] 163 = some (7,dc_Z73,[(Res.tmp 3)]):=by kernel_rfl
def r_Z55_0 : List GI:=[gi 3 (.mov 3 (.k (.v (.bool false))))]
def r_Z55_1 : List GI:=[gt 4 0,gl 5 1,gb 6 .lss 4 5,gt 3 6]
def dc_Z55 : DC:=.seq (.z r_Z55_0) (.seq (.z r_Z55_1) .ret)
theorem c_Z55 : cfun Tryz.prog [] 164 = some (7,dc_Z55,[(Res.tmp 3)]):=by kernel_rfl
def r_Z56_0 : List GI:=[gk 3 0]
def r_Z56_1 : List GI:=[gt 4 0,gl 5 1,gb 6 .sub 4 5,gt 3 6]
def dc_Z56 : DC:=.seq (.z r_Z56_0) (.seq (.z r_Z56_1) .ret)
theorem c_Z56 : cfun Tryz.prog [] 166 = some (7,dc_Z56,[(Res.tmp 3)]):=by kernel_rfl
def r_Z9_0 : List GI:=[gi 4 (.mov 4 (.k (.v (.bool false))))]
def r_Z9_1 : List GI:=[gt 5 0,gt 6 1,gc 7 182 [.t 5,.t 6],gd 8 .geq 7 0,gt 4 8]
def dc_Z9 : DC:=.seq (.z r_Z9_0) (.seq (.z r_Z9_1) .ret)
theorem c_Z9 : cfun Tryz.prog [] 161 = some (9,dc_Z9,[(Res.tmp 4)]):=by kernel_rfl
def r_Z10_0 : List GI:=[gk 4 0]
def r_Z10_1 : List GI:=[gt 6 0,gn 7 6,gk 8 0]
def r_Z10_2 : List GI:=[gb 9 .lss 8 7]
def r_Z10_3 : List GI:=[gt 10 8,gt 5 10]
def r_Z10_4 : List GI:=[gt 11 1,gt 12 0,gt 13 5,ga 14 12 13 1,gl 15 14,⟨.cal 16 (.t 11) [.t 15],some 16,none,true⟩]
def r_Z10_5 : List GI:=[gt 17 5,gt 4 17]
def r_Z10_6 : List GI:=[gd 18 .add 8 1,gt 8 18]
def r_Z10_7 : List GI:=[gi 4 (.mov 4 (.k (.v (.int .i64 (-1)))))]
def dc_Z10 : DC:=.seq (.z r_Z10_0) (.seq (.seq (.z r_Z10_1) (.block 0 (.loop (.seq (.z r_Z10_2) (.seq (.cond (.t 9) .skip (.exit 0)) (.seq (.block 1 (.seq (.z r_Z10_3) (.seq (.z r_Z10_4) (.cond (.t 16) (.seq (.z r_Z10_5) .ret) .skip)))) (.z r_Z10_6))))))) (.seq (.z r_Z10_7) .ret))
theorem c_Z10 : cfun Tryz.prog [] 182 = some (19,dc_Z10,[(Res.tmp 4)]):=by kernel_rfl
def r_Z53_0 : List GI:=[gi 3 (.box 3 2000003 (.t 0) (some 5)),gi 4 (.box 4 2000004 (.t 1) (some 5)),gi 6 (.alloc 6 2000006 [I 0,I 0,.nul,.nul,.nul]),gi 7 (.mov 7 (.k (.v (.bool false))))]
def r_Z53_1 : List GI:=[gs 14 3 5,gt 15 2,gc 16 160 [.t 14,.t 15],gt 13 16,gi 17 (.ext 17 13 0),gi 18 (.ext 18 13 1),gi 8 (.alloc 8 2000008 [I 0]),gi 9 (.alloc 9 2000009 [I 0]),g0 (.sto 8 (.t 17) none),g0 (.sto 9 (.t 18) none)]
def r_Z53_2 : List GI:=[gi 19 (.mkf 19 167 [.t 9,.t 8]),gi 20 (.build 20 [.v .nilFunc] [(0,(none,.t 19))]),gi 10 (.alloc 10 2000010 [.v .nilFunc]),g0 (.sto 10 (.t 20) (some 1))]
def r_Z53_3 : List GI:=[gi 11 (.mov 11 (.k .nul))]
def r_Z53_4 : List GI:=[gl 21 8,gl 22 9,gb 23 .add 21 22,gk 24 0]
def r_Z53_5 : List GI:=[gb 25 .lss 24 23]
def r_Z53_6 : List GI:=[gt 26 24,gt 12 26]
def r_Z53_7 : List GI:=[gt 27 11,gs 28 10 1,gt 29 12,gi 30 (.build 30 [I 0,I 0,.v (.bool false),I 0,.nul] [(0,(none,.k (I 1))),(1,(none,.t 29))]),gc 31 168 [.t 28,.t 30],gi 32 (.bsl 32 5 (some 5) [.agg [I 0,I 0,.v (.bool false),I 0,.nul]] [(0,.t 31)]),gi 33 (.app 33 2000033 (.t 27) (.t 32) 5 56),gt 11 33]
def r_Z53_8 : List GI:=[gd 34 .add 24 1,gt 24 34]
def r_Z53_9 : List GI:=[gf 35 3 2,gl 36 35,gi 37 (.iad 37 36 (.k (I 0)) 5),gs 38 37 5,gs 39 10 1,gi 40 (.ifc 40 175 (.t 39)),gc 41 165 [.t 38,.t 40],gi 42 (.bsl 42 5 (some 5) [.agg [I 0,I 0,.v (.bool false),I 0,.nul]] [(0,.t 41)]),gf 43 3 2,g0 (.sto 43 (.t 42) none)]
def r_Z53_10 : List GI:=[gf 44 3 4,gl 45 44,gi 46 (.iad 46 45 (.k (I 1)) 5),gs 47 46 5,gs 48 4 5,gi 49 (.bsl 49 5 (some 5) [.agg [I 0,I 0,.nul,.nul,.nul],.agg [I 0,I 0,.nul,.nul,.nul]] [(0,.t 47),(1,.t 48)]),gf 50 3 4,g0 (.sto 50 (.t 49) none)]
def r_Z53_11 : List GI:=[gt 51 11,gs 52 3 5,gi 53 (.bsl 53 5 (some 5) [.agg [I 0,I 0,.nul,.nul,.nul]] [(0,.t 52)]),gi 54 (.build 54 [I 0,I 0,.nul,.nul,.nul] [(0,(none,.k (I 3))),(2,(none,.t 51)),(4,(none,.t 53))]),g0 (.sto 6 (.t 54) (some 5)),gi 7 (.mov 7 (.k (.v (.bool true))))]
def dc_Z53 : DC:=.seq (.z r_Z53_0) (.seq (.z r_Z53_1) (.seq (.z r_Z53_2) (.seq (.z r_Z53_3) (.seq (.seq (.z r_Z53_4) (.block 0 (.loop (.seq (.z r_Z53_5) (.seq (.cond (.t 25) .skip (.exit 0)) (.seq (.block 1 (.seq (.z r_Z53_6) (.z r_Z53_7))) (.z r_Z53_8))))))) (.seq (.reg r_Z53_9 (some [0,1,3,7,0,16,63,127,255,511])) (.seq (.reg r_Z53_10 (some [0,1,3,7,0,31,63,127])) (.seq (.z r_Z53_11) .ret)))))))
theorem c_Z53 : cfun Tryz.prog [] 127 = some (55,dc_Z53,[(Res.cell 6 (some 5)),(Res.tmp 7)]):=by kernel_rfl
def r_Z38_0 : List GI:=[gi 3 (.box 3 2000003 (.t 0) (some 5)),gi 4 (.box 4 2000004 (.t 1) (some 5)),gi 6 (.alloc 6 2000006 [I 0,I 0,.nul,.nul,.nul]),gi 7 (.mov 7 (.k (.v (.bool false))))]
def r_Z38_1 : List GI:=[gs 8 4 5,g0 (.sto 6 (.t 8) (some 5)),gi 7 (.mov 7 (.k (.v (.bool true))))]
def dc_Z38 : DC:=.seq (.z r_Z38_0) (.seq (.z r_Z38_1) .ret)
theorem c_Z38 : cfun Tryz.prog [] 130 = some (9,dc_Z38,[(Res.cell 6 (some 5)),(Res.tmp 7)]):=by kernel_rfl
def r_Z23_0 : List GI:=[gi 3 (.box 3 2000003 (.t 0) (some 5)),gi 4 (.box 4 2000004 (.t 1) (some 5)),gi 6 (.alloc 6 2000006 [I 0,I 0,.nul,.nul,.nul]),gi 7 (.mov 7 (.k (.v (.bool false))))]
def r_Z23_1 : List GI:=[gf 8 4 2,gl 9 8,gi 10 (.iad 10 9 (.k (I 0)) 5),gs 11 10 5,gf 12 3 2,gl 13 12,gi 14 (.iad 14 13 (.k (I 0)) 5),gs 15 14 5,gc 16 159 [.t 11,.t 15],gi 17 (.bsl 17 5 (some 5) [.agg [I 0,I 0,.v (.bool false),I 0,.nul]] [(0,.t 16)]),gf 18 4 2,g0 (.sto 18 (.t 17) none)]
def r_Z23_2 : List GI:=[gs 19 4 5,g0 (.sto 6 (.t 19) (some 5)),gi 7 (.mov 7 (.k (.v (.bool true))))]
def dc_Z23 : DC:=.seq (.z r_Z23_0) (.seq (.reg r_Z23_1 (some [0,1,3,7,0,16,48,112,255,511,1023,2047])) (.seq (.z r_Z23_2) .ret))
theorem c_Z23 : cfun Tryz.prog [] 126 = some (20,dc_Z23,[(Res.cell 6 (some 5)),(Res.tmp 7)]):=by kernel_rfl
def r_Z28_0 : List GI:=[gi 3 (.box 3 2000003 (.t 0) (some 5)),gi 4 (.box 4 2000004 (.t 1) (some 5)),gi 6 (.alloc 6 2000006 [I 0,I 0,.nul,.nul,.nul]),gi 7 (.mov 7 (.k (.v (.bool false))))]
def r_Z28_1 : List GI:=[gf 11 3 2,gl 12 11,gi 13 (.iad 13 12 (.k (I 0)) 5),gs 14 13 5,gf 15 4 2,gl 16 15,gf 17 4 4,gl 18 17,gi 19 (.iad 19 18 (.k (I 0)) 5),gs 20 19 5,gt 21 2,gc 22 19 [.t 20,.t 21],gc 23 170 [.t 14,.t 16,.t 22],gt 10 23,gi 24 (.ext 24 10 0),gi 25 (.ext 25 10 1),gi 8 (.alloc 8 2000008 [I 0,I 0,.v (.bool false),I 0,.nul]),g0 (.sto 8 (.t 24) (some 5)),gt 9 25]
def r_Z28_2 : List GI:=[gt 26 9,gi 27 (.un 27 UnOp.not (.t 26))]
def r_Z28_3 : List GI:=[gi 28 (.build 28 [I 0,I 0,.nul,.nul,.nul] []),g0 (.sto 6 (.t 28) (some 5)),gi 7 (.mov 7 (.k (.v (.bool false))))]
def r_Z28_4 : List GI:=[gs 29 8 5,gf 30 4 4,gl 31 30,gi 32 (.iad 32 31 (.k (I 0)) 5),gs 33 32 5,gc 34 158 [.t 29,.t 33],gi 35 (.bsl 35 5 (some 5) [.agg [I 0,I 0,.nul,.nul,.nul]] [(0,.t 34)]),gf 36 4 4,g0 (.sto 36 (.t 35) none)]
def r_Z28_5 : List GI:=[gs 37 4 5,g0 (.sto 6 (.t 37) (some 5)),gi 7 (.mov 7 (.k (.v (.bool true))))]
def dc_Z28 : DC:=.seq (.z r_Z28_0) (.seq (.reg r_Z28_1 (some [0,1,3,7,0,16,0,64,192,448,0,1984,4095,8191,16383,16383,0,98303,262143])) (.seq (.seq (.z r_Z28_2) (.cond (.t 27) (.seq (.z r_Z28_3) .ret) .skip)) (.seq (.reg r_Z28_4 (some [0,0,2,6,14,31,63,127,255])) (.seq (.z r_Z28_5) .ret))))
theorem c_Z28 : cfun Tryz.prog [] 131 = some (38,dc_Z28,[(Res.cell 6 (some 5)),(Res.tmp 7)]):=by kernel_rfl
def r_Z54_0 : List GI:=[gi 3 (.box 3 2000003 (.t 0) (some 5)),gi 4 (.box 4 2000004 (.t 1) (some 5)),gi 6 (.alloc 6 2000006 [I 0,I 0,.nul,.nul,.nul]),gi 7 (.mov 7 (.k (.v (.bool false))))]
def r_Z54_1 : List GI:=[gf 9 3 2,gl 10 9,gi 11 (.iad 11 10 (.k (I 0)) 5),gs 12 11 5,gi 8 (.alloc 8 2000008 [I 0,I 0,.v (.bool false),I 0,.nul]),g0 (.sto 8 (.t 12) (some 5))]
def r_Z54_2 : List GI:=[gs 13 8 5,gf 14 4 4,gl 15 14,gi 16 (.iad 16 15 (.k (I 0)) 5),gs 17 16 5,gc 18 158 [.t 13,.t 17],gs 19 8 5,gf 20 4 4,gl 21 20,gi 22 (.iad 22 21 (.k (I 1)) 5),gs 23 22 5,gc 24 158 [.t 19,.t 23],gi 25 (.bsl 25 5 (some 5) [.agg [I 0,I 0,.nul,.nul,.nul],.agg [I 0,I 0,.nul,.nul,.nul]] [(0,.t 18),(1,.t 24)]),gf 26 4 4,g0 (.sto 26 (.t 25) none)]
def r_Z54_3 : List GI:=[gs 27 4 5,g0 (.sto 6 (.t 27) (some 5)),gi 7 (.mov 7 (.k (.v (.bool true))))]
def dc_Z54 : DC:=.seq (.z r_Z54_0) (.seq (.z r_Z54_1) (.seq (.reg r_Z54_2 (some [0,0,2,6,14,31,0,0,128,384,896,2047,4095,8191,16383])) (.seq (.z r_Z54_3) .ret)))
theorem c_Z54 : cfun Tryz.prog [] 129 = some (28,dc_Z54,[(Res.cell 6 (some 5)),(Res.tmp 7)]):=by kernel_rfl
def r_Z40_0 : List GI:=[gi 3 (.box 3 2000003 (.t 0) (some 5)),gi 4 (.box 4 2000004 (.t 1) (some 5)),gi 6 (.alloc 6 2000006 [I 0,I 0,.nul,.nul,.nul]),gi 7 (.mov 7 (.k (.v (.bool false))))]
def r_Z40_1 : List GI:=[gf 8 4 2,gl 9 8,gi 10 (.iad 10 9 (.k (I 0)) 5),gs 11 10 5,gf 12 3 2,gl 13 12,gi 14 (.iad 14 13 (.k (I 0)) 5),gs 15 14 5,gc 16 159 [.t 11,.t 15],gf 17 4 4,gl 18 17,gi 19 (.iad 19 18 (.k (I 0)) 5),gs 20 19 5,gc 21 158 [.t 16,.t 20],g0 (.sto 6 (.t 21) (some 5)),gi 7 (.mov 7 (.k (.v (.bool true))))]
def dc_Z40 : DC:=.seq (.z r_Z40_0) (.seq (.reg r_Z40_1 (some [0,1,3,7,0,16,48,112,255,0,512,1536,3584,8191,16383,32767])) .ret)
theorem c_Z40 : cfun Tryz.prog [] 122 = some (22,dc_Z40,[(Res.cell 6 (some 5)),(Res.tmp 7)]):=by kernel_rfl
def r_Z29_0 : List GI:=[gi 3 (.box 3 2000003 (.t 0) (some 5)),gi 4 (.box 4 2000004 (.t 1) (some 5)),gi 6 (.alloc 6 2000006 [I 0,I 0,.nul,.nul,.nul]),gi 7 (.mov 7 (.k (.v (.bool false))))]
def r_Z29_1 : List GI:=[gf 14 4 4,gl 15 14,gi 16 (.iad 16 15 (.k (I 0)) 5),gs 17 16 5,gt 18 2,gc 19 19 [.t 17,.t 18],gt 8 19]
def r_Z29_2 : List GI:=[gi 9 (.mov 9 (.k .nul))]
def r_Z29_3 : List GI:=[gf 20 3 2,gl 21 20,gn 22 21,gk 23 0]
def r_Z29_4 : List GI:=[gb 24 .lss 23 22]
def r_Z29_5 : List GI:=[ga 25 21 23 5,gs 26 25 5,gi 11 (.alloc 11 2000011 [I 0,I 0,.v (.bool false),I 0,.nul]),g0 (.sto 11 (.t 26) (some 5))]
def r_Z29_6 : List GI:=[gs 28 11 5,gf 29 4 2,gl 30 29,gt 31 8,gc 32 170 [.t 28,.t 30,.t 31],gt 27 32,gi 33 (.ext 33 27 0),gi 34 (.ext 34 27 1),gi 12 (.alloc 12 2000012 [I 0,I 0,.v (.bool false),I 0,.nul]),g0 (.sto 12 (.t 33) (some 5)),gt 13 34]
def r_Z29_7 : List GI:=[gt 35 13,gi 36 (.un 36 UnOp.not (.t 35))]
def r_Z29_8 : List GI:=[gi 37 (.build 37 [I 0,I 0,.nul,.nul,.nul] []),g0 (.sto 6 (.t 37) (some 5)),gi 7 (.mov 7 (.k (.v (.bool false))))]
def r_Z29_9 : List GI:=[gt 38 9,gs 39 12 5,gi 40 (.bsl 40 5 (some 5) [.agg [I 0,I 0,.v (.bool false),I 0,.nul]] [(0,.t 39)]),gi 41 (.app 41 2000041 (.t 38) (.t 40) 5 56),gt 9 41]
def r_Z29_10 : List GI:=[gd 42 .add 23 1,gt 23 42]
def r_Z29_11 : List GI:=[gt 43 9,gf 44 4 2,g0 (.sto 44 (.t 43) none)]
def r_Z29_12 : List GI:=[gs 45 4 5,g0 (.sto 6 (.t 45) (some 5)),gi 7 (.mov 7 (.k (.v (.bool true))))]
def dc_Z29 : DC:=.seq (.z r_Z29_0) (.seq (.z r_Z29_1) (.seq (.z r_Z29_2) (.seq (.seq (.z r_Z29_3) (.block 0 (.loop (.seq (.z r_Z29_4) (.seq (.cond (.t 24) .skip (.exit 0)) (.seq (.block 1 (.seq (.z r_Z29_5) (.seq (.z r_Z29_6) (.seq (.seq (.z r_Z29_7) (.cond (.t 36) (.seq (.z r_Z29_8) .ret) .skip)) (.z r_Z29_9))))) (.z r_Z29_10))))))) (.seq (.z r_Z29_11) (.seq (.z r_Z29_12) .ret)))))
theorem c_Z29 : cfun Tryz.prog [] 132 = some (46,dc_Z29,[(Res.cell 6 (some 5)),(Res.tmp 7)]):=by kernel_rfl
end
end Go.Proofs.YtgpdmgaemhelgaaGreat
