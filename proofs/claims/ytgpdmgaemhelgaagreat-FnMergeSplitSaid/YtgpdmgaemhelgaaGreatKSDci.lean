/-
  Functions of the program read as code on plain data. Closed facts of the program alone.
-/
import Derived.KernelRfl
import Derived.Test.YtgpdmgaemhelgaaGreatRows
import Derived.Test.YtgpdmgaemhelgaaGreatJSVCall
namespace Go.Proofs.YtgpdmgaemhelgaaGreat
open Go.RowKit
noncomputable section
def r_Z47_0 : List GI:=[gi 3 (.box 3 2000003 (.t 0) (some 5)),gi 4 (.box 4 2000004 (.t 1) (some 5)),gi 6 (.alloc 6 2000006 [I 0,I 0,.nul,.nul,.nul]),gi 7 (.mov 7 (.k (.v (.bool false))))]
def r_Z47_1 : List GI:=[gs 14 3 5,gt 15 2,gc 16 160 [.t 14,.t 15],gt 13 16,gi 17 (.ext 17 13 0),gi 18 (.ext 18 13 1),gi 8 (.alloc 8 2000008 [I 0]),gi 9 (.alloc 9 2000009 [I 0]),g0 (.sto 8 (.t 17) none),g0 (.sto 9 (.t 18) none)]
def r_Z47_2 : List GI:=[gi 19 (.mkf 19 167 [.t 9,.t 8]),gi 20 (.build 20 [.v .nilFunc] [(0,(none,.t 19))]),gi 10 (.alloc 10 2000010 [.v .nilFunc]),g0 (.sto 10 (.t 20) (some 1))]
def r_Z47_3 : List GI:=[gi 11 (.mov 11 (.k .nul))]
def r_Z47_4 : List GI:=[gl 21 8,gl 22 9,gb 23 .add 21 22,gk 24 0]
def r_Z47_5 : List GI:=[gb 25 .lss 24 23]
def r_Z47_6 : List GI:=[gt 26 24,gt 12 26]
def r_Z47_7 : List GI:=[gt 27 11,gs 28 10 1,gt 29 12,gi 30 (.build 30 [I 0,I 0,.v (.bool false),I 0,.nul] [(0,(none,.k (I 1))),(1,(none,.t 29))]),gc 31 168 [.t 28,.t 30],gi 32 (.bsl 32 5 (some 5) [.agg [I 0,I 0,.v (.bool false),I 0,.nul]] [(0,.t 31)]),gi 33 (.app 33 2000033 (.t 27) (.t 32) 5 56),gt 11 33]
def r_Z47_8 : List GI:=[gd 34 .add 24 1,gt 24 34]
def r_Z47_9 : List GI:=[gf 35 3 2,gl 36 35,gi 37 (.iad 37 36 (.k (I 0)) 5),gs 38 37 5,gs 39 10 1,gi 40 (.ifc 40 175 (.t 39)),gc 41 165 [.t 38,.t 40],gi 42 (.bsl 42 5 (some 5) [.agg [I 0,I 0,.v (.bool false),I 0,.nul]] [(0,.t 41)]),gf 43 3 2,g0 (.sto 43 (.t 42) none)]
def r_Z47_10 : List GI:=[gf 44 3 4,gl 45 44,gi 46 (.iad 46 45 (.k (I 1)) 5),gs 47 46 5,gs 48 4 5,gi 49 (.bsl 49 5 (some 5) [.agg [I 0,I 0,.nul,.nul,.nul],.agg [I 0,I 0,.nul,.nul,.nul]] [(0,.t 47),(1,.t 48)]),gf 50 3 4,g0 (.sto 50 (.t 49) none)]
def r_Z47_11 : List GI:=[gt 51 11,gs 52 3 5,gi 53 (.bsl 53 5 (some 5) [.agg [I 0,I 0,.nul,.nul,.nul]] [(0,.t 52)]),gi 54 (.build 54 [I 0,I 0,.nul,.nul,.nul] [(0,(none,.k (I 3))),(2,(none,.t 51)),(4,(none,.t 53))]),g0 (.sto 6 (.t 54) (some 5)),gi 7 (.mov 7 (.k (.v (.bool true))))]
def dc_Z47 : DC:=.seq (.z r_Z47_0) (.seq (.z r_Z47_1) (.seq (.z r_Z47_2) (.seq (.z r_Z47_3) (.seq (.seq (.z r_Z47_4) (.block 0 (.loop (.seq (.z r_Z47_5) (.seq (.cond (.t 25) .skip (.exit 0)) (.seq (.block 1 (.seq (.z r_Z47_6) (.z r_Z47_7))) (.z r_Z47_8))))))) (.seq (.reg r_Z47_9 (some [0,1,3,7,0,16,63,127,255,511])) (.seq (.reg r_Z47_10 (some [0,1,3,7,0,31,63,127])) (.seq (.z r_Z47_11) .ret)))))))
theorem c_Z47 : cfun Tryz.prog [] 127 = some (55,dc_Z47,[(Res.cell 6 (some 5)),(Res.tmp 7)]):=by kernel_rfl
def r_Z33_0 : List GI:=[gi 3 (.box 3 2000003 (.t 0) (some 5)),gi 4 (.box 4 2000004 (.t 1) (some 5)),gi 6 (.alloc 6 2000006 [I 0,I 0,.nul,.nul,.nul]),gi 7 (.mov 7 (.k (.v (.bool false))))]
def r_Z33_1 : List GI:=[gs 8 4 5,g0 (.sto 6 (.t 8) (some 5)),gi 7 (.mov 7 (.k (.v (.bool true))))]
def dc_Z33 : DC:=.seq (.z r_Z33_0) (.seq (.z r_Z33_1) .ret)
theorem c_Z33 : cfun Tryz.prog [] 130 = some (9,dc_Z33,[(Res.cell 6 (some 5)),(Res.tmp 7)]):=by kernel_rfl
def r_Z19_0 : List GI:=[gi 3 (.box 3 2000003 (.t 0) (some 5)),gi 4 (.box 4 2000004 (.t 1) (some 5)),gi 6 (.alloc 6 2000006 [I 0,I 0,.nul,.nul,.nul]),gi 7 (.mov 7 (.k (.v (.bool false))))]
def r_Z19_1 : List GI:=[gf 8 4 2,gl 9 8,gi 10 (.iad 10 9 (.k (I 0)) 5),gs 11 10 5,gf 12 3 2,gl 13 12,gi 14 (.iad 14 13 (.k (I 0)) 5),gs 15 14 5,gc 16 159 [.t 11,.t 15],gi 17 (.bsl 17 5 (some 5) [.agg [I 0,I 0,.v (.bool false),I 0,.nul]] [(0,.t 16)]),gf 18 4 2,g0 (.sto 18 (.t 17) none)]
def r_Z19_2 : List GI:=[gs 19 4 5,g0 (.sto 6 (.t 19) (some 5)),gi 7 (.mov 7 (.k (.v (.bool true))))]
def dc_Z19 : DC:=.seq (.z r_Z19_0) (.seq (.reg r_Z19_1 (some [0,1,3,7,0,16,48,112,255,511,1023,2047])) (.seq (.z r_Z19_2) .ret))
theorem c_Z19 : cfun Tryz.prog [] 126 = some (20,dc_Z19,[(Res.cell 6 (some 5)),(Res.tmp 7)]):=by kernel_rfl
def r_Z24_0 : List GI:=[gi 3 (.box 3 2000003 (.t 0) (some 5)),gi 4 (.box 4 2000004 (.t 1) (some 5)),gi 6 (.alloc 6 2000006 [I 0,I 0,.nul,.nul,.nul]),gi 7 (.mov 7 (.k (.v (.bool false))))]
def r_Z24_1 : List GI:=[gf 11 3 2,gl 12 11,gi 13 (.iad 13 12 (.k (I 0)) 5),gs 14 13 5,gf 15 4 2,gl 16 15,gf 17 4 4,gl 18 17,gi 19 (.iad 19 18 (.k (I 0)) 5),gs 20 19 5,gt 21 2,gc 22 19 [.t 20,.t 21],gc 23 170 [.t 14,.t 16,.t 22],gt 10 23,gi 24 (.ext 24 10 0),gi 25 (.ext 25 10 1),gi 8 (.alloc 8 2000008 [I 0,I 0,.v (.bool false),I 0,.nul]),g0 (.sto 8 (.t 24) (some 5)),gt 9 25]
def r_Z24_2 : List GI:=[gt 26 9,gi 27 (.un 27 UnOp.not (.t 26))]
def r_Z24_3 : List GI:=[gi 28 (.build 28 [I 0,I 0,.nul,.nul,.nul] []),g0 (.sto 6 (.t 28) (some 5)),gi 7 (.mov 7 (.k (.v (.bool false))))]
def r_Z24_4 : List GI:=[gs 29 8 5,gf 30 4 4,gl 31 30,gi 32 (.iad 32 31 (.k (I 0)) 5),gs 33 32 5,gc 34 158 [.t 29,.t 33],gi 35 (.bsl 35 5 (some 5) [.agg [I 0,I 0,.nul,.nul,.nul]] [(0,.t 34)]),gf 36 4 4,g0 (.sto 36 (.t 35) none)]
def r_Z24_5 : List GI:=[gs 37 4 5,g0 (.sto 6 (.t 37) (some 5)),gi 7 (.mov 7 (.k (.v (.bool true))))]
def dc_Z24 : DC:=.seq (.z r_Z24_0) (.seq (.reg r_Z24_1 (some [0,1,3,7,0,16,0,64,192,448,0,1984,4095,8191,16383,16383,0,98303,262143])) (.seq (.seq (.z r_Z24_2) (.cond (.t 27) (.seq (.z r_Z24_3) .ret) .skip)) (.seq (.reg r_Z24_4 (some [0,0,2,6,14,31,63,127,255])) (.seq (.z r_Z24_5) .ret))))
theorem c_Z24 : cfun Tryz.prog [] 131 = some (38,dc_Z24,[(Res.cell 6 (some 5)),(Res.tmp 7)]):=by kernel_rfl
def r_Z48_0 : List GI:=[gi 3 (.box 3 2000003 (.t 0) (some 5)),gi 4 (.box 4 2000004 (.t 1) (some 5)),gi 6 (.alloc 6 2000006 [I 0,I 0,.nul,.nul,.nul]),gi 7 (.mov 7 (.k (.v (.bool false))))]
def r_Z48_1 : List GI:=[gf 9 3 2,gl 10 9,gi 11 (.iad 11 10 (.k (I 0)) 5),gs 12 11 5,gi 8 (.alloc 8 2000008 [I 0,I 0,.v (.bool false),I 0,.nul]),g0 (.sto 8 (.t 12) (some 5))]
def r_Z48_2 : List GI:=[gs 13 8 5,gf 14 4 4,gl 15 14,gi 16 (.iad 16 15 (.k (I 0)) 5),gs 17 16 5,gc 18 158 [.t 13,.t 17],gs 19 8 5,gf 20 4 4,gl 21 20,gi 22 (.iad 22 21 (.k (I 1)) 5),gs 23 22 5,gc 24 158 [.t 19,.t 23],gi 25 (.bsl 25 5 (some 5) [.agg [I 0,I 0,.nul,.nul,.nul],.agg [I 0,I 0,.nul,.nul,.nul]] [(0,.t 18),(1,.t 24)]),gf 26 4 4,g0 (.sto 26 (.t 25) none)]
def r_Z48_3 : List GI:=[gs 27 4 5,g0 (.sto 6 (.t 27) (some 5)),gi 7 (.mov 7 (.k (.v (.bool true))))]
def dc_Z48 : DC:=.seq (.z r_Z48_0) (.seq (.z r_Z48_1) (.seq (.reg r_Z48_2 (some [0,0,2,6,14,31,0,0,128,384,896,2047,4095,8191,16383])) (.seq (.z r_Z48_3) .ret)))
theorem c_Z48 : cfun Tryz.prog [] 129 = some (28,dc_Z48,[(Res.cell 6 (some 5)),(Res.tmp 7)]):=by kernel_rfl
def r_Z35_0 : List GI:=[gi 3 (.box 3 2000003 (.t 0) (some 5)),gi 4 (.box 4 2000004 (.t 1) (some 5)),gi 6 (.alloc 6 2000006 [I 0,I 0,.nul,.nul,.nul]),gi 7 (.mov 7 (.k (.v (.bool false))))]
def r_Z35_1 : List GI:=[gf 8 4 2,gl 9 8,gi 10 (.iad 10 9 (.k (I 0)) 5),gs 11 10 5,gf 12 3 2,gl 13 12,gi 14 (.iad 14 13 (.k (I 0)) 5),gs 15 14 5,gc 16 159 [.t 11,.t 15],gf 17 4 4,gl 18 17,gi 19 (.iad 19 18 (.k (I 0)) 5),gs 20 19 5,gc 21 158 [.t 16,.t 20],g0 (.sto 6 (.t 21) (some 5)),gi 7 (.mov 7 (.k (.v (.bool true))))]
def dc_Z35 : DC:=.seq (.z r_Z35_0) (.seq (.reg r_Z35_1 (some [0,1,3,7,0,16,48,112,255,0,512,1536,3584,8191,16383,32767])) .ret)
theorem c_Z35 : cfun Tryz.prog [] 122 = some (22,dc_Z35,[(Res.cell 6 (some 5)),(Res.tmp 7)]):=by kernel_rfl
def r_Z25_0 : List GI:=[gi 3 (.box 3 2000003 (.t 0) (some 5)),gi 4 (.box 4 2000004 (.t 1) (some 5)),gi 6 (.alloc 6 2000006 [I 0,I 0,.nul,.nul,.nul]),gi 7 (.mov 7 (.k (.v (.bool false))))]
def r_Z25_1 : List GI:=[gf 14 4 4,gl 15 14,gi 16 (.iad 16 15 (.k (I 0)) 5),gs 17 16 5,gt 18 2,gc 19 19 [.t 17,.t 18],gt 8 19]
def r_Z25_2 : List GI:=[gi 9 (.mov 9 (.k .nul))]
def r_Z25_3 : List GI:=[gf 20 3 2,gl 21 20,gn 22 21,gk 23 0]
def r_Z25_4 : List GI:=[gb 24 .lss 23 22]
def r_Z25_5 : List GI:=[ga 25 21 23 5,gs 26 25 5,gi 11 (.alloc 11 2000011 [I 0,I 0,.v (.bool false),I 0,.nul]),g0 (.sto 11 (.t 26) (some 5))]
def r_Z25_6 : List GI:=[gs 28 11 5,gf 29 4 2,gl 30 29,gt 31 8,gc 32 170 [.t 28,.t 30,.t 31],gt 27 32,gi 33 (.ext 33 27 0),gi 34 (.ext 34 27 1),gi 12 (.alloc 12 2000012 [I 0,I 0,.v (.bool false),I 0,.nul]),g0 (.sto 12 (.t 33) (some 5)),gt 13 34]
def r_Z25_7 : List GI:=[gt 35 13,gi 36 (.un 36 UnOp.not (.t 35))]
def r_Z25_8 : List GI:=[gi 37 (.build 37 [I 0,I 0,.nul,.nul,.nul] []),g0 (.sto 6 (.t 37) (some 5)),gi 7 (.mov 7 (.k (.v (.bool false))))]
def r_Z25_9 : List GI:=[gt 38 9,gs 39 12 5,gi 40 (.bsl 40 5 (some 5) [.agg [I 0,I 0,.v (.bool false),I 0,.nul]] [(0,.t 39)]),gi 41 (.app 41 2000041 (.t 38) (.t 40) 5 56),gt 9 41]
def r_Z25_10 : List GI:=[gd 42 .add 23 1,gt 23 42]
def r_Z25_11 : List GI:=[gt 43 9,gf 44 4 2,g0 (.sto 44 (.t 43) none)]
def r_Z25_12 : List GI:=[gs 45 4 5,g0 (.sto 6 (.t 45) (some 5)),gi 7 (.mov 7 (.k (.v (.bool true))))]
def dc_Z25 : DC:=.seq (.z r_Z25_0) (.seq (.z r_Z25_1) (.seq (.z r_Z25_2) (.seq (.seq (.z r_Z25_3) (.block 0 (.loop (.seq (.z r_Z25_4) (.seq (.cond (.t 24) .skip (.exit 0)) (.seq (.block 1 (.seq (.z r_Z25_5) (.seq (.z r_Z25_6) (.seq (.seq (.z r_Z25_7) (.cond (.t 36) (.seq (.z r_Z25_8) .ret) .skip)) (.z r_Z25_9))))) (.z r_Z25_10))))))) (.seq (.z r_Z25_11) (.seq (.z r_Z25_12) .ret)))))
theorem c_Z25 : cfun Tryz.prog [] 132 = some (46,dc_Z25,[(Res.cell 6 (some 5)),(Res.tmp 7)]):=by kernel_rfl
def r_Z36_0 : List GI:=[gi 3 (.box 3 2000003 (.t 0) (some 5)),gi 4 (.box 4 2000004 (.t 1) (some 5)),gi 6 (.alloc 6 2000006 [I 0,I 0,.nul,.nul,.nul]),gi 7 (.mov 7 (.k (.v (.bool false))))]
def r_Z36_1 : List GI:=[gs 13 4 5,gt 14 2,gc 15 160 [.t 13,.t 14],gt 12 15,gi 16 (.ext 16 12 0),gi 17 (.ext 17 12 1),gt 8 16,gt 9 17]
def r_Z36_2 : List GI:=[gi 10 (.mov 10 (.k .nul))]
def r_Z36_3 : List GI:=[gt 18 9,gk 19 0]
def r_Z36_4 : List GI:=[gb 20 .lss 19 18]
def r_Z36_5 : List GI:=[gt 21 19,gt 11 21]
def r_Z36_6 : List GI:=[gt 22 10,gt 23 8,gt 24 11,gb 25 .add 23 24,gi 26 (.bsl 26 1 none [I 0] [(0,.t 25)]),gi 27 (.app 27 2000027 (.t 22) (.t 26) 1 8),gt 10 27]
def r_Z36_7 : List GI:=[gd 28 .add 19 1,gt 19 28]
def r_Z36_8 : List GI:=[gf 29 3 2,gl 30 29,gi 31 (.iad 31 30 (.k (I 0)) 5),gs 32 31 5,gt 33 8,gt 34 9,gb 35 .add 33 34,gt 36 10,gc 37 169 [.t 32,.t 35,.t 36],gi 38 (.un 38 UnOp.not (.t 37))]
def r_Z36_9 : List GI:=[gi 39 (.build 39 [I 0,I 0,.nul,.nul,.nul] []),g0 (.sto 6 (.t 39) (some 5)),gi 7 (.mov 7 (.k (.v (.bool false))))]
def r_Z36_10 : List GI:=[gf 40 4 0,g0 (.sto 40 (.k (I 4)) none)]
def r_Z36_11 : List GI:=[gf 41 3 2,gl 42 41,gi 43 (.iad 43 42 (.k (I 0)) 5),gs 44 43 5,gs 45 4 5,gc 46 158 [.t 44,.t 45],g0 (.sto 6 (.t 46) (some 5)),gi 7 (.mov 7 (.k (.v (.bool true))))]
def dc_Z36 : DC:=.seq (.z r_Z36_0) (.seq (.z r_Z36_1) (.seq (.z r_Z36_2) (.seq (.seq (.z r_Z36_3) (.block 0 (.loop (.seq (.z r_Z36_4) (.seq (.cond (.t 20) .skip (.exit 0)) (.seq (.block 1 (.seq (.z r_Z36_5) (.z r_Z36_6))) (.z r_Z36_7))))))) (.seq (.seq (.z r_Z36_8) (.cond (.t 38) (.seq (.z r_Z36_9) .ret) .skip)) (.seq (.z r_Z36_10) (.seq (.reg r_Z36_11 (some [0,1,3,7,0,31,63,127])) .ret))))))
theorem c_Z36 : cfun Tryz.prog [] 128 = some (47,dc_Z36,[(Res.cell 6 (some 5)),(Res.tmp 7)]):=by kernel_rfl
def r_Z110_0 : List GI:=[gi 3 (.box 3 2000003 (.t 0) (some 5)),gi 4 (.box 4 2000004 (.t 1) (some 5)),gi 6 (.alloc 6 2000006 [I 0,I 0,.nul,.nul,.nul]),gi 7 (.mov 7 (.k (.v (.bool false))))]
def r_Z110_1 : List GI:=[gf 11 3 2,gl 12 11,gi 13 (.iad 13 12 (.k (I 0)) 5),gs 14 13 5,gi 8 (.alloc 8 2000008 [I 0,I 0,.v (.bool false),I 0,.nul]),g0 (.sto 8 (.t 14) (some 5))]
def r_Z110_2 : List GI:=[gs 16 4 5,gt 17 2,gc 18 160 [.t 16,.t 17],gt 15 18,gi 19 (.ext 19 15 0),gi 20 (.ext 20 15 1),gi 9 (.alloc 9 2000009 [I 0]),g0 (.sto 9 (.t 19) none),gt 10 20]
def r_Z110_3 : List GI:=[gs 21 8 5,gc 22 162 [.t 21],gi 23 (.mkf 23 163 [.t 9]),gc 24 161 [.t 22,.t 23]]
def r_Z110_4 : List GI:=[gi 25 (.build 25 [I 0,I 0,.nul,.nul,.nul] []),g0 (.sto 6 (.t 25) (some 5)),gi 7 (.mov 7 (.k (.v (.bool false))))]
def r_Z110_5 : List GI:=[gs 26 8 5,gf 27 4 4,gl 28 27,gi 29 (.iad 29 28 (.k (I 0)) 5),gs 30 29 5,gc 31 158 [.t 26,.t 30],gf 32 4 4,gl 33 32,gi 34 (.iad 34 33 (.k (I 1)) 5),gs 35 34 5,gi 36 (.bsl 36 5 (some 5) [.agg [I 0,I 0,.nul,.nul,.nul],.agg [I 0,I 0,.nul,.nul,.nul]] [(0,.t 31),(1,.t 35)]),gf 37 4 4,g0 (.sto 37 (.t 36) none)]
def r_Z110_6 : List GI:=[gs 38 4 5,g0 (.sto 6 (.t 38) (some 5)),gi 7 (.mov 7 (.k (.v (.bool true))))]
def dc_Z110 : DC:=.seq (.z r_Z110_0) (.seq (.z r_Z110_1) (.seq (.z r_Z110_2) (.seq (.seq (.z r_Z110_3) (.cond (.t 24) (.seq (.z r_Z110_4) .ret) .skip)) (.seq (.reg r_Z110_5 (some [0,0,2,6,14,31,0,64,192,448,1023,2047,4095])) (.seq (.z r_Z110_6) .ret)))))
theorem c_Z110 : cfun Tryz.prog [] 124 = some (39,dc_Z110,[(Res.cell 6 (some 5)),(Res.tmp 7)]):=by kernel_rfl
def r_Z88_0 : List GI:=[gi 3 (.box 3 2000003 (.t 0) (some 5)),gi 4 (.box 4 2000004 (.t 1) (some 5)),gi 6 (.alloc 6 2000006 [I 0,I 0,.nul,.nul,.nul]),gi 7 (.mov 7 (.k (.v (.bool false))))]
def r_Z88_1 : List GI:=[gf 12 3 2,gl 13 12,gi 14 (.iad 14 13 (.k (I 0)) 5),gs 15 14 5,gi 8 (.alloc 8 2000008 [I 0,I 0,.v (.bool false),I 0,.nul]),g0 (.sto 8 (.t 15) (some 5))]
def r_Z88_2 : List GI:=[gs 17 4 5,gt 18 2,gc 19 160 [.t 17,.t 18],gt 16 19,gi 20 (.ext 20 16 0),gi 21 (.ext 21 16 1),gi 9 (.alloc 9 2000009 [I 0]),g0 (.sto 9 (.t 20) none),gt 10 21]
def r_Z88_3 : List GI:=[gs 22 8 5,gc 23 162 [.t 22],gi 24 (.mkf 24 164 [.t 9]),gc 25 161 [.t 23,.t 24]]
def r_Z88_4 : List GI:=[gi 26 (.build 26 [I 0,I 0,.nul,.nul,.nul] []),g0 (.sto 6 (.t 26) (some 5)),gi 7 (.mov 7 (.k (.v (.bool false))))]
def r_Z88_5 : List GI:=[gs 27 8 5,gi 28 (.mkf 28 166 [.t 9]),gi 29 (.build 29 [.v .nilFunc] [(0,(none,.t 28))]),gi 30 (.ifc 30 175 (.t 29)),gc 31 165 [.t 27,.t 30],gi 11 (.alloc 11 2000011 [I 0,I 0,.v (.bool false),I 0,.nul]),g0 (.sto 11 (.t 31) (some 5))]
def r_Z88_6 : List GI:=[gf 32 4 4,gl 33 32,gi 34 (.iad 34 33 (.k (I 0)) 5),gs 35 34 5,gs 36 11 5,gf 37 4 4,gl 38 37,gi 39 (.iad 39 38 (.k (I 1)) 5),gs 40 39 5,gc 41 158 [.t 36,.t 40],gi 42 (.bsl 42 5 (some 5) [.agg [I 0,I 0,.nul,.nul,.nul],.agg [I 0,I 0,.nul,.nul,.nul]] [(0,.t 35),(1,.t 41)]),gf 43 4 4,g0 (.sto 43 (.t 42) none)]
def r_Z88_7 : List GI:=[gs 44 4 5,g0 (.sto 6 (.t 44) (some 5)),gi 7 (.mov 7 (.k (.v (.bool true))))]
def dc_Z88 : DC:=.seq (.z r_Z88_0) (.seq (.z r_Z88_1) (.seq (.z r_Z88_2) (.seq (.seq (.z r_Z88_3) (.cond (.t 25) (.seq (.z r_Z88_4) .ret) .skip)) (.seq (.z r_Z88_5) (.seq (.reg r_Z88_6 (some [0,1,3,7,0,0,32,96,224,496,1023,2047,4095])) (.seq (.z r_Z88_7) .ret))))))
theorem c_Z88 : cfun Tryz.prog [] 125 = some (45,dc_Z88,[(Res.cell 6 (some 5)),(Res.tmp 7)]):=by kernel_rfl
def r_Z52_0 : List GI:=[gi 3 (.box 3 2000003 (.t 0) (some 5)),gi 4 (.box 4 2000004 (.t 1) (some 5)),gi 6 (.alloc 6 2000006 [I 0,I 0,.nul,.nul,.nul]),gi 7 (.mov 7 (.k (.v (.bool false))))]
def r_Z52_1 : List GI:=[gf 9 3 2,gl 10 9,gi 11 (.iad 11 10 (.k (I 0)) 5),gs 12 11 5,gi 8 (.alloc 8 2000008 [I 0,I 0,.v (.bool false),I 0,.nul]),g0 (.sto 8 (.t 12) (some 5))]
def r_Z52_2 : List GI:=[gf 13 8 0,gl 14 13,gd 15 .neq 14 8]
def r_Z52_3 : List GI:=[gi 16 (.build 16 [I 0,I 0,.nul,.nul,.nul] []),g0 (.sto 6 (.t 16) (some 5)),gi 7 (.mov 7 (.k (.v (.bool false))))]
def r_Z52_4 : List GI:=[gf 17 8 4,gl 18 17,gi 19 (.iad 19 18 (.k (I 1)) 5),gs 20 19 5,gf 21 8 4,gl 22 21,gi 23 (.iad 23 22 (.k (I 0)) 5),gs 24 23 5,gs 25 4 5,gc 26 158 [.t 24,.t 25],gc 27 158 [.t 20,.t 26],g0 (.sto 6 (.t 27) (some 5)),gi 7 (.mov 7 (.k (.v (.bool true))))]
def dc_Z52 : DC:=.seq (.z r_Z52_0) (.seq (.z r_Z52_1) (.seq (.seq (.z r_Z52_2) (.cond (.t 15) (.seq (.z r_Z52_3) .ret) .skip)) (.seq (.reg r_Z52_4 (some [0,1,3,7,0,16,48,112,0,496,1023,2047,4095])) .ret)))
theorem c_Z52 : cfun Tryz.prog [] 123 = some (28,dc_Z52,[(Res.cell 6 (some 5)),(Res.tmp 7)]):=by kernel_rfl
def r_Z16_0 : List GI:=[gi 4 (.box 4 2000004 (.t 1) (some 5)),gi 5 (.box 5 2000005 (.t 2) (some 5)),gi 6 (.alloc 6 2000006 [I 0,I 0,.nul,.nul,.nul])]
def r_Z16_1 : List GI:=[gt 7 0,gn 8 7,gd 9 .eql 8 0]
def r_Z16_2 : List GI:=[gs 10 5 5,g0 (.sto 6 (.t 10) (some 5))]
def r_Z16_3 : List GI:=[gf 11 4 4,gl 12 11,gc 13 93 [.t 12],gf 14 4 4,g0 (.sto 14 (.t 13) none)]
def r_Z16_4 : List GI:=[gf 15 4 4,gl 16 15,gt 17 0,gi 18 (.iad 18 17 (.k (I 0)) 1),gl 19 18,gt 20 0,gi 21 (.slc 21 (.t 20) (some (.k (I 1))) none 1),gf 22 4 4,gl 23 22,gt 24 0,gi 25 (.iad 25 24 (.k (I 0)) 1),gl 26 25,ga 27 23 26 5,gs 28 27 5,gs 29 5 5,gc 30 87 [.t 21,.t 28,.t 29],ga 31 16 19 5,g0 (.sto 31 (.t 30) (some 5))]
def r_Z16_5 : List GI:=[gs 32 4 5,g0 (.sto 6 (.t 32) (some 5))]
def dc_Z16 : DC:=.seq (.z r_Z16_0) (.seq (.seq (.z r_Z16_1) (.cond (.t 9) (.seq (.z r_Z16_2) .ret) .skip)) (.seq (.z r_Z16_3) (.seq (.reg r_Z16_4 (some [0,1,0,4,12,0,32,0,128,0,512,1536,3968,8064,0,32736,65535,131071])) (.seq (.z r_Z16_5) .ret))))
theorem c_Z16 : cfun Tryz.prog [] 87 = some (33,dc_Z16,[(Res.cell 6 (some 5))]):=by kernel_rfl
def r_Z9_0 : List GI:=[gi 4 (.box 4 2000004 (.t 0) (some 3)),gi 5 (.box 5 2000005 (.t 1) (some 5)),gi 8 (.alloc 8 2000008 [I 0,I 0,.nul,.nul,.nul]),gi 9 (.mov 9 (.k (.v (.bool false))))]
def r_Z9_1 : List GI:=[gf 12 5 0,gl 13 12,gf 14 4 0,gl 15 14,gb 16 .neq 13 15,gt 17 16,⟨.fad 18 4 1,some 18,some (17,false),false⟩,⟨.lod 19 18 none,some 19,some (17,false),false⟩,⟨.len 20 (.t 19),some 20,some (17,false),false⟩,⟨.bin 21 .gtr (.t 20) (.k (I 0)),some 21,some (17,false),false⟩,⟨.mov 22 (.t 21),some 22,some (17,false),false⟩,⟨.fad 23 4 1,some 23,some (22,true),false⟩,⟨.lod 24 23 none,some 24,some (22,true),false⟩,⟨.fad 25 5 4,some 25,some (22,true),false⟩,⟨.lod 26 25 none,some 26,some (22,true),false⟩,⟨.iad 27 26 (.k (I 0)) 5,some 27,some (22,true),false⟩,⟨.fad 28 27 0,some 28,some (22,true),false⟩,⟨.lod 29 28 none,some 29,some (22,true),false⟩,⟨.call 30 133 [.t 24,.t 29],some 30,some (22,true),true⟩,⟨.un 31 UnOp.not (.t 30),some 31,some (22,true),false⟩,⟨.pick 32 (.t 22) (.t 31) (.k (.v (.bool false))),some 32,some (17,false),false⟩,gi 33 (.pick 33 (.t 17) (.k (.v (.bool true))) (.t 32))]
def r_Z9_2 : List GI:=[gi 34 (.build 34 [I 0,I 0,.nul,.nul,.nul] []),g0 (.sto 8 (.t 34) (some 5)),gi 9 (.mov 9 (.k (.v (.bool false))))]
def r_Z9_3 : List GI:=[gf 36 4 2,gl 37 36,gs 38 5 5,gf 39 5 4,gl 40 39,gi 41 (.iad 41 40 (.k (I 0)) 5),gs 42 41 5,gt 43 2,⟨.cal 44 (.t 37) [.t 38,.t 42,.t 43],some 44,none,true⟩,gt 35 44,gi 45 (.ext 45 35 0),gi 46 (.ext 46 35 1),gi 10 (.alloc 10 2000010 [I 0,I 0,.nul,.nul,.nul]),g0 (.sto 10 (.t 45) (some 5)),gt 11 46]
def r_Z9_4 : List GI:=[gt 47 11,gi 48 (.un 48 UnOp.not (.t 47)),gt 49 48,⟨.lod 50 10 (some 5),some 50,some (49,false),false⟩,⟨.mov 51 (.t 2),some 51,some (49,false),false⟩,⟨.mov 52 (.t 3),some 52,some (49,false),false⟩,⟨.call 53 56 [.t 50,.t 51,.t 52],some 53,some (49,false),true⟩,⟨.bin 54 .eql (.t 53) (.k (I 0)),some 54,some (49,false),false⟩,gi 55 (.pick 55 (.t 49) (.k (.v (.bool true))) (.t 54))]
def r_Z9_5 : List GI:=[gi 56 (.build 56 [I 0,I 0,.nul,.nul,.nul] []),g0 (.sto 8 (.t 56) (some 5)),gi 9 (.mov 9 (.k (.v (.bool false))))]
def r_Z9_6 : List GI:=[gs 57 10 5,g0 (.sto 8 (.t 57) (some 5)),gi 9 (.mov 9 (.k (.v (.bool true))))]
def dc_Z9 : DC:=.seq (.z r_Z9_0) (.seq (.seq (.reg r_Z9_1 (some [0,1,0,4,15,31,63,127,255,511,1023,2047,4095,2047,10239,26623,59391,124927,262143,524287,1048575,2097151])) (.cond (.t 33) (.seq (.z r_Z9_2) .ret) .skip)) (.seq (.reg r_Z9_3 (some [0,1,0,0,8,24,56,0,255,511,1023,1023,0,6143,16383])) (.seq (.seq (.z r_Z9_4) (.cond (.t 55) (.seq (.z r_Z9_5) .ret) .skip)) (.seq (.z r_Z9_6) .ret))))
theorem c_Z9 : cfun Tryz.prog [] 86 = some (58,dc_Z9,[(Res.cell 8 (some 5)),(Res.tmp 9)]):=by kernel_rfl
def r_Z37_0 : List GI:=[gi 0 (.mov 0 (.k .nul))]
def r_Z37_1 : List GI:=[gi 1 (.bsl 1 1 none [I 0] [(0,.k (I 2))]),gi 2 (.build 2 [I 0,.nul,.v .nilFunc] [(0,(none,.k (I 2))),(1,(none,.t 1)),(2,(none,.k (.fn 122 [])))]),gi 3 (.build 3 [I 0,.nul,.v .nilFunc] [(0,(none,.k (I 2))),(1,(none,.k .nul)),(2,(none,.k (.fn 123 [])))]),gi 4 (.bsl 4 1 none [I 0,I 0] [(0,.k (I 4)),(1,.k (I 5))]),gi 5 (.build 5 [I 0,.nul,.v .nilFunc] [(0,(none,.k (I 2))),(1,(none,.t 4)),(2,(none,.k (.fn 124 [])))]),gi 6 (.bsl 6 1 none [I 0] [(0,.k (I 4))]),gi 7 (.build 7 [I 0,.nul,.v .nilFunc] [(0,(none,.k (I 2))),(1,(none,.t 6)),(2,(none,.k (.fn 125 [])))]),gi 8 (.bsl 8 1 none [I 0] [(0,.k (I 4))]),gi 9 (.build 9 [I 0,.nul,.v .nilFunc] [(0,(none,.k (I 2))),(1,(none,.t 8)),(2,(none,.k (.fn 126 [])))]),gi 10 (.build 10 [I 0,.nul,.v .nilFunc] [(0,(none,.k (I 4))),(1,(none,.k .nul)),(2,(none,.k (.fn 127 [])))]),gi 11 (.bsl 11 1 none [I 0] [(0,.k (I 5))]),gi 12 (.build 12 [I 0,.nul,.v .nilFunc] [(0,(none,.k (I 2))),(1,(none,.t 11)),(2,(none,.k (.fn 128 [])))]),gi 13 (.bsl 13 1 none [I 0] [(0,.k (I 6))]),gi 14 (.build 14 [I 0,.nul,.v .nilFunc] [(0,(none,.k (I 2))),(1,(none,.t 13)),(2,(none,.k (.fn 129 [])))]),gi 15 (.bsl 15 1 none [I 0,I 0] [(0,.k (I 7)),(1,.k (I 8))]),gi 16 (.build 16 [I 0,.nul,.v .nilFunc] [(0,(none,.k (I 7))),(1,(none,.t 15)),(2,(none,.k (.fn 130 [])))]),gi 17 (.bsl 17 1 none [I 0] [(0,.k (I 3))]),gi 18 (.build 18 [I 0,.nul,.v .nilFunc] [(0,(none,.k (I 2))),(1,(none,.t 17)),(2,(none,.k (.fn 131 [])))]),gi 19 (.bsl 19 1 none [I 0] [(0,.k (I 3))]),gi 20 (.build 20 [I 0,.nul,.v .nilFunc] [(0,(none,.k (I 3))),(1,(none,.t 19)),(2,(none,.k (.fn 132 [])))]),gi 21 (.bsl 21 3 (some 3) [.agg [I 0,.nul,.v .nilFunc],.agg [I 0,.nul,.v .nilFunc],.agg [I 0,.nul,.v .nilFunc],.agg [I 0,.nul,.v .nilFunc],.agg [I 0,.nul,.v .nilFunc],.agg [I 0,.nul,.v .nilFunc],.agg [I 0,.nul,.v .nilFunc],.agg [I 0,.nul,.v .nilFunc],.agg [I 0,.nul,.v .nilFunc],.agg [I 0,.nul,.v .nilFunc],.agg [I 0,.nul,.v .nilFunc],.agg [I 0,.nul,.v .nilFunc]] [(1,.t 2),(2,.t 3),(3,.t 5),(4,.t 7),(5,.t 9),(6,.t 10),(7,.t 12),(8,.t 14),(9,.t 16),(10,.t 18),(11,.t 20)]),gt 0 21]
def dc_Z37 : DC:=.seq (.z r_Z37_0) (.seq (.z r_Z37_1) .ret)
theorem c_Z37 : cfun Tryz.prog [] 84 = some (22,dc_Z37,[(Res.tmp 0)]):=by kernel_rfl
end
end Go.Proofs.YtgpdmgaemhelgaaGreat
