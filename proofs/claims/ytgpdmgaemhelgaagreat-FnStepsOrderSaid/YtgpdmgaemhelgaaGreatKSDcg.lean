/-
  Functions of the program read as code on plain data. Closed facts of the program alone.
-/
import Derived.KernelRfl
import Derived.Test.YtgpdmgaemhelgaaGreatRows
import Derived.Test.YtgpdmgaemhelgaaGreatJSVBox
import Derived.Test.YtgpdmgaemhelgaaGreatJSVYld
namespace Go.Proofs.YtgpdmgaemhelgaaGreat
open Go.RowKit
noncomputable section
def r_Z41_0 : List GI:=[gi 3 (.box 3 2000003 (.t 0) (some 5)),gi 4 (.box 4 2000004 (.t 1) (some 5)),gi 6 (.alloc 6 2000006 [I 0,I 0,.nul,.nul,.nul]),gi 7 (.mov 7 (.k (.v (.bool false))))]
def r_Z41_1 : List GI:=[gs 13 4 5,gt 14 2,gc 15 160 [.t 13,.t 14],gt 12 15,gi 16 (.ext 16 12 0),gi 17 (.ext 17 12 1),gt 8 16,gt 9 17]
def r_Z41_2 : List GI:=[gi 10 (.mov 10 (.k .nul))]
def r_Z41_3 : List GI:=[gt 18 9,gk 19 0]
def r_Z41_4 : List GI:=[gb 20 .lss 19 18]
def r_Z41_5 : List GI:=[gt 21 19,gt 11 21]
def r_Z41_6 : List GI:=[gt 22 10,gt 23 8,gt 24 11,gb 25 .add 23 24,gi 26 (.bsl 26 1 none [I 0] [(0,.t 25)]),gi 27 (.app 27 2000027 (.t 22) (.t 26) 1 8),gt 10 27]
def r_Z41_7 : List GI:=[gd 28 .add 19 1,gt 19 28]
def r_Z41_8 : List GI:=[gf 29 3 2,gl 30 29,gi 31 (.iad 31 30 (.k (I 0)) 5),gs 32 31 5,gt 33 8,gt 34 9,gb 35 .add 33 34,gt 36 10,gc 37 169 [.t 32,.t 35,.t 36],gi 38 (.un 38 UnOp.not (.t 37))]
def r_Z41_9 : List GI:=[gi 39 (.build 39 [I 0,I 0,.nul,.nul,.nul] []),g0 (.sto 6 (.t 39) (some 5)),gi 7 (.mov 7 (.k (.v (.bool false))))]
def r_Z41_10 : List GI:=[gf 40 4 0,g0 (.sto 40 (.k (I 4)) none)]
def r_Z41_11 : List GI:=[gf 41 3 2,gl 42 41,gi 43 (.iad 43 42 (.k (I 0)) 5),gs 44 43 5,gs 45 4 5,gc 46 158 [.t 44,.t 45],g0 (.sto 6 (.t 46) (some 5)),gi 7 (.mov 7 (.k (.v (.bool true))))]
def dc_Z41 : DC:=.seq (.z r_Z41_0) (.seq (.z r_Z41_1) (.seq (.z r_Z41_2) (.seq (.seq (.z r_Z41_3) (.block 0 (.loop (.seq (.z r_Z41_4) (.seq (.cond (.t 20) .skip (.exit 0)) (.seq (.block 1 (.seq (.z r_Z41_5) (.z r_Z41_6))) (.z r_Z41_7))))))) (.seq (.seq (.z r_Z41_8) (.cond (.t 38) (.seq (.z r_Z41_9) .ret) .skip)) (.seq (.z r_Z41_10) (.seq (.reg r_Z41_11 (some [0,1,3,7,0,31,63,127])) .ret))))))
theorem c_Z41 : cfun Tryz.prog [] 128 = some (47,dc_Z41,[(Res.cell 6 (some 5)),(Res.tmp 7)]):=by kernel_rfl
def r_Z115_0 : List GI:=[gi 3 (.box 3 2000003 (.t 0) (some 5)),gi 4 (.box 4 2000004 (.t 1) (some 5)),gi 6 (.alloc 6 2000006 [I 0,I 0,.nul,.nul,.nul]),gi 7 (.mov 7 (.k (.v (.bool false))))]
def r_Z115_1 : List GI:=[gf 11 3 2,gl 12 11,gi 13 (.iad 13 12 (.k (I 0)) 5),gs 14 13 5,gi 8 (.alloc 8 2000008 [I 0,I 0,.v (.bool false),I 0,.nul]),g0 (.sto 8 (.t 14) (some 5))]
def r_Z115_2 : List GI:=[gs 16 4 5,gt 17 2,gc 18 160 [.t 16,.t 17],gt 15 18,gi 19 (.ext 19 15 0),gi 20 (.ext 20 15 1),gi 9 (.alloc 9 2000009 [I 0]),g0 (.sto 9 (.t 19) none),gt 10 20]
def r_Z115_3 : List GI:=[gs 21 8 5,gc 22 162 [.t 21],gi 23 (.mkf 23 163 [.t 9]),gc 24 161 [.t 22,.t 23]]
def r_Z115_4 : List GI:=[gi 25 (.build 25 [I 0,I 0,.nul,.nul,.nul] []),g0 (.sto 6 (.t 25) (some 5)),gi 7 (.mov 7 (.k (.v (.bool false))))]
def r_Z115_5 : List GI:=[gs 26 8 5,gf 27 4 4,gl 28 27,gi 29 (.iad 29 28 (.k (I 0)) 5),gs 30 29 5,gc 31 158 [.t 26,.t 30],gf 32 4 4,gl 33 32,gi 34 (.iad 34 33 (.k (I 1)) 5),gs 35 34 5,gi 36 (.bsl 36 5 (some 5) [.agg [I 0,I 0,.nul,.nul,.nul],.agg [I 0,I 0,.nul,.nul,.nul]] [(0,.t 31),(1,.t 35)]),gf 37 4 4,g0 (.sto 37 (.t 36) none)]
def r_Z115_6 : List GI:=[gs 38 4 5,g0 (.sto 6 (.t 38) (some 5)),gi 7 (.mov 7 (.k (.v (.bool true))))]
def dc_Z115 : DC:=.seq (.z r_Z115_0) (.seq (.z r_Z115_1) (.seq (.z r_Z115_2) (.seq (.seq (.z r_Z115_3) (.cond (.t 24) (.seq (.z r_Z115_4) .ret) .skip)) (.seq (.reg r_Z115_5 (some [0,0,2,6,14,31,0,64,192,448,1023,2047,4095])) (.seq (.z r_Z115_6) .ret)))))
theorem c_Z115 : cfun Tryz.prog [] 124 = some (39,dc_Z115,[(Res.cell 6 (some 5)),(Res.tmp 7)]):=by kernel_rfl
def r_Z94_0 : List GI:=[gi 3 (.box 3 2000003 (.t 0) (some 5)),gi 4 (.box 4 2000004 (.t 1) (some 5)),gi 6 (.alloc 6 2000006 [I 0,I 0,.nul,.nul,.nul]),gi 7 (.mov 7 (.k (.v (.bool false))))]
def r_Z94_1 : List GI:=[gf 12 3 2,gl 13 12,gi 14 (.iad 14 13 (.k (I 0)) 5),gs 15 14 5,gi 8 (.alloc 8 2000008 [I 0,I 0,.v (.bool false),I 0,.nul]),g0 (.sto 8 (.t 15) (some 5))]
def r_Z94_2 : List GI:=[gs 17 4 5,gt 18 2,gc 19 160 [.t 17,.t 18],gt 16 19,gi 20 (.ext 20 16 0),gi 21 (.ext 21 16 1),gi 9 (.alloc 9 2000009 [I 0]),g0 (.sto 9 (.t 20) none),gt 10 21]
def r_Z94_3 : List GI:=[gs 22 8 5,gc 23 162 [.t 22],gi 24 (.mkf 24 164 [.t 9]),gc 25 161 [.t 23,.t 24]]
def r_Z94_4 : List GI:=[gi 26 (.build 26 [I 0,I 0,.nul,.nul,.nul] []),g0 (.sto 6 (.t 26) (some 5)),gi 7 (.mov 7 (.k (.v (.bool false))))]
def r_Z94_5 : List GI:=[gs 27 8 5,gi 28 (.mkf 28 166 [.t 9]),gi 29 (.build 29 [.v .nilFunc] [(0,(none,.t 28))]),gi 30 (.ifc 30 175 (.t 29)),gc 31 165 [.t 27,.t 30],gi 11 (.alloc 11 2000011 [I 0,I 0,.v (.bool false),I 0,.nul]),g0 (.sto 11 (.t 31) (some 5))]
def r_Z94_6 : List GI:=[gf 32 4 4,gl 33 32,gi 34 (.iad 34 33 (.k (I 0)) 5),gs 35 34 5,gs 36 11 5,gf 37 4 4,gl 38 37,gi 39 (.iad 39 38 (.k (I 1)) 5),gs 40 39 5,gc 41 158 [.t 36,.t 40],gi 42 (.bsl 42 5 (some 5) [.agg [I 0,I 0,.nul,.nul,.nul],.agg [I 0,I 0,.nul,.nul,.nul]] [(0,.t 35),(1,.t 41)]),gf 43 4 4,g0 (.sto 43 (.t 42) none)]
def r_Z94_7 : List GI:=[gs 44 4 5,g0 (.sto 6 (.t 44) (some 5)),gi 7 (.mov 7 (.k (.v (.bool true))))]
def dc_Z94 : DC:=.seq (.z r_Z94_0) (.seq (.z r_Z94_1) (.seq (.z r_Z94_2) (.seq (.seq (.z r_Z94_3) (.cond (.t 25) (.seq (.z r_Z94_4) .ret) .skip)) (.seq (.z r_Z94_5) (.seq (.reg r_Z94_6 (some [0,1,3,7,0,0,32,96,224,496,1023,2047,4095])) (.seq (.z r_Z94_7) .ret))))))
theorem c_Z94 : cfun Tryz.prog [] 125 = some (45,dc_Z94,[(Res.cell 6 (some 5)),(Res.tmp 7)]):=by kernel_rfl
def r_Z58_0 : List GI:=[gi 3 (.box 3 2000003 (.t 0) (some 5)),gi 4 (.box 4 2000004 (.t 1) (some 5)),gi 6 (.alloc 6 2000006 [I 0,I 0,.nul,.nul,.nul]),gi 7 (.mov 7 (.k (.v (.bool false))))]
def r_Z58_1 : List GI:=[gf 9 3 2,gl 10 9,gi 11 (.iad 11 10 (.k (I 0)) 5),gs 12 11 5,gi 8 (.alloc 8 2000008 [I 0,I 0,.v (.bool false),I 0,.nul]),g0 (.sto 8 (.t 12) (some 5))]
def r_Z58_2 : List GI:=[gf 13 8 0,gl 14 13,gd 15 .neq 14 8]
def r_Z58_3 : List GI:=[gi 16 (.build 16 [I 0,I 0,.nul,.nul,.nul] []),g0 (.sto 6 (.t 16) (some 5)),gi 7 (.mov 7 (.k (.v (.bool false))))]
def r_Z58_4 : List GI:=[gf 17 8 4,gl 18 17,gi 19 (.iad 19 18 (.k (I 1)) 5),gs 20 19 5,gf 21 8 4,gl 22 21,gi 23 (.iad 23 22 (.k (I 0)) 5),gs 24 23 5,gs 25 4 5,gc 26 158 [.t 24,.t 25],gc 27 158 [.t 20,.t 26],g0 (.sto 6 (.t 27) (some 5)),gi 7 (.mov 7 (.k (.v (.bool true))))]
def dc_Z58 : DC:=.seq (.z r_Z58_0) (.seq (.z r_Z58_1) (.seq (.seq (.z r_Z58_2) (.cond (.t 15) (.seq (.z r_Z58_3) .ret) .skip)) (.seq (.reg r_Z58_4 (some [0,1,3,7,0,16,48,112,0,496,1023,2047,4095])) .ret)))
theorem c_Z58 : cfun Tryz.prog [] 123 = some (28,dc_Z58,[(Res.cell 6 (some 5)),(Res.tmp 7)]):=by kernel_rfl
def r_Z19_0 : List GI:=[gi 4 (.box 4 2000004 (.t 1) (some 5)),gi 5 (.box 5 2000005 (.t 2) (some 5)),gi 6 (.alloc 6 2000006 [I 0,I 0,.nul,.nul,.nul])]
def r_Z19_1 : List GI:=[gt 7 0,gn 8 7,gd 9 .eql 8 0]
def r_Z19_2 : List GI:=[gs 10 5 5,g0 (.sto 6 (.t 10) (some 5))]
def r_Z19_3 : List GI:=[gf 11 4 4,gl 12 11,gc 13 93 [.t 12],gf 14 4 4,g0 (.sto 14 (.t 13) none)]
def r_Z19_4 : List GI:=[gf 15 4 4,gl 16 15,gt 17 0,gi 18 (.iad 18 17 (.k (I 0)) 1),gl 19 18,gt 20 0,gi 21 (.slc 21 (.t 20) (some (.k (I 1))) none 1),gf 22 4 4,gl 23 22,gt 24 0,gi 25 (.iad 25 24 (.k (I 0)) 1),gl 26 25,ga 27 23 26 5,gs 28 27 5,gs 29 5 5,gc 30 87 [.t 21,.t 28,.t 29],ga 31 16 19 5,g0 (.sto 31 (.t 30) (some 5))]
def r_Z19_5 : List GI:=[gs 32 4 5,g0 (.sto 6 (.t 32) (some 5))]
def dc_Z19 : DC:=.seq (.z r_Z19_0) (.seq (.seq (.z r_Z19_1) (.cond (.t 9) (.seq (.z r_Z19_2) .ret) .skip)) (.seq (.z r_Z19_3) (.seq (.reg r_Z19_4 (some [0,1,0,4,12,0,32,0,128,0,512,1536,3968,8064,0,32736,65535,131071])) (.seq (.z r_Z19_5) .ret))))
theorem c_Z19 : cfun Tryz.prog [] 87 = some (33,dc_Z19,[(Res.cell 6 (some 5))]):=by kernel_rfl
def r_Z12_0 : List GI:=[gi 4 (.box 4 2000004 (.t 0) (some 3)),gi 5 (.box 5 2000005 (.t 1) (some 5)),gi 8 (.alloc 8 2000008 [I 0,I 0,.nul,.nul,.nul]),gi 9 (.mov 9 (.k (.v (.bool false))))]
def r_Z12_1 : List GI:=[gf 12 5 0,gl 13 12,gf 14 4 0,gl 15 14,gb 16 .neq 13 15,gt 17 16,⟨.fad 18 4 1,some 18,some (17,false),false⟩,⟨.lod 19 18 none,some 19,some (17,false),false⟩,⟨.len 20 (.t 19),some 20,some (17,false),false⟩,⟨.bin 21 .gtr (.t 20) (.k (I 0)),some 21,some (17,false),false⟩,⟨.mov 22 (.t 21),some 22,some (17,false),false⟩,⟨.fad 23 4 1,some 23,some (22,true),false⟩,⟨.lod 24 23 none,some 24,some (22,true),false⟩,⟨.fad 25 5 4,some 25,some (22,true),false⟩,⟨.lod 26 25 none,some 26,some (22,true),false⟩,⟨.iad 27 26 (.k (I 0)) 5,some 27,some (22,true),false⟩,⟨.fad 28 27 0,some 28,some (22,true),false⟩,⟨.lod 29 28 none,some 29,some (22,true),false⟩,⟨.call 30 133 [.t 24,.t 29],some 30,some (22,true),true⟩,⟨.un 31 UnOp.not (.t 30),some 31,some (22,true),false⟩,⟨.pick 32 (.t 22) (.t 31) (.k (.v (.bool false))),some 32,some (17,false),false⟩,gi 33 (.pick 33 (.t 17) (.k (.v (.bool true))) (.t 32))]
def r_Z12_2 : List GI:=[gi 34 (.build 34 [I 0,I 0,.nul,.nul,.nul] []),g0 (.sto 8 (.t 34) (some 5)),gi 9 (.mov 9 (.k (.v (.bool false))))]
def r_Z12_3 : List GI:=[gf 36 4 2,gl 37 36,gs 38 5 5,gf 39 5 4,gl 40 39,gi 41 (.iad 41 40 (.k (I 0)) 5),gs 42 41 5,gt 43 2,⟨.cal 44 (.t 37) [.t 38,.t 42,.t 43],some 44,none,true⟩,gt 35 44,gi 45 (.ext 45 35 0),gi 46 (.ext 46 35 1),gi 10 (.alloc 10 2000010 [I 0,I 0,.nul,.nul,.nul]),g0 (.sto 10 (.t 45) (some 5)),gt 11 46]
def r_Z12_4 : List GI:=[gt 47 11,gi 48 (.un 48 UnOp.not (.t 47)),gt 49 48,⟨.lod 50 10 (some 5),some 50,some (49,false),false⟩,⟨.mov 51 (.t 2),some 51,some (49,false),false⟩,⟨.mov 52 (.t 3),some 52,some (49,false),false⟩,⟨.call 53 56 [.t 50,.t 51,.t 52],some 53,some (49,false),true⟩,⟨.bin 54 .eql (.t 53) (.k (I 0)),some 54,some (49,false),false⟩,gi 55 (.pick 55 (.t 49) (.k (.v (.bool true))) (.t 54))]
def r_Z12_5 : List GI:=[gi 56 (.build 56 [I 0,I 0,.nul,.nul,.nul] []),g0 (.sto 8 (.t 56) (some 5)),gi 9 (.mov 9 (.k (.v (.bool false))))]
def r_Z12_6 : List GI:=[gs 57 10 5,g0 (.sto 8 (.t 57) (some 5)),gi 9 (.mov 9 (.k (.v (.bool true))))]
def dc_Z12 : DC:=.seq (.z r_Z12_0) (.seq (.seq (.reg r_Z12_1 (some [0,1,0,4,15,31,63,127,255,511,1023,2047,4095,2047,10239,26623,59391,124927,262143,524287,1048575,2097151])) (.cond (.t 33) (.seq (.z r_Z12_2) .ret) .skip)) (.seq (.reg r_Z12_3 (some [0,1,0,0,8,24,56,0,255,511,1023,1023,0,6143,16383])) (.seq (.seq (.z r_Z12_4) (.cond (.t 55) (.seq (.z r_Z12_5) .ret) .skip)) (.seq (.z r_Z12_6) .ret))))
theorem c_Z12 : cfun Tryz.prog [] 86 = some (58,dc_Z12,[(Res.cell 8 (some 5)),(Res.tmp 9)]):=by kernel_rfl
def r_Z42_0 : List GI:=[gi 0 (.mov 0 (.k .nul))]
def r_Z42_1 : List GI:=[gi 1 (.bsl 1 1 none [I 0] [(0,.k (I 2))]),gi 2 (.build 2 [I 0,.nul,.v .nilFunc] [(0,(none,.k (I 2))),(1,(none,.t 1)),(2,(none,.k (.fn 122 [])))]),gi 3 (.build 3 [I 0,.nul,.v .nilFunc] [(0,(none,.k (I 2))),(1,(none,.k .nul)),(2,(none,.k (.fn 123 [])))]),gi 4 (.bsl 4 1 none [I 0,I 0] [(0,.k (I 4)),(1,.k (I 5))]),gi 5 (.build 5 [I 0,.nul,.v .nilFunc] [(0,(none,.k (I 2))),(1,(none,.t 4)),(2,(none,.k (.fn 124 [])))]),gi 6 (.bsl 6 1 none [I 0] [(0,.k (I 4))]),gi 7 (.build 7 [I 0,.nul,.v .nilFunc] [(0,(none,.k (I 2))),(1,(none,.t 6)),(2,(none,.k (.fn 125 [])))]),gi 8 (.bsl 8 1 none [I 0] [(0,.k (I 4))]),gi 9 (.build 9 [I 0,.nul,.v .nilFunc] [(0,(none,.k (I 2))),(1,(none,.t 8)),(2,(none,.k (.fn 126 [])))]),gi 10 (.build 10 [I 0,.nul,.v .nilFunc] [(0,(none,.k (I 4))),(1,(none,.k .nul)),(2,(none,.k (.fn 127 [])))]),gi 11 (.bsl 11 1 none [I 0] [(0,.k (I 5))]),gi 12 (.build 12 [I 0,.nul,.v .nilFunc] [(0,(none,.k (I 2))),(1,(none,.t 11)),(2,(none,.k (.fn 128 [])))]),gi 13 (.bsl 13 1 none [I 0] [(0,.k (I 6))]),gi 14 (.build 14 [I 0,.nul,.v .nilFunc] [(0,(none,.k (I 2))),(1,(none,.t 13)),(2,(none,.k (.fn 129 [])))]),gi 15 (.bsl 15 1 none [I 0,I 0] [(0,.k (I 7)),(1,.k (I 8))]),gi 16 (.build 16 [I 0,.nul,.v .nilFunc] [(0,(none,.k (I 7))),(1,(none,.t 15)),(2,(none,.k (.fn 130 [])))]),gi 17 (.bsl 17 1 none [I 0] [(0,.k (I 3))]),gi 18 (.build 18 [I 0,.nul,.v .nilFunc] [(0,(none,.k (I 2))),(1,(none,.t 17)),(2,(none,.k (.fn 131 [])))]),gi 19 (.bsl 19 1 none [I 0] [(0,.k (I 3))]),gi 20 (.build 20 [I 0,.nul,.v .nilFunc] [(0,(none,.k (I 3))),(1,(none,.t 19)),(2,(none,.k (.fn 132 [])))]),gi 21 (.bsl 21 3 (some 3) [.agg [I 0,.nul,.v .nilFunc],.agg [I 0,.nul,.v .nilFunc],.agg [I 0,.nul,.v .nilFunc],.agg [I 0,.nul,.v .nilFunc],.agg [I 0,.nul,.v .nilFunc],.agg [I 0,.nul,.v .nilFunc],.agg [I 0,.nul,.v .nilFunc],.agg [I 0,.nul,.v .nilFunc],.agg [I 0,.nul,.v .nilFunc],.agg [I 0,.nul,.v .nilFunc],.agg [I 0,.nul,.v .nilFunc],.agg [I 0,.nul,.v .nilFunc]] [(1,.t 2),(2,.t 3),(3,.t 5),(4,.t 7),(5,.t 9),(6,.t 10),(7,.t 12),(8,.t 14),(9,.t 16),(10,.t 18),(11,.t 20)]),gt 0 21]
def dc_Z42 : DC:=.seq (.z r_Z42_0) (.seq (.z r_Z42_1) .ret)
theorem c_Z42 : cfun Tryz.prog [] 84 = some (22,dc_Z42,[(Res.tmp 0)]):=by kernel_rfl
def r_Z86_0 : List GI:=[gi 3 (.box 3 2000003 (.t 0) (some 5)),gi 5 (.box 5 2000005 (.t 2) (some 2)),gi 6 (.alloc 6 2000006 [I 0,I 0,.nul,.nul,.nul]),gi 7 (.mov 7 (.k (.v (.bool false))))]
def r_Z86_1 : List GI:=[gs 10 3 5,gt 11 1,gc 12 19 [.t 10,.t 11],gd 13 .eql 12 0]
def r_Z86_2 : List GI:=[gi 14 (.build 14 [I 0,I 0,.nul,.nul,.nul] []),g0 (.sto 6 (.t 14) (some 5)),gi 7 (.mov 7 (.k (.v (.bool false))))]
def r_Z86_3 : List GI:=[gs 16 5 2,gs 17 3 5,gt 18 1,gc 19 51 [.t 16,.t 17,.t 18],gt 15 19,gi 20 (.ext 20 15 0),gi 21 (.ext 21 15 1),gi 8 (.alloc 8 2000008 [I 0,I 0,.nul,.nul,.nul]),g0 (.sto 8 (.t 20) (some 5)),gt 9 21]
def r_Z86_4 : List GI:=[gt 22 9,gi 23 (.un 23 UnOp.not (.t 22))]
def r_Z86_5 : List GI:=[gi 24 (.build 24 [I 0,I 0,.nul,.nul,.nul] []),g0 (.sto 6 (.t 24) (some 5)),gi 7 (.mov 7 (.k (.v (.bool false))))]
def r_Z86_6 : List GI:=[gs 25 8 5,gc 26 52 [.t 25],g0 (.sto 6 (.t 26) (some 5)),gi 7 (.mov 7 (.k (.v (.bool true))))]
def dc_Z86 : DC:=.seq (.z r_Z86_0) (.seq (.seq (.z r_Z86_1) (.cond (.t 13) (.seq (.z r_Z86_2) .ret) .skip)) (.seq (.z r_Z86_3) (.seq (.seq (.z r_Z86_4) (.cond (.t 23) (.seq (.z r_Z86_5) .ret) .skip)) (.seq (.z r_Z86_6) .ret))))
theorem c_Z86 : cfun Tryz.prog [] 16 = some (27,dc_Z86,[(Res.cell 6 (some 5)),(Res.tmp 7)]):=by kernel_rfl
def r_Z37_0 : List GI:=[gi 3 (.box 3 2000003 (.t 0) (some 2)),gi 4 (.box 4 2000004 (.t 1) (some 5)),gi 6 (.alloc 6 2000006 [I 0,I 0,.nul,.nul,.nul]),gi 7 (.mov 7 (.k (.v (.bool false))))]
def r_Z37_1 : List GI:=[gf 13 3 1,gl 14 13,gc 15 84 [],gt 8 14,gt 9 15]
def r_Z37_2 : List GI:=[gt 17 8,gs 18 4 5,gc 19 85 [.t 17,.t 18],gt 16 19,gi 20 (.ext 20 16 0),gi 21 (.ext 21 16 1),gi 10 (.alloc 10 2000010 [I 0,I 0,.nul,.nul,.nul]),g0 (.sto 10 (.t 20) (some 5)),gt 11 21]
def r_Z37_3 : List GI:=[gt 22 11,gi 23 (.un 23 UnOp.not (.t 22)),gt 24 23,⟨.fad 25 3 0,some 25,some (24,false),false⟩,⟨.lod 26 25 none,some 26,some (24,false),false⟩,⟨.bin 27 .lss (.t 26) (.k (I 0)),some 27,some (24,false),false⟩,gi 28 (.pick 28 (.t 24) (.k (.v (.bool true))) (.t 27)),gt 29 28,⟨.fad 30 3 0,some 30,some (29,false),false⟩,⟨.lod 31 30 none,some 31,some (29,false),false⟩,⟨.mov 32 (.t 9),some 32,some (29,false),false⟩,⟨.len 33 (.t 32),some 33,some (29,false),false⟩,⟨.bin 34 .geq (.t 31) (.t 33),some 34,some (29,false),false⟩,gi 35 (.pick 35 (.t 29) (.k (.v (.bool true))) (.t 34))]
def r_Z37_4 : List GI:=[gi 36 (.build 36 [I 0,I 0,.nul,.nul,.nul] []),g0 (.sto 6 (.t 36) (some 5)),gi 7 (.mov 7 (.k (.v (.bool false))))]
def r_Z37_5 : List GI:=[gt 38 9,gf 39 3 0,gl 40 39,ga 41 38 40 3,gs 42 41 3,gs 43 10 5,gt 44 2,gt 45 8,gn 46 45,gi 47 (.bin 47 .sub (.k (I 8)) (.t 46)),gc 48 86 [.t 42,.t 43,.t 44,.t 47],gt 37 48,gi 49 (.ext 49 37 0),gi 50 (.ext 50 37 1),g0 (.sto 10 (.t 49) (some 5)),gt 12 50]
def r_Z37_6 : List GI:=[gt 51 12,gi 52 (.un 52 UnOp.not (.t 51))]
def r_Z37_7 : List GI:=[gi 53 (.build 53 [I 0,I 0,.nul,.nul,.nul] []),g0 (.sto 6 (.t 53) (some 5)),gi 7 (.mov 7 (.k (.v (.bool false))))]
def r_Z37_8 : List GI:=[gt 54 8,gs 55 4 5,gs 56 10 5,gc 57 87 [.t 54,.t 55,.t 56],g0 (.sto 6 (.t 57) (some 5)),gi 7 (.mov 7 (.k (.v (.bool true))))]
def dc_Z37 : DC:=.seq (.z r_Z37_0) (.seq (.reg r_Z37_1 (some [0,1,0,7,15])) (.seq (.z r_Z37_2) (.seq (.seq (.z r_Z37_3) (.cond (.t 35) (.seq (.z r_Z37_4) .ret) .skip)) (.seq (.reg r_Z37_5 (some [0,0,2,7,15,0,0,0,128,384,1023,2047,4095,4095,8191,32767])) (.seq (.seq (.z r_Z37_6) (.cond (.t 52) (.seq (.z r_Z37_7) .ret) .skip)) (.seq (.z r_Z37_8) .ret))))))
theorem c_Z37 : cfun Tryz.prog [] 51 = some (58,dc_Z37,[(Res.cell 6 (some 5)),(Res.tmp 7)]):=by kernel_rfl
def r_Z100_0 : List GI:=[gi 3 (.box 3 2000003 (.t 0) (some 5)),gi 5 (.box 5 2000005 (.t 2) (some 2)),gi 6 (.alloc 6 2000006 [I 0,I 0,.nul,.nul,.nul]),gi 7 (.mov 7 (.k (.v (.bool false))))]
def r_Z100_1 : List GI:=[gs 12 3 5,gf 13 5 1,gl 14 13,gc 15 96 [.t 12,.t 14],gt 11 15,gi 16 (.ext 16 11 0),gi 17 (.ext 17 11 1),gi 8 (.alloc 8 2000008 [I 0,I 0,.nul,.nul,.nul]),g0 (.sto 8 (.t 16) (some 5)),gt 9 17]
def r_Z100_2 : List GI:=[gt 18 9,gi 19 (.un 19 UnOp.not (.t 18))]
def r_Z100_3 : List GI:=[gi 20 (.build 20 [I 0,I 0,.nul,.nul,.nul] []),g0 (.sto 6 (.t 20) (some 5)),gi 7 (.mov 7 (.k (.v (.bool false))))]
def r_Z100_4 : List GI:=[gs 22 8 5,gf 23 5 0,gl 24 23,gt 25 1,gc 26 97 [.t 22,.t 24,.t 25],gt 21 26,gi 27 (.ext 27 21 0),gi 28 (.ext 28 21 1),g0 (.sto 8 (.t 27) (some 5)),gt 9 28]
def r_Z100_5 : List GI:=[gt 29 9,gi 30 (.un 30 UnOp.not (.t 29))]
def r_Z100_6 : List GI:=[gi 31 (.build 31 [I 0,I 0,.nul,.nul,.nul] []),g0 (.sto 6 (.t 31) (some 5)),gi 7 (.mov 7 (.k (.v (.bool false))))]
def r_Z100_7 : List GI:=[gs 32 3 5,gf 33 5 1,gl 34 33,gs 35 8 5,gc 36 98 [.t 32,.t 34,.t 35],gi 10 (.alloc 10 2000010 [I 0,I 0,.nul,.nul,.nul]),g0 (.sto 10 (.t 36) (some 5))]
def r_Z100_8 : List GI:=[gs 37 10 5,gt 38 1,gc 39 95 [.t 37,.t 38,.k (I 8)],gd 40 .eql 39 0]
def r_Z100_9 : List GI:=[gi 41 (.build 41 [I 0,I 0,.nul,.nul,.nul] []),g0 (.sto 6 (.t 41) (some 5)),gi 7 (.mov 7 (.k (.v (.bool false))))]
def r_Z100_10 : List GI:=[gs 42 10 5,g0 (.sto 6 (.t 42) (some 5)),gi 7 (.mov 7 (.k (.v (.bool true))))]
def dc_Z100 : DC:=.seq (.z r_Z100_0) (.seq (.z r_Z100_1) (.seq (.seq (.z r_Z100_2) (.cond (.t 19) (.seq (.z r_Z100_3) .ret) .skip)) (.seq (.z r_Z100_4) (.seq (.seq (.z r_Z100_5) (.cond (.t 30) (.seq (.z r_Z100_6) .ret) .skip)) (.seq (.z r_Z100_7) (.seq (.seq (.z r_Z100_8) (.cond (.t 40) (.seq (.z r_Z100_9) .ret) .skip)) (.seq (.z r_Z100_10) .ret)))))))
theorem c_Z100 : cfun Tryz.prog [] 54 = some (43,dc_Z100,[(Res.cell 6 (some 5)),(Res.tmp 7)]):=by kernel_rfl
def r_Z105_0 : List GI:=[gi 3 (.box 3 2000003 (.t 0) (some 5)),gi 5 (.box 5 2000005 (.t 2) (some 5)),gi 6 (.alloc 6 2000006 [I 0,I 0,.nul,.nul,.nul])]
def r_Z105_1 : List GI:=[gt 8 1,gn 9 8,gd 10 .eql 9 0]
def r_Z105_2 : List GI:=[gs 11 5 5,gc 12 64 [.t 11],g0 (.sto 6 (.t 12) (some 5))]
def r_Z105_3 : List GI:=[gs 13 3 5,gc 14 64 [.t 13],gi 7 (.alloc 7 2000007 [I 0,I 0,.nul,.nul,.nul]),g0 (.sto 7 (.t 14) (some 5))]
def r_Z105_4 : List GI:=[gf 15 7 4,gl 16 15,gt 17 1,gi 18 (.iad 18 17 (.k (I 0)) 1),gl 19 18,gf 20 3 4,gl 21 20,gt 22 1,gi 23 (.iad 23 22 (.k (I 0)) 1),gl 24 23,ga 25 21 24 5,gs 26 25 5,gt 27 1,gi 28 (.slc 28 (.t 27) (some (.k (I 1))) none 1),gs 29 5 5,gc 30 98 [.t 26,.t 28,.t 29],ga 31 16 19 5,g0 (.sto 31 (.t 30) (some 5))]
def r_Z105_5 : List GI:=[gs 32 7 5,g0 (.sto 6 (.t 32) (some 5))]
def dc_Z105 : DC:=.seq (.z r_Z105_0) (.seq (.seq (.z r_Z105_1) (.cond (.t 10) (.seq (.z r_Z105_2) .ret) .skip)) (.seq (.z r_Z105_3) (.seq (.reg r_Z105_4 (some [0,1,0,4,12,0,32,0,128,384,992,2016,0,4096,0,32736,65535,131071])) (.seq (.z r_Z105_5) .ret))))
theorem c_Z105 : cfun Tryz.prog [] 98 = some (33,dc_Z105,[(Res.cell 6 (some 5))]):=by kernel_rfl
def r_Z117_0 : List GI:=[gi 2 (.box 2 2000002 (.t 0) (some 5)),gi 4 (.mov 4 (.k .nul))]
def r_Z117_1 : List GI:=[gs 5 2 5,gt 6 1,gc 7 53 [.t 5,.t 6],gd 8 .eql 7 0]
def r_Z117_2 : List GI:=[gi 4 (.mov 4 (.k .nul))]
def r_Z117_3 : List GI:=[gs 9 2 5,gt 10 1,gc 11 60 [.t 9,.t 10],gt 4 11]
def dc_Z117 : DC:=.seq (.z r_Z117_0) (.seq (.seq (.z r_Z117_1) (.cond (.t 8) (.seq (.z r_Z117_2) .ret) .skip)) (.seq (.z r_Z117_3) .ret))
theorem c_Z117 : cfun Tryz.prog [] 24 = some (12,dc_Z117,[(Res.tmp 4)]):=by kernel_rfl
def r_Z118_0 : List GI:=[gi 4 (.box 4 2000004 (.t 1) (some 5)),gi 6 (.mov 6 (.k .nul))]
def r_Z118_1 : List GI:=[gt 8 0,gi 9 (.mov 9 (.k .nul)),gt 10 2,gi 11 (.app 11 2000011 (.t 9) (.t 10) 1 8),gi 12 (.bsl 12 1 none [.nul] [(0,.t 11)]),gi 13 (.app 13 2000013 (.t 8) (.t 12) 1 24),gt 0 13]
def r_Z118_2 : List GI:=[gk 7 0]
def r_Z118_3 : List GI:=[gt 14 7,gf 15 4 4,gl 16 15,gn 17 16,gb 18 .lss 14 17]
def r_Z118_4 : List GI:=[gt 21 0,gf 22 4 4,gl 23 22,gt 24 7,ga 25 23 24 5,gs 26 25 5,gi 27 (.mov 27 (.k .nul)),gt 28 2,gi 29 (.app 29 2000029 (.t 27) (.t 28) 1 8),gt 30 7,gi 31 (.bsl 31 1 none [I 0] [(0,.t 30)]),gi 32 (.app 32 2000032 (.t 29) (.t 31) 1 8),gc 33 109 [.t 21,.t 26,.t 32],gt 0 33]
def r_Z118_5 : List GI:=[gt 19 7,gd 20 .add 19 1,gt 7 20]
def r_Z118_6 : List GI:=[gt 34 0,gt 6 34]
def dc_Z118 : DC:=.seq (.z r_Z118_0) (.seq (.z r_Z118_1) (.seq (.seq (.z r_Z118_2) (.block 0 (.loop (.seq (.seq (.z r_Z118_3) (.cond (.t 18) .skip (.exit 0))) (.seq (.block 1 (.reg r_Z118_4 (some [0,0,2,0,14,30,0,0,192,0,512,1984,4095,8191]))) (.z r_Z118_5)))))) (.seq (.z r_Z118_6) .ret)))
theorem c_Z118 : cfun Tryz.prog [] 109 = some (35,dc_Z118,[(Res.tmp 6)]):=by kernel_rfl
end
end Go.Proofs.YtgpdmgaemhelgaaGreat
