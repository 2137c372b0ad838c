/-
  Functions of the program read as code on plain data. Closed facts of the program alone.
-/
import Derived.KernelRfl
import Derived.Test.YtgpdmgaemhelgaaGreatRows
import Derived.Test.YtgpdmgaemhelgaaGreatJSVBox
import Derived.Test.YtgpdmgaemhelgaaGreatJSVYld
namespace Go.Proofs.YtgpdmgaemhelgaaGreat
open Go.RowKit
noncomputable section
def r_Z84_0 : List GI:=[gi 2 (.box 2 2000002 (.t 0) (some 5)),gi 4 (.alloc 4 2000004 [I 0,I 0,.v (.bool false),I 0,.nul])]
def r_Z84_1 : List GI:=[gf 7 2 0,gl 8 7,gd 9 .eql 8 1]
def r_Z84_2 : List GI:=[gt 10 1,gf 11 2 1,gl 12 11,ga 13 10 12 5,gs 14 13 5,gc 15 110 [.t 14],g0 (.sto 4 (.t 15) (some 5))]
def r_Z84_3 : List GI:=[gf 16 2 0,gl 17 16,gf 18 2 1,gl 19 18,gf 20 2 2,gs 21 20 2,gi 22 (.build 22 [I 0,I 0,.v (.bool false),I 0,.nul] [(0,(none,.t 17)),(1,(none,.t 19)),(2,(some 2,.t 21))]),gi 5 (.alloc 5 2000005 [I 0,I 0,.v (.bool false),I 0,.nul]),g0 (.sto 5 (.t 22) (some 5))]
def r_Z84_4 : List GI:=[gk 6 0]
def r_Z84_5 : List GI:=[gt 23 6,gf 24 2 4,gl 25 24,gn 26 25,gb 27 .lss 23 26]
def r_Z84_6 : List GI:=[gf 30 5 4,gl 31 30,gf 32 2 4,gl 33 32,gt 34 6,ga 35 33 34 5,gs 36 35 5,gt 37 1,gc 38 143 [.t 36,.t 37],gi 39 (.bsl 39 5 (some 5) [.agg [I 0,I 0,.v (.bool false),I 0,.nul]] [(0,.t 38)]),gi 40 (.app 40 2000040 (.t 31) (.t 39) 5 56),gf 41 5 4,g0 (.sto 41 (.t 40) none)]
def r_Z84_7 : List GI:=[gt 28 6,gd 29 .add 28 1,gt 6 29]
def r_Z84_8 : List GI:=[gs 42 5 5,g0 (.sto 4 (.t 42) (some 5))]
def dc_Z84 : DC:=.seq (.z r_Z84_0) (.seq (.seq (.z r_Z84_1) (.cond (.t 9) (.seq (.z r_Z84_2) .ret) .skip)) (.seq (.z r_Z84_3) (.seq (.seq (.z r_Z84_4) (.block 0 (.loop (.seq (.seq (.z r_Z84_5) (.cond (.t 27) .skip (.exit 0))) (.seq (.block 1 (.reg r_Z84_6 (some [0,1,0,4,0,28,60,0,252,508,1023,2047,4095]))) (.z r_Z84_7)))))) (.seq (.z r_Z84_8) .ret))))
theorem c_Z84 : cfun Tryz.prog [] 143 = some (43,dc_Z84,[(Res.cell 4 (some 5))]):=by kernel_rfl
def r_Z78_0 : List GI:=[gi 3 (.box 3 2000003 (.t 1) (some 5)),gi 4 (.mov 4 (.k .nul))]
def r_Z78_1 : List GI:=[gf 6 3 0,gl 7 6,gd 8 .eql 7 1]
def r_Z78_2 : List GI:=[gt 9 0,gf 10 3 1,gl 11 10,gc 12 201 [.t 9,.t 11],gt 0 12]
def r_Z78_3 : List GI:=[gk 5 0]
def r_Z78_4 : List GI:=[gt 13 5,gf 14 3 4,gl 15 14,gn 16 15,gb 17 .lss 13 16]
def r_Z78_5 : List GI:=[gt 20 0,gf 21 3 4,gl 22 21,gt 23 5,ga 24 22 23 5,gs 25 24 5,gc 26 186 [.t 20,.t 25],gt 0 26]
def r_Z78_6 : List GI:=[gt 18 5,gd 19 .add 18 1,gt 5 19]
def r_Z78_7 : List GI:=[gt 27 0,gt 4 27]
def dc_Z78 : DC:=.seq (.z r_Z78_0) (.seq (.seq (.z r_Z78_1) (.cond (.t 8) (.z r_Z78_2) .skip)) (.seq (.seq (.z r_Z78_3) (.block 0 (.loop (.seq (.seq (.z r_Z78_4) (.cond (.t 17) .skip (.exit 0))) (.seq (.block 1 (.z r_Z78_5)) (.z r_Z78_6)))))) (.seq (.z r_Z78_7) .ret)))
theorem c_Z78 : cfun Tryz.prog [] 186 = some (28,dc_Z78,[(Res.tmp 4)]):=by kernel_rfl
def r_Z99_0 : List GI:=[gi 4 (.mov 4 (.k .nul))]
def r_Z99_1 : List GI:=[gk 5 0]
def r_Z99_2 : List GI:=[gt 7 5,gt 8 0,gn 9 8,gb 10 .lss 7 9,gt 11 10,⟨.mov 12 (.t 0),some 12,some (11,true),false⟩,⟨.mov 13 (.t 5),some 13,some (11,true),false⟩,⟨.iad 14 12 (.t 13) 1,some 14,some (11,true),false⟩,⟨.lod 15 14 none,some 15,some (11,true),false⟩,⟨.mov 16 (.t 1),some 16,some (11,true),false⟩,⟨.bin 17 .lss (.t 15) (.t 16),some 17,some (11,true),false⟩,gi 18 (.pick 18 (.t 11) (.t 17) (.k (.v (.bool false))))]
def r_Z99_3 : List GI:=[gt 19 5,gd 20 .add 19 1,gt 5 20]
def r_Z99_4 : List GI:=[gt 21 5,gt 22 0,gn 23 22,gb 24 .lss 21 23,gt 25 24,⟨.mov 26 (.t 0),some 26,some (25,true),false⟩,⟨.mov 27 (.t 5),some 27,some (25,true),false⟩,⟨.iad 28 26 (.t 27) 1,some 28,some (25,true),false⟩,⟨.lod 29 28 none,some 29,some (25,true),false⟩,⟨.mov 30 (.t 1),some 30,some (25,true),false⟩,⟨.bin 31 .eql (.t 29) (.t 30),some 31,some (25,true),false⟩,gi 32 (.pick 32 (.t 25) (.t 31) (.k (.v (.bool false))))]
def r_Z99_5 : List GI:=[gt 33 0,gt 4 33]
def r_Z99_6 : List GI:=[gi 34 (.mov 34 (.k .nul)),gt 35 0,gt 36 5,gi 37 (.slc 37 (.t 35) none (some (.t 36)) 1),gi 38 (.app 38 2000038 (.t 34) (.t 37) 1 8),gt 6 38]
def r_Z99_7 : List GI:=[gt 39 6,gt 40 1,gi 41 (.bsl 41 1 none [I 0] [(0,.t 40)]),gi 42 (.app 42 2000042 (.t 39) (.t 41) 1 8),gt 6 42]
def r_Z99_8 : List GI:=[gt 43 6,gt 44 0,gt 45 5,gi 46 (.slc 46 (.t 44) (some (.t 45)) none 1),gi 47 (.app 47 2000047 (.t 43) (.t 46) 1 8),gt 4 47]
def dc_Z99 : DC:=.seq (.z r_Z99_0) (.seq (.z r_Z99_1) (.seq (.block 0 (.loop (.seq (.seq (.z r_Z99_2) (.cond (.t 18) .skip (.exit 0))) (.block 1 (.z r_Z99_3))))) (.seq (.seq (.z r_Z99_4) (.cond (.t 32) (.seq (.z r_Z99_5) .ret) .skip)) (.seq (.z r_Z99_6) (.seq (.z r_Z99_7) (.seq (.z r_Z99_8) .ret))))))
theorem c_Z99 : cfun Tryz.prog [] 201 = some (48,dc_Z99,[(Res.tmp 4)]):=by kernel_rfl
def r_Z101_0 : List GI:=[gi 6 (.alloc 6 2000006 [I 0,I 0,.v (.bool false),I 0,.nul])]
def r_Z101_1 : List GI:=[gt 10 0,gt 11 1,gc 12 65 [.t 10,.t 11],gi 13 (.build 13 [I 0,I 0,.v (.bool false),I 0,.nul] [(0,(none,.k (I 1))),(1,(none,.t 12))]),gi 7 (.alloc 7 2000007 [I 0,I 0,.v (.bool false),I 0,.nul]),g0 (.sto 7 (.t 13) (some 5))]
def r_Z101_2 : List GI:=[gt 14 0,gc 15 65 [.t 14,.k (I 4)],gi 16 (.build 16 [.v (.bool false),I 0] [(1,(none,.t 15))]),gc 17 179 [.t 16],gi 8 (.alloc 8 2000008 [I 0,I 0,.v (.bool false),I 0,.nul]),g0 (.sto 8 (.t 17) (some 5))]
def r_Z101_3 : List GI:=[gt 18 0,gc 19 65 [.t 18,.k (I 3)],gd 20 .eql 19 0]
def r_Z101_4 : List GI:=[gt 21 0,gt 22 1,gc 23 65 [.t 21,.t 22],gi 24 (.build 24 [I 0,I 0,.v (.bool false),I 0,.nul] [(0,(none,.k (I 1))),(1,(none,.t 23))]),g0 (.sto 8 (.t 24) (some 5))]
def r_Z101_5 : List GI:=[gt 25 0,gc 26 65 [.t 25,.k (I 8)],gt 9 26]
def r_Z101_6 : List GI:=[gt 27 9,gd 28 .eql 27 2,gt 29 28,⟨.mov 30 (.t 2),some 30,some (29,true),false⟩,⟨.bin 31 .eql (.t 30) (.k (I 0)),some 31,some (29,true),false⟩,gi 32 (.pick 32 (.t 29) (.t 31) (.k (.v (.bool false))))]
def r_Z101_7 : List GI:=[gk 9 5]
def r_Z101_8 : List GI:=[gt 33 9]
def r_Z101_9 : List GI:=[gd 35 .eql 33 0,gt 34 35]
def r_Z101_10 : List GI:=[gt 36 0,gt 37 1,gc 38 156 [.t 36,.t 37,.k (I 2)],g0 (.sto 6 (.t 38) (some 5))]
def r_Z101_11 : List GI:=[gd 40 .eql 33 1,gt 39 40]
def r_Z101_12 : List GI:=[gs 41 7 5,gi 42 (.bsl 42 5 (some 5) [.agg [I 0,I 0,.v (.bool false),I 0,.nul]] [(0,.t 41)]),gi 43 (.build 43 [I 0,I 0,.v (.bool false),I 0,.nul] [(0,(none,.k (I 11))),(4,(none,.t 42))]),gi 44 (.bsl 44 5 (some 5) [.agg [I 0,I 0,.v (.bool false),I 0,.nul]] [(0,.t 43)]),gi 45 (.build 45 [I 0,I 0,.v (.bool false),I 0,.nul] [(0,(none,.k (I 10))),(4,(none,.t 44))]),g0 (.sto 6 (.t 45) (some 5))]
def r_Z101_13 : List GI:=[gd 47 .eql 33 2,gt 46 47]
def r_Z101_14 : List GI:=[gt 48 0,gt 49 1,gt 50 2,gd 51 .sub 50 1,gc 52 178 [.t 48,.t 49,.t 51],gs 53 7 5,gs 54 8 5,gi 55 (.bsl 55 5 (some 5) [.agg [I 0,I 0,.v (.bool false),I 0,.nul],.agg [I 0,I 0,.v (.bool false),I 0,.nul]] [(0,.t 53),(1,.t 54)]),gi 56 (.build 56 [I 0,I 0,.v (.bool false),I 0,.nul] [(0,(none,.k (I 6))),(4,(none,.t 55))]),gi 57 (.bsl 57 5 (some 5) [.agg [I 0,I 0,.v (.bool false),I 0,.nul],.agg [I 0,I 0,.v (.bool false),I 0,.nul]] [(0,.t 52),(1,.t 56)]),gi 58 (.build 58 [I 0,I 0,.v (.bool false),I 0,.nul] [(0,(none,.k (I 8))),(4,(none,.t 57))]),g0 (.sto 6 (.t 58) (some 5))]
def r_Z101_15 : List GI:=[gd 60 .eql 33 3,gt 59 60]
def r_Z101_16 : List GI:=[gd 61 .eql 33 4,gt 59 61]
def r_Z101_17 : List GI:=[gs 62 8 5,gs 63 7 5,gi 64 (.bsl 64 5 (some 5) [.agg [I 0,I 0,.v (.bool false),I 0,.nul],.agg [I 0,I 0,.v (.bool false),I 0,.nul]] [(0,.t 62),(1,.t 63)]),gi 65 (.build 65 [I 0,I 0,.v (.bool false),I 0,.nul] [(0,(none,.k (I 7))),(4,(none,.t 64))]),g0 (.sto 6 (.t 65) (some 5))]
def r_Z101_18 : List GI:=[gd 67 .eql 33 5,gt 66 67]
def r_Z101_19 : List GI:=[gs 68 7 5,gs 69 8 5,gi 70 (.bsl 70 5 (some 5) [.agg [I 0,I 0,.v (.bool false),I 0,.nul],.agg [I 0,I 0,.v (.bool false),I 0,.nul]] [(0,.t 68),(1,.t 69)]),gi 71 (.build 71 [I 0,I 0,.v (.bool false),I 0,.nul] [(0,(none,.k (I 7))),(4,(none,.t 70))]),g0 (.sto 6 (.t 71) (some 5))]
def r_Z101_20 : List GI:=[gs 72 7 5,gs 73 8 5,gi 74 (.bsl 74 5 (some 5) [.agg [I 0,I 0,.v (.bool false),I 0,.nul],.agg [I 0,I 0,.v (.bool false),I 0,.nul]] [(0,.t 72),(1,.t 73)]),gi 75 (.build 75 [I 0,I 0,.v (.bool false),I 0,.nul] [(0,(none,.k (I 6))),(4,(none,.t 74))]),g0 (.sto 6 (.t 75) (some 5))]
def dc_Z101 : DC:=.seq (.z r_Z101_0) (.seq (.z r_Z101_1) (.seq (.z r_Z101_2) (.seq (.seq (.z r_Z101_3) (.cond (.t 20) (.z r_Z101_4) .skip)) (.seq (.z r_Z101_5) (.seq (.seq (.z r_Z101_6) (.cond (.t 32) (.z r_Z101_7) .skip)) (.seq (.seq (.z r_Z101_8) (.block 0 (.seq (.z r_Z101_9) (.cond (.t 34) (.seq (.z r_Z101_10) .ret) (.seq (.z r_Z101_11) (.cond (.t 39) (.seq (.z r_Z101_12) .ret) (.seq (.z r_Z101_13) (.cond (.t 46) (.seq (.reg r_Z101_14 (some [0,0,0,4,15,0,0,96,224,511,1023,2047])) .ret) (.seq (.seq (.z r_Z101_15) (.cond (.t 59) .skip (.z r_Z101_16))) (.cond (.t 59) (.seq (.z r_Z101_17) .ret) (.seq (.z r_Z101_18) (.cond (.t 66) (.seq (.z r_Z101_19) .ret) .skip)))))))))))) (.seq (.z r_Z101_20) .ret)))))))
theorem c_Z101 : cfun Tryz.prog [] 178 = some (76,dc_Z101,[(Res.cell 6 (some 5))]):=by kernel_rfl
def r_Z22_0 : List GI:=[gi 4 (.alloc 4 2000004 [I 0,I 0,.v (.bool false),I 0,.nul])]
def r_Z22_1 : List GI:=[gt 5 0,gt 6 1,gc 7 178 [.t 5,.t 6,.k (I 2)],g0 (.sto 4 (.t 7) (some 5))]
def dc_Z22 : DC:=.seq (.z r_Z22_0) (.seq (.z r_Z22_1) .ret)
theorem c_Z22 : cfun Tryz.prog [] 155 = some (8,dc_Z22,[(Res.cell 4 (some 5))]):=by kernel_rfl
def r_Z79_0 : List GI:=[gi 4 (.mov 4 (.k .nul))]
def r_Z79_1 : List GI:=[gi 7 (.mov 7 (.k .nul)),gt 5 7]
def r_Z79_2 : List GI:=[gt 8 0,gt 6 8]
def r_Z79_3 : List GI:=[gt 9 6,gt 10 1,gb 11 .lss 9 10]
def r_Z79_4 : List GI:=[gt 14 5,gt 15 6,gi 16 (.bsl 16 1 none [I 0] [(0,.t 15)]),gi 17 (.app 17 2000017 (.t 14) (.t 16) 1 8),gt 5 17]
def r_Z79_5 : List GI:=[gt 12 6,gd 13 .add 12 1,gt 6 13]
def r_Z79_6 : List GI:=[gt 18 5,gt 4 18]
def dc_Z79 : DC:=.seq (.z r_Z79_0) (.seq (.z r_Z79_1) (.seq (.seq (.z r_Z79_2) (.block 0 (.loop (.seq (.seq (.z r_Z79_3) (.cond (.t 11) .skip (.exit 0))) (.seq (.block 1 (.z r_Z79_4)) (.z r_Z79_5)))))) (.seq (.z r_Z79_6) .ret)))
theorem c_Z79 : cfun Tryz.prog [] 175 = some (19,dc_Z79,[(Res.tmp 4)]):=by kernel_rfl
def r_Z65_0 : List GI:=[gi 4 (.mov 4 (.k .nul))]
def r_Z65_1 : List GI:=[gi 7 (.mov 7 (.k .nul)),gt 5 7]
def r_Z65_2 : List GI:=[gk 6 0]
def r_Z65_3 : List GI:=[gt 8 6,gt 9 1,gb 10 .lss 8 9]
def r_Z65_4 : List GI:=[gt 13 5,gt 14 0,gt 15 6,gb 16 .add 14 15,gi 17 (.build 17 [I 0,I 0,.v (.bool false),I 0,.nul] [(0,(none,.k (I 1))),(1,(none,.t 16))]),gi 18 (.bsl 18 5 (some 5) [.agg [I 0,I 0,.v (.bool false),I 0,.nul]] [(0,.t 17)]),gi 19 (.app 19 2000019 (.t 13) (.t 18) 5 56),gt 5 19]
def r_Z65_5 : List GI:=[gt 11 6,gd 12 .add 11 1,gt 6 12]
def r_Z65_6 : List GI:=[gt 20 5,gt 4 20]
def dc_Z65 : DC:=.seq (.z r_Z65_0) (.seq (.z r_Z65_1) (.seq (.seq (.z r_Z65_2) (.block 0 (.loop (.seq (.seq (.z r_Z65_3) (.cond (.t 10) .skip (.exit 0))) (.seq (.block 1 (.z r_Z65_4)) (.z r_Z65_5)))))) (.seq (.z r_Z65_6) .ret)))
theorem c_Z65 : cfun Tryz.prog [] 142 = some (21,dc_Z65,[(Res.tmp 4)]):=by kernel_rfl
def r_Z138_0 : List GI:=[gi 3 (.box 3 2000003 (.t 0) (some 5)),gi 6 (.mov 6 (.k (.v (.bool false))))]
def r_Z138_1 : List GI:=[gs 7 3 5,gt 8 1,gt 9 2,gc 10 188 [.t 8,.t 9],gc 11 187 [.t 7,.t 10],gd 12 .and 11 2,gd 13 .eql 12 0,gt 6 13]
def dc_Z138 : DC:=.seq (.z r_Z138_0) (.seq (.reg r_Z138_1 (some [0,0,0,6,15,31,63,127])) .ret)
theorem c_Z138 : cfun Tryz.prog [] 174 = some (14,dc_Z138,[(Res.tmp 6)]):=by kernel_rfl
def r_Z146_0 : List GI:=[gi 3 (.box 3 2000003 (.t 0) (some 5)),gi 6 (.mov 6 (.k (.v (.bool false))))]
def r_Z146_1 : List GI:=[gi 8 (.mov 8 (.k .nul)),gs 9 3 5,gc 10 186 [.t 8,.t 9],gt 7 10]
def r_Z146_2 : List GI:=[gt 11 7,gn 12 11,gd 13 .eql 12 0,gt 14 13,⟨.mov 15 (.t 7),some 15,some (14,false),false⟩,⟨.iad 16 15 (.k (I 0)) 1,some 16,some (14,false),false⟩,⟨.lod 17 16 none,some 17,some (14,false),false⟩,⟨.mov 18 (.t 1),some 18,some (14,false),false⟩,⟨.bin 19 .geq (.t 17) (.t 18),some 19,some (14,false),false⟩,⟨.mov 20 (.t 19),some 20,some (14,false),false⟩,⟨.mov 21 (.t 7),some 21,some (20,true),false⟩,⟨.mov 22 (.t 7),some 22,some (20,true),false⟩,⟨.len 23 (.t 22),some 23,some (20,true),false⟩,⟨.bin 24 .sub (.t 23) (.k (I 1)),some 24,some (20,true),false⟩,⟨.iad 25 21 (.t 24) 1,some 25,some (20,true),false⟩,⟨.lod 26 25 none,some 26,some (20,true),false⟩,⟨.mov 27 (.t 2),some 27,some (20,true),false⟩,⟨.bin 28 .leq (.t 26) (.t 27),some 28,some (20,true),false⟩,⟨.pick 29 (.t 20) (.t 28) (.k (.v (.bool false))),some 29,some (14,false),false⟩,gi 30 (.pick 30 (.t 14) (.k (.v (.bool true))) (.t 29)),gt 6 30]
def dc_Z146 : DC:=.seq (.z r_Z146_0) (.seq (.z r_Z146_1) (.seq (.z r_Z146_2) .ret))
theorem c_Z146 : cfun Tryz.prog [] 173 = some (31,dc_Z146,[(Res.tmp 6)]):=by kernel_rfl
def r_Z35_0 : List GI:=[gi 3 (.box 3 2000003 (.t 0) (some 5)),gi 6 (.alloc 6 2000006 [I 0,I 0,.nul,.nul,.nul]),gi 7 (.mov 7 (.k (.v (.bool false))))]
def r_Z35_1 : List GI:=[gf 15 3 2,gl 16 15,gi 17 (.iad 17 16 (.k (I 0)) 5),gs 18 17 5,gi 8 (.alloc 8 2000008 [I 0,I 0,.v (.bool false),I 0,.nul]),g0 (.sto 8 (.t 18) (some 5))]
def r_Z35_2 : List GI:=[gf 19 3 4,gl 20 19,gi 21 (.iad 21 20 (.k (I 0)) 5),gs 22 21 5,gi 9 (.alloc 9 2000009 [I 0,I 0,.nul,.nul,.nul]),g0 (.sto 9 (.t 22) (some 5))]
def r_Z35_3 : List GI:=[gk 10 0]
def r_Z35_4 : List GI:=[gf 23 9 4,gl 24 23,gn 25 24,gd 26 .gtr 25 0]
def r_Z35_5 : List GI:=[gf 27 9 4,gl 28 27,gi 29 (.iad 29 28 (.k (I 0)) 5),gs 30 29 5,gt 31 2,gc 32 95 [.t 30,.t 31,.k (I 8)],gt 10 32]
def r_Z35_6 : List GI:=[gs 33 9 5,gt 34 2,gc 35 95 [.t 33,.t 34,.k (I 8)],gt 11 35]
def r_Z35_7 : List GI:=[gf 36 9 0,gl 37 36,gd 38 .eql 37 4,gt 12 38]
def r_Z35_8 : List GI:=[gf 39 9 0,gl 40 39,gd 41 .eql 40 5,gt 13 41]
def r_Z35_9 : List GI:=[gt 43 1,gd 44 .eql 43 1,gt 45 44,⟨.fad 46 9 0,some 46,some (45,true),false⟩,⟨.lod 47 46 none,some 47,some (45,true),false⟩,⟨.bin 48 .eql (.t 47) (.k (I 2)),some 48,some (45,true),false⟩,gi 49 (.pick 49 (.t 45) (.t 48) (.k (.v (.bool false)))),gt 42 49]
def r_Z35_10 : List GI:=[gf 50 9 2,gl 51 50,gi 52 (.iad 52 51 (.k (I 0)) 5),gs 53 52 5,gs 54 8 5,gi 55 (.bsl 55 5 (some 5) [.agg [I 0,I 0,.v (.bool false),I 0,.nul],.agg [I 0,I 0,.v (.bool false),I 0,.nul]] [(0,.t 53),(1,.t 54)]),gi 56 (.build 56 [I 0,I 0,.v (.bool false),I 0,.nul] [(0,(none,.k (I 8))),(4,(none,.t 55))]),gf 57 9 4,gl 58 57,gi 59 (.iad 59 58 (.k (I 0)) 5),gs 60 59 5,gc 61 154 [.t 56,.t 60],g0 (.sto 6 (.t 61) (some 5)),gi 7 (.mov 7 (.k (.v (.bool true))))]
def r_Z35_11 : List GI:=[gt 63 1,gd 64 .eql 63 2,gt 65 64,⟨.fad 66 8 0,some 66,some (65,true),false⟩,⟨.lod 67 66 none,some 67,some (65,true),false⟩,⟨.bin 68 .eql (.t 67) (.k (I 8)),some 68,some (65,true),false⟩,gi 69 (.pick 69 (.t 65) (.t 68) (.k (.v (.bool false)))),gt 62 69]
def r_Z35_12 : List GI:=[gf 70 8 4,gl 71 70,gi 72 (.iad 72 71 (.k (I 1)) 5),gs 73 72 5,gf 74 8 4,gl 75 74,gi 76 (.iad 76 75 (.k (I 0)) 5),gs 77 76 5,gs 78 9 5,gc 79 154 [.t 77,.t 78],gc 80 154 [.t 73,.t 79],g0 (.sto 6 (.t 80) (some 5)),gi 7 (.mov 7 (.k (.v (.bool true))))]
def r_Z35_13 : List GI:=[gt 82 1,gd 83 .eql 82 3,gt 84 83,⟨.mov 85 (.t 12),some 85,some (84,true),false⟩,⟨.mov 86 (.t 85),some 86,some (84,true),false⟩,⟨.mov 87 (.t 13),some 87,some (86,false),false⟩,⟨.pick 88 (.t 86) (.k (.v (.bool true))) (.t 87),some 88,some (84,true),false⟩,gi 89 (.pick 89 (.t 84) (.t 88) (.k (.v (.bool false)))),gt 90 89,⟨.lod 91 8 (some 5),some 91,some (90,true),false⟩,⟨.mov 92 (.t 10),some 92,some (90,true),false⟩,⟨.bin 93 .sub (.t 92) (.k (I 1)),some 93,some (90,true),false⟩,⟨.call 94 173 [.t 91,.k (I 0),.t 93],some 94,some (90,true),true⟩,gi 95 (.pick 95 (.t 90) (.t 94) (.k (.v (.bool false)))),gt 81 95]
def r_Z35_14 : List GI:=[gf 96 9 0,gl 97 96,gf 98 9 2,gl 99 98,gs 100 8 5,gf 101 9 4,gl 102 101,gi 103 (.iad 103 102 (.k (I 0)) 5),gs 104 103 5,gc 105 154 [.t 100,.t 104],gf 106 9 4,gl 107 106,gi 108 (.iad 108 107 (.k (I 1)) 5),gs 109 108 5,gi 110 (.bsl 110 5 (some 5) [.agg [I 0,I 0,.nul,.nul,.nul],.agg [I 0,I 0,.nul,.nul,.nul]] [(0,.t 105),(1,.t 109)]),gi 111 (.build 111 [I 0,I 0,.nul,.nul,.nul] [(0,(none,.t 97)),(2,(none,.t 99)),(4,(none,.t 110))]),g0 (.sto 6 (.t 111) (some 5)),gi 7 (.mov 7 (.k (.v (.bool true))))]
def r_Z35_15 : List GI:=[gt 113 1,gd 114 .eql 113 4,gt 115 114,⟨.mov 116 (.t 12),some 116,some (115,true),false⟩,gi 117 (.pick 117 (.t 115) (.t 116) (.k (.v (.bool false)))),gt 118 117,⟨.lod 119 8 (some 5),some 119,some (118,true),false⟩,⟨.mov 120 (.t 10),some 120,some (118,true),false⟩,⟨.mov 121 (.t 11),some 121,some (118,true),false⟩,⟨.bin 122 .sub (.t 121) (.k (I 1)),some 122,some (118,true),false⟩,⟨.call 123 173 [.t 119,.t 120,.t 122],some 123,some (118,true),true⟩,gi 124 (.pick 124 (.t 118) (.t 123) (.k (.v (.bool false)))),gt 112 124]
def r_Z35_16 : List GI:=[gt 125 10,gc 126 142 [.k (I 0),.t 125],gt 127 11,gt 128 10,gb 129 .sub 127 128,gc 130 142 [.k (I 0),.t 129],gi 131 (.app 131 2000131 (.t 126) (.t 130) 5 56),gt 14 131]
def r_Z35_17 : List GI:=[gf 132 9 0,gl 133 132,gf 134 9 2,gl 135 134,gf 136 9 4,gl 137 136,gi 138 (.iad 138 137 (.k (I 0)) 5),gs 139 138 5,gs 140 8 5,gt 141 14,gc 142 143 [.t 140,.t 141],gf 143 9 4,gl 144 143,gi 145 (.iad 145 144 (.k (I 1)) 5),gs 146 145 5,gc 147 154 [.t 142,.t 146],gi 148 (.bsl 148 5 (some 5) [.agg [I 0,I 0,.nul,.nul,.nul],.agg [I 0,I 0,.nul,.nul,.nul]] [(0,.t 139),(1,.t 147)]),gi 149 (.build 149 [I 0,I 0,.nul,.nul,.nul] [(0,(none,.t 133)),(2,(none,.t 135)),(4,(none,.t 148))]),g0 (.sto 6 (.t 149) (some 5)),gi 7 (.mov 7 (.k (.v (.bool true))))]
def r_Z35_18 : List GI:=[gt 151 1,gd 152 .eql 151 5,gt 153 152,⟨.mov 154 (.t 12),some 154,some (153,true),false⟩,gi 155 (.pick 155 (.t 153) (.t 154) (.k (.v (.bool false)))),gt 150 155]
def r_Z35_19 : List GI:=[gf 156 9 0,gl 157 156,gf 158 9 2,gl 159 158,gi 160 (.iad 160 159 (.k (I 0)) 5),gs 161 160 5,gs 162 8 5,gi 163 (.bsl 163 5 (some 5) [.agg [I 0,I 0,.v (.bool false),I 0,.nul],.agg [I 0,I 0,.v (.bool false),I 0,.nul]] [(0,.t 161),(1,.t 162)]),gi 164 (.build 164 [I 0,I 0,.v (.bool false),I 0,.nul] [(0,(none,.k (I 8))),(4,(none,.t 163))]),gi 165 (.bsl 165 5 (some 5) [.agg [I 0,I 0,.v (.bool false),I 0,.nul]] [(0,.t 164)]),gf 166 9 4,gl 167 166,gi 168 (.build 168 [I 0,I 0,.nul,.nul,.nul] [(0,(none,.t 157)),(2,(none,.t 165)),(4,(none,.t 167))]),g0 (.sto 6 (.t 168) (some 5)),gi 7 (.mov 7 (.k (.v (.bool true))))]
def r_Z35_20 : List GI:=[gt 170 1,gd 171 .eql 170 7,gt 172 171,⟨.mov 173 (.t 13),some 173,some (172,true),false⟩,gi 174 (.pick 174 (.t 172) (.t 173) (.k (.v (.bool false)))),gt 175 174,⟨.lod 176 8 (some 5),some 176,some (175,true),false⟩,⟨.mov 177 (.t 11),some 177,some (175,true),false⟩,⟨.mov 178 (.t 10),some 178,some (175,true),false⟩,⟨.mov 179 (.t 11),some 179,some (175,true),false⟩,⟨.call 180 175 [.t 178,.t 179],some 180,some (175,true),true⟩,⟨.call 181 174 [.t 176,.t 177,.t 180],some 181,some (175,true),true⟩,gi 182 (.pick 182 (.t 175) (.t 181) (.k (.v (.bool false)))),gt 169 182]
def r_Z35_21 : List GI:=[gs 183 8 5,gf 184 9 2,gl 185 184,gf 186 9 4,gl 187 186,gi 188 (.build 188 [I 0,I 0,.nul,.nul,.nul] [(0,(none,.k (I 4))),(2,(none,.t 185)),(4,(none,.t 187))]),gc 189 154 [.t 183,.t 188],g0 (.sto 6 (.t 189) (some 5)),gi 7 (.mov 7 (.k (.v (.bool true))))]
def r_Z35_22 : List GI:=[gt 191 1,gd 192 .eql 191 8,gt 193 192,⟨.fad 194 9 0,some 194,some (193,true),false⟩,⟨.lod 195 194 none,some 195,some (193,true),false⟩,⟨.bin 196 .eql (.t 195) (.k (I 6)),some 196,some (193,true),false⟩,gi 197 (.pick 197 (.t 193) (.t 196) (.k (.v (.bool false)))),gt 190 197]
def r_Z35_23 : List GI:=[gs 198 8 5,gf 199 9 4,gl 200 199,gi 201 (.iad 201 200 (.k (I 0)) 5),gs 202 201 5,gc 203 154 [.t 198,.t 202],gs 204 8 5,gf 205 9 4,gl 206 205,gi 207 (.iad 207 206 (.k (I 1)) 5),gs 208 207 5,gc 209 154 [.t 204,.t 208],gi 210 (.bsl 210 5 (some 5) [.agg [I 0,I 0,.nul,.nul,.nul],.agg [I 0,I 0,.nul,.nul,.nul]] [(0,.t 203),(1,.t 209)]),gi 211 (.build 211 [I 0,I 0,.nul,.nul,.nul] [(0,(none,.k (I 6))),(4,(none,.t 210))]),g0 (.sto 6 (.t 211) (some 5)),gi 7 (.mov 7 (.k (.v (.bool true))))]
def r_Z35_24 : List GI:=[gt 213 1,gd 214 .eql 213 10,gt 215 214,⟨.fad 216 9 0,some 216,some (215,true),false⟩,⟨.lod 217 216 none,some 217,some (215,true),false⟩,⟨.bin 218 .eql (.t 217) (.k (I 3)),some 218,some (215,true),false⟩,gi 219 (.pick 219 (.t 215) (.t 218) (.k (.v (.bool false)))),gt 212 219]
def r_Z35_25 : List GI:=[gf 220 9 2,gl 221 220,gs 222 8 5,gf 223 9 2,gl 224 223,gc 225 143 [.t 222,.t 224],gf 226 9 4,gl 227 226,gi 228 (.iad 228 227 (.k (I 0)) 5),gs 229 228 5,gc 230 154 [.t 225,.t 229],gi 231 (.bsl 231 5 (some 5) [.agg [I 0,I 0,.nul,.nul,.nul]] [(0,.t 230)]),gi 232 (.build 232 [I 0,I 0,.nul,.nul,.nul] [(0,(none,.k (I 3))),(2,(none,.t 221)),(4,(none,.t 231))]),g0 (.sto 6 (.t 232) (some 5)),gi 7 (.mov 7 (.k (.v (.bool true))))]
def r_Z35_26 : List GI:=[gs 233 3 5,g0 (.sto 6 (.t 233) (some 5)),gi 7 (.mov 7 (.k (.v (.bool false))))]
def dc_Z35 : DC:=.seq (.z r_Z35_0) (.seq (.z r_Z35_1) (.seq (.z r_Z35_2) (.seq (.z r_Z35_3) (.seq (.seq (.z r_Z35_4) (.cond (.t 26) (.z r_Z35_5) .skip)) (.seq (.z r_Z35_6) (.seq (.z r_Z35_7) (.seq (.z r_Z35_8) (.seq (.block 0 (.seq (.z r_Z35_9) (.cond (.t 42) (.seq (.reg r_Z35_10 (some [0,1,3,7,0,31,63,0,128,384,896,2047,4095,8191])) .ret) (.seq (.z r_Z35_11) (.cond (.t 62) (.seq (.reg r_Z35_12 (some [0,1,3,7,0,16,48,112,0,496,1023,2047,4095])) .ret) (.seq (.z r_Z35_13) (.cond (.t 81) (.seq (.reg r_Z35_14 (some [0,1,0,4,0,0,32,96,224,496,0,1024,3072,7168,16368,32767,65535,131071])) .ret) (.seq (.z r_Z35_15) (.cond (.t 112) (.seq (.z r_Z35_16) (.seq (.reg r_Z35_17 (some [0,1,0,4,0,16,48,112,0,0,768,0,2048,6144,14336,32512,65520,131071,262143,524287])) .ret)) (.seq (.z r_Z35_18) (.cond (.t 150) (.seq (.reg r_Z35_19 (some [0,1,0,4,12,28,0,124,252,508,0,1024,4095,8191,16383])) .ret) (.seq (.reg r_Z35_20 (some [0,1,3,7,15,31,63,63,63,63,831,2047,4095,8191])) (.cond (.t 169) (.seq (.z r_Z35_21) .ret) (.seq (.z r_Z35_22) (.cond (.t 190) (.seq (.reg r_Z35_23 (some [0,0,2,6,14,31,0,0,128,384,896,2047,4095,8191,16383,32767])) .ret) (.seq (.z r_Z35_24) (.cond (.t 212) (.seq (.reg r_Z35_25 (some [0,1,0,0,8,28,0,64,192,448,1020,2044,4095,8191,16383])) .ret) .skip))))))))))))))))) (.seq (.z r_Z35_26) .ret)))))))))
theorem c_Z35 : cfun Tryz.prog [] 141 = some (234,dc_Z35,[(Res.cell 6 (some 5)),(Res.tmp 7)]):=by kernel_rfl
end
end Go.Proofs.YtgpdmgaemhelgaaGreat
