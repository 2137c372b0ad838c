/-
  Functions of the program read as code on plain data. Closed facts of the program alone.
-/
import Derived.KernelRfl
import Derived.Test.YtgpdmgaemhelgaaGreatRows
import Derived.Test.YtgpdmgaemhelgaaGreatJSVCall
namespace Go.Proofs.YtgpdmgaemhelgaaGreat
open Go.RowKit
noncomputable section
def r_Z119_0 : List GI:=[gi 2 (.box 2 2000002 (.t 0) (some 5)),gi 3 (.box 3 2000003 (.t 1) (some 5)),gi 4 (.alloc 4 2000004 [I 0,I 0,.nul,.nul,.nul])]
def r_Z119_1 : List GI:=[gs 5 2 5,gi 6 (.bsl 6 5 (some 5) [.agg [I 0,I 0,.v (.bool false),I 0,.nul]] [(0,.t 5)]),gs 7 3 5,gi 8 (.bsl 8 5 (some 5) [.agg [I 0,I 0,.nul,.nul,.nul]] [(0,.t 7)]),gi 9 (.build 9 [I 0,I 0,.nul,.nul,.nul] [(0,(none,.k (I 2))),(2,(none,.t 6)),(4,(none,.t 8))]),g0 (.sto 4 (.t 9) (some 5))]
def dc_Z119 : DC:=.seq (.z r_Z119_0) (.seq (.z r_Z119_1) .ret)
theorem c_Z119 : cfun Tryz.prog [] 154 = some (10,dc_Z119,[(Res.cell 4 (some 5))]):=by kernel_rfl
def r_Z45_0 : List GI:=[gi 2 (.mov 2 (.k .nul))]
def r_Z45_1 : List GI:=[gt 3 0,gt 4 0,gi 5 (.nilc 5 4),gf 6 5 4,gl 7 6,gc 8 90 [.t 7],gi 9 (.nilc 9 3),gf 10 9 4,g0 (.sto 10 (.t 8) none)]
def r_Z45_2 : List GI:=[gt 11 0,gi 12 (.nilc 12 11),gf 13 12 4,gl 14 13,gt 2 14]
def dc_Z45 : DC:=.seq (.z r_Z45_0) (.seq (.z r_Z45_1) (.seq (.z r_Z45_2) .ret))
theorem c_Z45 : cfun Tryz.prog [] 135 = some (15,dc_Z45,[(Res.tmp 2)]):=by kernel_rfl
def r_Z2_0 : List GI:=[gi 2 (.mov 2 (.k .nul))]
def r_Z2_1 : List GI:=[gt 3 0,gi 4 (.isn 4 false (.t 3))]
def r_Z2_2 : List GI:=[gi 2 (.mov 2 (.k .nul))]
def r_Z2_3 : List GI:=[gi 5 (.mov 5 (.k .nul)),gt 6 0,gi 7 (.app 7 2000007 (.t 5) (.t 6) 5 56),gt 2 7]
def dc_Z2 : DC:=.seq (.z r_Z2_0) (.seq (.seq (.z r_Z2_1) (.cond (.t 4) (.seq (.z r_Z2_2) .ret) .skip)) (.seq (.z r_Z2_3) .ret))
theorem c_Z2 : cfun Tryz.prog [] 90 = some (8,dc_Z2,[(Res.tmp 2)]):=by kernel_rfl
def r_Z85_0 : List GI:=[gi 1 (.box 1 2000001 (.t 0) (some 5)),gi 2 (.alloc 2 2000002 [I 0,I 0,.v (.bool false),I 0,.nul])]
def r_Z85_1 : List GI:=[gs 3 1 5,⟨.call 4 134 [.t 3,.k (.fn 135 [])],some 4,none,true⟩,g0 (.sto 2 (.t 4) (some 5))]
def dc_Z85 : DC:=.seq (.z r_Z85_0) (.seq (.z r_Z85_1) .ret)
theorem c_Z85 : cfun Tryz.prog [] 91 = some (5,dc_Z85,[(Res.cell 2 (some 5))]):=by kernel_rfl
def r_Z4_0 : List GI:=[gi 2 (.box 2 2000002 (.t 0) (some 5)),gi 4 (.alloc 4 2000004 [I 0,I 0,.v (.bool false),I 0,.nul])]
def r_Z4_1 : List GI:=[gi 9 (.bslx 9 2000009 1 none [.v (.pointer none)] [(0,.t 2)]),gt 5 9]
def r_Z4_2 : List GI:=[gt 10 5,gn 11 10,gd 12 .gtr 11 0]
def r_Z4_3 : List GI:=[gt 13 5,gt 14 5,gn 15 14,gd 16 .sub 15 1,ga 17 13 16 1,gl 18 17,gt 6 18]
def r_Z4_4 : List GI:=[gt 19 5,gt 20 5,gn 21 20,gd 22 .sub 21 1,gi 23 (.slc 23 (.t 19) none (some (.t 22)) 1),gt 5 23]
def r_Z4_5 : List GI:=[gt 24 1,gt 25 6,⟨.cal 26 (.t 24) [.t 25],some 26,none,true⟩,gt 7 26]
def r_Z4_6 : List GI:=[gt 27 7,gn 28 27,gk 29 0]
def r_Z4_7 : List GI:=[gb 30 .lss 29 28]
def r_Z4_8 : List GI:=[gt 31 29,gt 8 31]
def r_Z4_9 : List GI:=[gt 32 5,gt 33 7,gt 34 8,ga 35 33 34 5,gi 36 (.bslx 36 2000036 1 none [.v (.pointer none)] [(0,.t 35)]),gi 37 (.app 37 2000037 (.t 32) (.t 36) 1 8),gt 5 37]
def r_Z4_10 : List GI:=[gd 38 .add 29 1,gt 29 38]
def r_Z4_11 : List GI:=[gs 39 2 5,g0 (.sto 4 (.t 39) (some 5))]
def dc_Z4 : DC:=.seq (.z r_Z4_0) (.seq (.seq (.z r_Z4_1) (.block 0 (.loop (.seq (.seq (.z r_Z4_2) (.cond (.t 12) .skip (.exit 0))) (.block 1 (.seq (.z r_Z4_3) (.seq (.z r_Z4_4) (.seq (.z r_Z4_5) (.seq (.z r_Z4_6) (.block 2 (.loop (.seq (.z r_Z4_7) (.seq (.cond (.t 30) .skip (.exit 2)) (.seq (.block 3 (.seq (.z r_Z4_8) (.z r_Z4_9))) (.z r_Z4_10))))))))))))))) (.seq (.z r_Z4_11) .ret))
theorem c_Z4 : cfun Tryz.prog [9,36] 134 = some (40,dc_Z4,[(Res.cell 4 (some 5))]):=by kernel_rfl
def r_Z65_0 : List GI:=[gi 3 (.box 3 2000003 (.t 0) (some 5)),gi 6 (.alloc 6 2000006 [I 0,I 0,.v (.bool false),I 0,.nul]),gi 7 (.mov 7 (.k (.v (.bool false))))]
def r_Z65_1 : List GI:=[gs 11 3 5,gt 12 1,gn 13 12,gc 14 146 [.t 11,.t 13],gi 15 (.un 15 UnOp.not (.t 14))]
def r_Z65_2 : List GI:=[gi 16 (.build 16 [I 0,I 0,.v (.bool false),I 0,.nul] []),g0 (.sto 6 (.t 16) (some 5)),gi 7 (.mov 7 (.k (.v (.bool false))))]
def r_Z65_3 : List GI:=[gt 17 1,gn 18 17,gk 19 0]
def r_Z65_4 : List GI:=[gb 20 .lss 19 18]
def r_Z65_5 : List GI:=[ga 21 17 19 5,gs 22 21 5,gi 9 (.alloc 9 2000009 [I 0,I 0,.v (.bool false),I 0,.nul]),g0 (.sto 9 (.t 22) (some 5))]
def r_Z65_6 : List GI:=[gs 23 9 5,gt 24 2,gc 25 146 [.t 23,.t 24],gi 26 (.un 26 UnOp.not (.t 25))]
def r_Z65_7 : List GI:=[gi 27 (.build 27 [I 0,I 0,.v (.bool false),I 0,.nul] []),g0 (.sto 6 (.t 27) (some 5)),gi 7 (.mov 7 (.k (.v (.bool false))))]
def r_Z65_8 : List GI:=[gd 28 .add 19 1,gt 19 28]
def r_Z65_9 : List GI:=[gs 29 3 5,gt 30 1,gi 31 (.build 31 [.nul] [(0,(none,.t 30))]),gi 32 (.ifc 32 191 (.t 31)),gc 33 165 [.t 29,.t 32],gi 10 (.alloc 10 2000010 [I 0,I 0,.v (.bool false),I 0,.nul]),g0 (.sto 10 (.t 33) (some 5))]
def r_Z65_10 : List GI:=[gs 34 10 5,gt 35 2,gc 36 146 [.t 34,.t 35],gi 37 (.un 37 UnOp.not (.t 36))]
def r_Z65_11 : List GI:=[gi 38 (.build 38 [I 0,I 0,.v (.bool false),I 0,.nul] []),g0 (.sto 6 (.t 38) (some 5)),gi 7 (.mov 7 (.k (.v (.bool false))))]
def r_Z65_12 : List GI:=[gs 39 10 5,g0 (.sto 6 (.t 39) (some 5)),gi 7 (.mov 7 (.k (.v (.bool true))))]
def dc_Z65 : DC:=.seq (.z r_Z65_0) (.seq (.seq (.z r_Z65_1) (.cond (.t 15) (.seq (.z r_Z65_2) .ret) .skip)) (.seq (.seq (.z r_Z65_3) (.block 0 (.loop (.seq (.z r_Z65_4) (.seq (.cond (.t 20) .skip (.exit 0)) (.seq (.block 1 (.seq (.z r_Z65_5) (.seq (.z r_Z65_6) (.cond (.t 26) (.seq (.z r_Z65_7) .ret) .skip)))) (.z r_Z65_8))))))) (.seq (.z r_Z65_9) (.seq (.seq (.z r_Z65_10) (.cond (.t 37) (.seq (.z r_Z65_11) .ret) .skip)) (.seq (.z r_Z65_12) .ret)))))
theorem c_Z65 : cfun Tryz.prog [] 170 = some (40,dc_Z65,[(Res.cell 6 (some 5)),(Res.tmp 7)]):=by kernel_rfl
def r_Z13_0 : List GI:=[gi 2 (.box 2 2000002 (.t 0) (some 1)),gi 3 (.box 3 2000003 (.t 1) (some 5)),gi 4 (.alloc 4 2000004 [I 0,I 0,.v (.bool false),I 0,.nul])]
def r_Z13_1 : List GI:=[gf 5 3 0,gl 6 5,gd 7 .eql 6 1]
def r_Z13_2 : List GI:=[gf 8 2 0,gl 9 8,gf 10 3 1,gl 11 10,ga 12 9 11 5,gs 13 12 5,gc 14 91 [.t 13],g0 (.sto 4 (.t 14) (some 5))]
def r_Z13_3 : List GI:=[gs 15 3 5,g0 (.sto 4 (.t 15) (some 5))]
def dc_Z13 : DC:=.seq (.z r_Z13_0) (.seq (.seq (.z r_Z13_1) (.cond (.t 7) (.seq (.z r_Z13_2) .ret) .skip)) (.seq (.z r_Z13_3) .ret))
theorem c_Z13 : cfun Tryz.prog [] 234 = some (16,dc_Z13,[(Res.cell 4 (some 5))]):=by kernel_rfl
def r_Z79_0 : List GI:=[gi 2 (.box 2 2000002 (.t 0) (some 5)),gi 4 (.alloc 4 2000004 [I 0,I 0,.v (.bool false),I 0,.nul])]
def r_Z79_1 : List GI:=[gf 7 2 0,gl 8 7,gd 9 .eql 8 1]
def r_Z79_2 : List GI:=[gt 10 1,gf 11 2 1,gl 12 11,ga 13 10 12 5,gs 14 13 5,gc 15 110 [.t 14],g0 (.sto 4 (.t 15) (some 5))]
def r_Z79_3 : List GI:=[gf 16 2 0,gl 17 16,gf 18 2 1,gl 19 18,gf 20 2 2,gs 21 20 2,gi 22 (.build 22 [I 0,I 0,.v (.bool false),I 0,.nul] [(0,(none,.t 17)),(1,(none,.t 19)),(2,(some 2,.t 21))]),gi 5 (.alloc 5 2000005 [I 0,I 0,.v (.bool false),I 0,.nul]),g0 (.sto 5 (.t 22) (some 5))]
def r_Z79_4 : List GI:=[gk 6 0]
def r_Z79_5 : List GI:=[gt 23 6,gf 24 2 4,gl 25 24,gn 26 25,gb 27 .lss 23 26]
def r_Z79_6 : List GI:=[gf 30 5 4,gl 31 30,gf 32 2 4,gl 33 32,gt 34 6,ga 35 33 34 5,gs 36 35 5,gt 37 1,gc 38 143 [.t 36,.t 37],gi 39 (.bsl 39 5 (some 5) [.agg [I 0,I 0,.v (.bool false),I 0,.nul]] [(0,.t 38)]),gi 40 (.app 40 2000040 (.t 31) (.t 39) 5 56),gf 41 5 4,g0 (.sto 41 (.t 40) none)]
def r_Z79_7 : List GI:=[gt 28 6,gd 29 .add 28 1,gt 6 29]
def r_Z79_8 : List GI:=[gs 42 5 5,g0 (.sto 4 (.t 42) (some 5))]
def dc_Z79 : DC:=.seq (.z r_Z79_0) (.seq (.seq (.z r_Z79_1) (.cond (.t 9) (.seq (.z r_Z79_2) .ret) .skip)) (.seq (.z r_Z79_3) (.seq (.seq (.z r_Z79_4) (.block 0 (.loop (.seq (.seq (.z r_Z79_5) (.cond (.t 27) .skip (.exit 0))) (.seq (.block 1 (.reg r_Z79_6 (some [0,1,0,4,0,28,60,0,252,508,1023,2047,4095]))) (.z r_Z79_7)))))) (.seq (.z r_Z79_8) .ret))))
theorem c_Z79 : cfun Tryz.prog [] 143 = some (43,dc_Z79,[(Res.cell 4 (some 5))]):=by kernel_rfl
def r_Z74_0 : List GI:=[gi 4 (.mov 4 (.k .nul))]
def r_Z74_1 : List GI:=[gi 7 (.mov 7 (.k .nul)),gt 5 7]
def r_Z74_2 : List GI:=[gt 8 0,gt 6 8]
def r_Z74_3 : List GI:=[gt 9 6,gt 10 1,gb 11 .lss 9 10]
def r_Z74_4 : List GI:=[gt 14 5,gt 15 6,gi 16 (.bsl 16 1 none [I 0] [(0,.t 15)]),gi 17 (.app 17 2000017 (.t 14) (.t 16) 1 8),gt 5 17]
def r_Z74_5 : List GI:=[gt 12 6,gd 13 .add 12 1,gt 6 13]
def r_Z74_6 : List GI:=[gt 18 5,gt 4 18]
def dc_Z74 : DC:=.seq (.z r_Z74_0) (.seq (.z r_Z74_1) (.seq (.seq (.z r_Z74_2) (.block 0 (.loop (.seq (.seq (.z r_Z74_3) (.cond (.t 11) .skip (.exit 0))) (.seq (.block 1 (.z r_Z74_4)) (.z r_Z74_5)))))) (.seq (.z r_Z74_6) .ret)))
theorem c_Z74 : cfun Tryz.prog [] 175 = some (19,dc_Z74,[(Res.tmp 4)]):=by kernel_rfl
def r_Z60_0 : List GI:=[gi 4 (.mov 4 (.k .nul))]
def r_Z60_1 : List GI:=[gi 7 (.mov 7 (.k .nul)),gt 5 7]
def r_Z60_2 : List GI:=[gk 6 0]
def r_Z60_3 : List GI:=[gt 8 6,gt 9 1,gb 10 .lss 8 9]
def r_Z60_4 : List GI:=[gt 13 5,gt 14 0,gt 15 6,gb 16 .add 14 15,gi 17 (.build 17 [I 0,I 0,.v (.bool false),I 0,.nul] [(0,(none,.k (I 1))),(1,(none,.t 16))]),gi 18 (.bsl 18 5 (some 5) [.agg [I 0,I 0,.v (.bool false),I 0,.nul]] [(0,.t 17)]),gi 19 (.app 19 2000019 (.t 13) (.t 18) 5 56),gt 5 19]
def r_Z60_5 : List GI:=[gt 11 6,gd 12 .add 11 1,gt 6 12]
def r_Z60_6 : List GI:=[gt 20 5,gt 4 20]
def dc_Z60 : DC:=.seq (.z r_Z60_0) (.seq (.z r_Z60_1) (.seq (.seq (.z r_Z60_2) (.block 0 (.loop (.seq (.seq (.z r_Z60_3) (.cond (.t 10) .skip (.exit 0))) (.seq (.block 1 (.z r_Z60_4)) (.z r_Z60_5)))))) (.seq (.z r_Z60_6) .ret)))
theorem c_Z60 : cfun Tryz.prog [] 142 = some (21,dc_Z60,[(Res.tmp 4)]):=by kernel_rfl
def r_Z133_0 : List GI:=[gi 3 (.box 3 2000003 (.t 0) (some 5)),gi 6 (.mov 6 (.k (.v (.bool false))))]
def r_Z133_1 : List GI:=[gs 7 3 5,gt 8 1,gt 9 2,gc 10 188 [.t 8,.t 9],gc 11 187 [.t 7,.t 10],gd 12 .and 11 2,gd 13 .eql 12 0,gt 6 13]
def dc_Z133 : DC:=.seq (.z r_Z133_0) (.seq (.reg r_Z133_1 (some [0,0,0,6,15,31,63,127])) .ret)
theorem c_Z133 : cfun Tryz.prog [] 174 = some (14,dc_Z133,[(Res.tmp 6)]):=by kernel_rfl
def r_Z141_0 : List GI:=[gi 3 (.box 3 2000003 (.t 0) (some 5)),gi 6 (.mov 6 (.k (.v (.bool false))))]
def r_Z141_1 : List GI:=[gi 8 (.mov 8 (.k .nul)),gs 9 3 5,gc 10 186 [.t 8,.t 9],gt 7 10]
def r_Z141_2 : List GI:=[gt 11 7,gn 12 11,gd 13 .eql 12 0,gt 14 13,⟨.mov 15 (.t 7),some 15,some (14,false),false⟩,⟨.iad 16 15 (.k (I 0)) 1,some 16,some (14,false),false⟩,⟨.lod 17 16 none,some 17,some (14,false),false⟩,⟨.mov 18 (.t 1),some 18,some (14,false),false⟩,⟨.bin 19 .geq (.t 17) (.t 18),some 19,some (14,false),false⟩,⟨.mov 20 (.t 19),some 20,some (14,false),false⟩,⟨.mov 21 (.t 7),some 21,some (20,true),false⟩,⟨.mov 22 (.t 7),some 22,some (20,true),false⟩,⟨.len 23 (.t 22),some 23,some (20,true),false⟩,⟨.bin 24 .sub (.t 23) (.k (I 1)),some 24,some (20,true),false⟩,⟨.iad 25 21 (.t 24) 1,some 25,some (20,true),false⟩,⟨.lod 26 25 none,some 26,some (20,true),false⟩,⟨.mov 27 (.t 2),some 27,some (20,true),false⟩,⟨.bin 28 .leq (.t 26) (.t 27),some 28,some (20,true),false⟩,⟨.pick 29 (.t 20) (.t 28) (.k (.v (.bool false))),some 29,some (14,false),false⟩,gi 30 (.pick 30 (.t 14) (.k (.v (.bool true))) (.t 29)),gt 6 30]
def dc_Z141 : DC:=.seq (.z r_Z141_0) (.seq (.z r_Z141_1) (.seq (.z r_Z141_2) .ret))
theorem c_Z141 : cfun Tryz.prog [] 173 = some (31,dc_Z141,[(Res.tmp 6)]):=by kernel_rfl
def r_Z10_0 : List GI:=[gi 2 (.mov 2 (.k .nul))]
def r_Z10_1 : List GI:=[gt 3 0,gi 4 (.isn 4 false (.t 3))]
def r_Z10_2 : List GI:=[gi 2 (.mov 2 (.k .nul))]
def r_Z10_3 : List GI:=[gi 5 (.mov 5 (.k .nul)),gt 6 0,gi 7 (.app 7 2000007 (.t 5) (.t 6) 1 8),gt 2 7]
def dc_Z10 : DC:=.seq (.z r_Z10_0) (.seq (.seq (.z r_Z10_1) (.cond (.t 4) (.seq (.z r_Z10_2) .ret) .skip)) (.seq (.z r_Z10_3) .ret))
theorem c_Z10 : cfun Tryz.prog [] 92 = some (8,dc_Z10,[(Res.tmp 2)]):=by kernel_rfl
def r_Z3_0 : List GI:=[gi 2 (.mov 2 (.k .nul))]
def r_Z3_1 : List GI:=[gt 3 0,gi 4 (.isn 4 false (.t 3))]
def r_Z3_2 : List GI:=[gi 2 (.mov 2 (.k .nul))]
def r_Z3_3 : List GI:=[gi 5 (.mov 5 (.k .nul)),gt 6 0,gi 7 (.app 7 2000007 (.t 5) (.t 6) 5 88),gt 2 7]
def dc_Z3 : DC:=.seq (.z r_Z3_0) (.seq (.seq (.z r_Z3_1) (.cond (.t 4) (.seq (.z r_Z3_2) .ret) .skip)) (.seq (.z r_Z3_3) .ret))
theorem c_Z3 : cfun Tryz.prog [] 93 = some (8,dc_Z3,[(Res.tmp 2)]):=by kernel_rfl
def r_Z46_0 : List GI:=[gi 2 (.mov 2 (.k .nul))]
def r_Z46_1 : List GI:=[gt 5 0,gt 6 0,gi 7 (.nilc 7 6),gf 8 7 2,gl 9 8,gc 10 90 [.t 9],gi 11 (.nilc 11 5),gf 12 11 2,g0 (.sto 12 (.t 10) none)]
def r_Z46_2 : List GI:=[gt 13 0,gi 14 (.nilc 14 13),gf 15 14 2,gl 16 15,gn 17 16,gk 18 0]
def r_Z46_3 : List GI:=[gb 19 .lss 18 17]
def r_Z46_4 : List GI:=[gt 20 18,ga 21 16 18 5,gs 22 21 5,gi 4 (.alloc 4 2000004 [I 0,I 0,.v (.bool false),I 0,.nul]),gt 3 20,g0 (.sto 4 (.t 22) (some 5))]
def r_Z46_5 : List GI:=[gt 23 0,gi 24 (.nilc 24 23),gf 25 24 2,gl 26 25,gt 27 3,gs 28 4 5,gc 29 91 [.t 28],ga 30 26 27 5,g0 (.sto 30 (.t 29) (some 5))]
def r_Z46_6 : List GI:=[gd 31 .add 18 1,gt 18 31]
def r_Z46_7 : List GI:=[gt 32 0,gt 33 0,gi 34 (.nilc 34 33),gf 35 34 3,gl 36 35,gc 37 92 [.t 36],gi 38 (.nilc 38 32),gf 39 38 3,g0 (.sto 39 (.t 37) none)]
def r_Z46_8 : List GI:=[gt 40 0,gt 41 0,gi 42 (.nilc 42 41),gf 43 42 4,gl 44 43,gc 45 93 [.t 44],gi 46 (.nilc 46 40),gf 47 46 4,g0 (.sto 47 (.t 45) none)]
def r_Z46_9 : List GI:=[gt 48 0,gi 49 (.nilc 49 48),gf 50 49 4,gl 51 50,gt 2 51]
def dc_Z46 : DC:=.seq (.z r_Z46_0) (.seq (.z r_Z46_1) (.seq (.seq (.z r_Z46_2) (.block 0 (.loop (.seq (.z r_Z46_3) (.seq (.cond (.t 19) .skip (.exit 0)) (.seq (.block 1 (.seq (.z r_Z46_4) (.reg r_Z46_5 (some [0,1,3,7,0,0,32,127,255])))) (.z r_Z46_6))))))) (.seq (.z r_Z46_7) (.seq (.z r_Z46_8) (.seq (.z r_Z46_9) .ret)))))
theorem c_Z46 : cfun Tryz.prog [] 89 = some (52,dc_Z46,[(Res.tmp 2)]):=by kernel_rfl
def r_Z86_0 : List GI:=[gi 1 (.box 1 2000001 (.t 0) (some 5)),gi 2 (.alloc 2 2000002 [I 0,I 0,.nul,.nul,.nul])]
def r_Z86_1 : List GI:=[gs 3 1 5,⟨.call 4 88 [.t 3,.k (.fn 89 [])],some 4,none,true⟩,g0 (.sto 2 (.t 4) (some 5))]
def dc_Z86 : DC:=.seq (.z r_Z86_0) (.seq (.z r_Z86_1) .ret)
theorem c_Z86 : cfun Tryz.prog [] 52 = some (5,dc_Z86,[(Res.cell 2 (some 5))]):=by kernel_rfl
def r_Z5_0 : List GI:=[gi 2 (.box 2 2000002 (.t 0) (some 5)),gi 4 (.alloc 4 2000004 [I 0,I 0,.nul,.nul,.nul])]
def r_Z5_1 : List GI:=[gi 9 (.bslx 9 2000009 1 none [.v (.pointer none)] [(0,.t 2)]),gt 5 9]
def r_Z5_2 : List GI:=[gt 10 5,gn 11 10,gd 12 .gtr 11 0]
def r_Z5_3 : List GI:=[gt 13 5,gt 14 5,gn 15 14,gd 16 .sub 15 1,ga 17 13 16 1,gl 18 17,gt 6 18]
def r_Z5_4 : List GI:=[gt 19 5,gt 20 5,gn 21 20,gd 22 .sub 21 1,gi 23 (.slc 23 (.t 19) none (some (.t 22)) 1),gt 5 23]
def r_Z5_5 : List GI:=[gt 24 1,gt 25 6,⟨.cal 26 (.t 24) [.t 25],some 26,none,true⟩,gt 7 26]
def r_Z5_6 : List GI:=[gt 27 7,gn 28 27,gk 29 0]
def r_Z5_7 : List GI:=[gb 30 .lss 29 28]
def r_Z5_8 : List GI:=[gt 31 29,gt 8 31]
def r_Z5_9 : List GI:=[gt 32 5,gt 33 7,gt 34 8,ga 35 33 34 5,gi 36 (.bslx 36 2000036 1 none [.v (.pointer none)] [(0,.t 35)]),gi 37 (.app 37 2000037 (.t 32) (.t 36) 1 8),gt 5 37]
def r_Z5_10 : List GI:=[gd 38 .add 29 1,gt 29 38]
def r_Z5_11 : List GI:=[gs 39 2 5,g0 (.sto 4 (.t 39) (some 5))]
def dc_Z5 : DC:=.seq (.z r_Z5_0) (.seq (.seq (.z r_Z5_1) (.block 0 (.loop (.seq (.seq (.z r_Z5_2) (.cond (.t 12) .skip (.exit 0))) (.block 1 (.seq (.z r_Z5_3) (.seq (.z r_Z5_4) (.seq (.z r_Z5_5) (.seq (.z r_Z5_6) (.block 2 (.loop (.seq (.z r_Z5_7) (.seq (.cond (.t 30) .skip (.exit 2)) (.seq (.block 3 (.seq (.z r_Z5_8) (.z r_Z5_9))) (.z r_Z5_10))))))))))))))) (.seq (.z r_Z5_11) .ret))
theorem c_Z5 : cfun Tryz.prog [9,36] 88 = some (40,dc_Z5,[(Res.cell 4 (some 5))]):=by kernel_rfl
def r_Z17_0 : List GI:=[gi 3 (.box 3 2000003 (.t 1) (some 5)),gi 4 (.alloc 4 2000004 [I 0,I 0,.nul,.nul,.nul]),gi 5 (.mov 5 (.k (.v (.bool false))))]
def r_Z17_1 : List GI:=[gt 8 0,gn 9 8,gd 10 .gtr 9 8]
def r_Z17_2 : List GI:=[gi 11 (.build 11 [I 0,I 0,.nul,.nul,.nul] []),g0 (.sto 4 (.t 11) (some 5)),gi 5 (.mov 5 (.k (.v (.bool false))))]
def r_Z17_3 : List GI:=[gt 12 0,gn 13 12,gk 14 0]
def r_Z17_4 : List GI:=[gb 15 .lss 14 13]
def r_Z17_5 : List GI:=[ga 16 12 14 1,gl 17 16,gt 7 17]
def r_Z17_6 : List GI:=[gt 18 7,gd 19 .lss 18 0,gt 20 19,⟨.mov 21 (.t 7),some 21,some (20,false),false⟩,⟨.fad 22 3 4,some 22,some (20,false),false⟩,⟨.lod 23 22 none,some 23,some (20,false),false⟩,⟨.len 24 (.t 23),some 24,some (20,false),false⟩,⟨.bin 25 .geq (.t 21) (.t 24),some 25,some (20,false),false⟩,gi 26 (.pick 26 (.t 20) (.k (.v (.bool true))) (.t 25))]
def r_Z17_7 : List GI:=[gi 27 (.build 27 [I 0,I 0,.nul,.nul,.nul] []),g0 (.sto 4 (.t 27) (some 5)),gi 5 (.mov 5 (.k (.v (.bool false))))]
def r_Z17_8 : List GI:=[gf 28 3 4,gl 29 28,gt 30 7,ga 31 29 30 5,gs 32 31 5,g0 (.sto 3 (.t 32) (some 5))]
def r_Z17_9 : List GI:=[gd 33 .add 14 1,gt 14 33]
def r_Z17_10 : List GI:=[gs 34 3 5,g0 (.sto 4 (.t 34) (some 5)),gi 5 (.mov 5 (.k (.v (.bool true))))]
def dc_Z17 : DC:=.seq (.z r_Z17_0) (.seq (.seq (.z r_Z17_1) (.cond (.t 10) (.seq (.z r_Z17_2) .ret) .skip)) (.seq (.seq (.z r_Z17_3) (.block 0 (.loop (.seq (.z r_Z17_4) (.seq (.cond (.t 15) .skip (.exit 0)) (.seq (.block 1 (.seq (.z r_Z17_5) (.seq (.seq (.z r_Z17_6) (.cond (.t 26) (.seq (.z r_Z17_7) .ret) .skip)) (.z r_Z17_8)))) (.z r_Z17_9))))))) (.seq (.z r_Z17_10) .ret)))
theorem c_Z17 : cfun Tryz.prog [] 85 = some (35,dc_Z17,[(Res.cell 4 (some 5)),(Res.tmp 5)]):=by kernel_rfl
def r_Z70_0 : List GI:=[gi 2 (.box 2 2000002 (.t 0) (some 5)),gi 3 (.box 3 2000003 (.t 1) (some 5)),gi 4 (.mov 4 (.k (.v (.bool false))))]
def r_Z70_1 : List GI:=[gf 5 2 0,gl 6 5,gf 7 3 0,gl 8 7,gb 9 .eql 6 8,gt 10 9,⟨.fad 11 2 1,some 11,some (10,true),false⟩,⟨.lod 12 11 none,some 12,some (10,true),false⟩,⟨.fad 13 3 1,some 13,some (10,true),false⟩,⟨.lod 14 13 none,some 14,some (10,true),false⟩,⟨.bin 15 .eql (.t 12) (.t 14),some 15,some (10,true),false⟩,gi 16 (.pick 16 (.t 10) (.t 15) (.k (.v (.bool false)))),gt 17 16,⟨.fad 18 2 2,some 18,some (17,true),false⟩,⟨.lod 19 18 (some 2),some 19,some (17,true),false⟩,⟨.fad 20 3 2,some 20,some (17,true),false⟩,⟨.lod 21 20 (some 2),some 21,some (17,true),false⟩,⟨.eqs 22 false [false,true] (.t 19) (.t 21),some 22,some (17,true),false⟩,gi 23 (.pick 23 (.t 17) (.t 22) (.k (.v (.bool false)))),gt 24 23,⟨.fad 25 2 4,some 25,some (24,true),false⟩,⟨.lod 26 25 none,some 26,some (24,true),false⟩,⟨.fad 27 3 4,some 27,some (24,true),false⟩,⟨.lod 28 27 none,some 28,some (24,true),false⟩,⟨.call 29 27 [.t 26,.t 28],some 29,some (24,true),true⟩,gi 30 (.pick 30 (.t 24) (.t 29) (.k (.v (.bool false)))),gt 4 30]
def dc_Z70 : DC:=.seq (.z r_Z70_0) (.seq (.z r_Z70_1) .ret)
theorem c_Z70 : cfun Tryz.prog [] 61 = some (31,dc_Z70,[(Res.tmp 4)]):=by kernel_rfl
def r_Z71_0 : List GI:=[gi 4 (.mov 4 (.k (.v (.bool false))))]
def r_Z71_1 : List GI:=[gt 6 0,gn 7 6,gt 8 1,gn 9 8,gb 10 .neq 7 9]
def r_Z71_2 : List GI:=[gi 4 (.mov 4 (.k (.v (.bool false))))]
def r_Z71_3 : List GI:=[gk 5 0]
def r_Z71_4 : List GI:=[gt 11 5,gt 12 0,gn 13 12,gb 14 .lss 11 13]
def r_Z71_5 : List GI:=[gt 17 0,gt 18 5,ga 19 17 18 5,gs 20 19 5,gt 21 1,gt 22 5,ga 23 21 22 5,gs 24 23 5,gc 25 61 [.t 20,.t 24],gi 26 (.un 26 UnOp.not (.t 25))]
def r_Z71_6 : List GI:=[gi 4 (.mov 4 (.k (.v (.bool false))))]
def r_Z71_7 : List GI:=[gt 15 5,gd 16 .add 15 1,gt 5 16]
def r_Z71_8 : List GI:=[gi 4 (.mov 4 (.k (.v (.bool true))))]
def dc_Z71 : DC:=.seq (.z r_Z71_0) (.seq (.seq (.z r_Z71_1) (.cond (.t 10) (.seq (.z r_Z71_2) .ret) .skip)) (.seq (.seq (.z r_Z71_3) (.block 0 (.loop (.seq (.seq (.z r_Z71_4) (.cond (.t 14) .skip (.exit 0))) (.seq (.block 1 (.seq (.reg r_Z71_5 (some [0,0,3,7,0,0,48,112,255,511])) (.cond (.t 26) (.seq (.z r_Z71_6) .ret) .skip))) (.z r_Z71_7)))))) (.seq (.z r_Z71_8) .ret)))
theorem c_Z71 : cfun Tryz.prog [] 27 = some (27,dc_Z71,[(Res.tmp 4)]):=by kernel_rfl
end
end Go.Proofs.YtgpdmgaemhelgaaGreat
