/-
  Functions of the program read as code on plain data. Closed facts of the program alone.
-/
import Derived.KernelRfl
import Derived.Test.YtefldihjbaodnaaGreatRows
import Derived.Test.YtefldihjbaodnaaGreatJSVGo
import Derived.Test.YtefldihjbaodnaaGreatJSVTbD
namespace Go.Proofs.YtefldihjbaodnaaGreat
open Go.RowKit
noncomputable section
def r_Z164_0 : List GI:=[gi 2 (.box 2 2000002 (.t 0) (some 5)),gi 4 (.alloc 4 2000004 [I 0,.nul]),gi 5 (.mov 5 (.k (.v (.bool false))))]
def r_Z164_1 : List GI:=[gs 6 2 5,gt 7 1,gc 8 34 [.t 7],gc 9 33 [.t 6,.t 8],gd 10 .eql 9 0]
def r_Z164_2 : List GI:=[gi 11 (.build 11 [I 0,.nul] []),g0 (.sto 4 (.t 11) (some 2)),gi 5 (.mov 5 (.k (.v (.bool false))))]
def r_Z164_3 : List GI:=[gs 12 2 5,gt 13 1,gc 14 35 [.t 12,.t 13],g0 (.sto 4 (.t 14) (some 2)),gi 5 (.mov 5 (.k (.v (.bool true))))]
def dc_Z164 : DC:=.seq (.z r_Z164_0) (.seq (.seq (.reg r_Z164_1 (some [0,0,2,7,15])) (.cond (.t 10) (.seq (.z r_Z164_2) .ret) .skip)) (.seq (.z r_Z164_3) .ret))
theorem c_Z164 : cfun Tryz.prog [] 8 = some (15,dc_Z164,[(Res.cell 4 (some 2)),(Res.tmp 5)]):=by kernel_rfl
def r_Z178_0 : List GI:=[gi 2 (.mov 2 (.k .nul))]
def r_Z178_1 : List GI:=[gi 5 (.mov 5 (.k .nul)),gt 3 5]
def r_Z178_2 : List GI:=[gk 4 0]
def r_Z178_3 : List GI:=[gt 6 4,gt 7 0,gn 8 7,gb 9 .lss 6 8]
def r_Z178_4 : List GI:=[gt 12 0,gt 13 4,ga 14 12 13 2,gs 15 14 2,gc 16 73 [.t 15],gi 17 (.un 17 UnOp.not (.t 16))]
def r_Z178_5 : List GI:=[gi 18 (.mov 18 (.k .nul)),gt 2 18]
def r_Z178_6 : List GI:=[gt 19 3,gt 20 0,gt 21 4,ga 22 20 21 2,gf 23 22 0,gl 24 23,gi 25 (.bsl 25 1 none [I 0] [(0,.t 24)]),gi 26 (.app 26 2000026 (.t 19) (.t 25) 1 8),gt 3 26]
def r_Z178_7 : List GI:=[gt 10 4,gd 11 .add 10 1,gt 4 11]
def r_Z178_8 : List GI:=[gt 27 3,gt 2 27]
def dc_Z178 : DC:=.seq (.z r_Z178_0) (.seq (.z r_Z178_1) (.seq (.seq (.z r_Z178_2) (.block 0 (.loop (.seq (.seq (.z r_Z178_3) (.cond (.t 9) .skip (.exit 0))) (.seq (.block 1 (.seq (.seq (.z r_Z178_4) (.cond (.t 17) (.seq (.z r_Z178_5) .ret) .skip)) (.z r_Z178_6))) (.z r_Z178_7)))))) (.seq (.z r_Z178_8) .ret)))
theorem c_Z178 : cfun Tryz.prog [] 34 = some (28,dc_Z178,[(Res.tmp 2)]):=by kernel_rfl
def r_Z152_0 : List GI:=[gi 2 (.box 2 2000002 (.t 0) (some 5)),gi 3 (.box 3 2000003 (.t 1) none),gi 4 (.alloc 4 2000004 [I 0,.nul]),gi 5 (.mov 5 (.k (.v (.bool false))))]
def r_Z152_1 : List GI:=[gs 7 2 5,gl 8 3,gc 9 27 [.t 8],gc 10 26 [.t 7,.t 9],gd 11 .eql 10 0]
def r_Z152_2 : List GI:=[gi 12 (.build 12 [I 0,.nul] []),g0 (.sto 4 (.t 12) (some 2)),gi 5 (.mov 5 (.k (.v (.bool false))))]
def r_Z152_3 : List GI:=[gs 13 2 5,gi 14 (.mkf 14 29 [.t 3]),gc 15 28 [.t 13,.t 14],gi 6 (.alloc 6 2000006 [I 0,.nul]),g0 (.sto 6 (.t 15) (some 2))]
def r_Z152_4 : List GI:=[gf 16 6 0,gl 17 16,gf 18 6 1,gl 19 18,gc 20 32 [.t 19],gc 21 31 [.t 17,.t 20],g0 (.sto 4 (.t 21) (some 2)),gi 5 (.mov 5 (.k (.v (.bool true))))]
def dc_Z152 : DC:=.seq (.z r_Z152_0) (.seq (.seq (.reg r_Z152_1 (some [0,0,2,7,15])) (.cond (.t 11) (.seq (.z r_Z152_2) .ret) .skip)) (.seq (.z r_Z152_3) (.seq (.reg r_Z152_4 (some [0,1,0,4,12,31,63,127])) .ret)))
theorem c_Z152 : cfun Tryz.prog [] 7 = some (22,dc_Z152,[(Res.cell 4 (some 2)),(Res.tmp 5)]):=by kernel_rfl
def r_Z101_0 : List GI:=[gi 2 (.mov 2 (.k .nul))]
def r_Z101_1 : List GI:=[gi 3 (.mov 3 (.k .nul))]
def r_Z101_2 : List GI:=[gt 6 0,gn 7 6,gk 8 0]
def r_Z101_3 : List GI:=[gb 9 .lss 8 7]
def r_Z101_4 : List GI:=[ga 10 6 8 2,gs 11 10 2,gi 5 (.alloc 5 2000005 [I 0,.nul]),g0 (.sto 5 (.t 11) (some 2))]
def r_Z101_5 : List GI:=[gs 12 5 2,gc 13 64 [.t 12],gi 14 (.un 14 UnOp.not (.t 13))]
def r_Z101_6 : List GI:=[gi 2 (.mov 2 (.k .nul))]
def r_Z101_7 : List GI:=[gt 15 3,gf 16 5 0,gl 17 16,gi 18 (.bsl 18 1 none [I 0] [(0,.t 17)]),gi 19 (.app 19 2000019 (.t 15) (.t 18) 1 8),gt 3 19]
def r_Z101_8 : List GI:=[gd 20 .add 8 1,gt 8 20]
def r_Z101_9 : List GI:=[gt 21 3,gt 2 21]
def dc_Z101 : DC:=.seq (.z r_Z101_0) (.seq (.z r_Z101_1) (.seq (.seq (.z r_Z101_2) (.block 0 (.loop (.seq (.z r_Z101_3) (.seq (.cond (.t 9) .skip (.exit 0)) (.seq (.block 1 (.seq (.z r_Z101_4) (.seq (.seq (.z r_Z101_5) (.cond (.t 14) (.seq (.z r_Z101_6) .ret) .skip)) (.z r_Z101_7)))) (.z r_Z101_8))))))) (.seq (.z r_Z101_9) .ret)))
theorem c_Z101 : cfun Tryz.prog [] 27 = some (22,dc_Z101,[(Res.tmp 2)]):=by kernel_rfl
def r_Z183_0 : List GI:=[gi 4 (.alloc 4 2000004 [I 0,I 0,.v (.bool false),I 0,.nul])]
def r_Z183_1 : List GI:=[gt 6 0,gt 7 1,gc 8 148 [.t 6,.t 7,.k (I 3)],gi 5 (.alloc 5 2000005 [I 0,I 0,.v (.bool false),I 0,.nul]),g0 (.sto 5 (.t 8) (some 5))]
def r_Z183_2 : List GI:=[gt 9 0,gc 10 60 [.t 9,.k (I 18)]]
def r_Z183_3 : List GI:=[gd 12 .eql 10 0,gt 11 12]
def r_Z183_4 : List GI:=[gt 13 0,gi 14 (.bsl 14 1 none [I 0,I 0,I 0,I 0] [(0,.k (I 0)),(1,.k (I 12)),(2,.k (I 3)),(3,.k (I 10))]),gc 15 99 [.t 13,.t 14],gf 16 5 0,g0 (.sto 16 (.t 15) none)]
def r_Z183_5 : List GI:=[gd 18 .eql 10 1,gt 17 18]
def r_Z183_6 : List GI:=[gt 19 0,gt 20 1,gi 21 (.bsl 21 1 none [I 0,I 0,I 0] [(0,.k (.v (.int .i64 (-1)))),(1,.k (I 6)),(2,.t 20)]),gc 22 99 [.t 19,.t 21],gf 23 5 1,g0 (.sto 23 (.t 22) none)]
def r_Z183_7 : List GI:=[gd 25 .eql 10 2,gt 24 25]
def r_Z183_8 : List GI:=[gt 26 0,gc 27 149 [.t 26],gf 28 5 2,g0 (.sto 28 (.t 27) (some 2))]
def r_Z183_9 : List GI:=[gs 29 5 5,g0 (.sto 4 (.t 29) (some 5))]
def dc_Z183 : DC:=.seq (.z r_Z183_0) (.seq (.z r_Z183_1) (.seq (.seq (.z r_Z183_2) (.block 0 (.seq (.z r_Z183_3) (.cond (.t 11) (.z r_Z183_4) (.seq (.z r_Z183_5) (.cond (.t 17) (.z r_Z183_6) (.seq (.z r_Z183_7) (.cond (.t 24) (.z r_Z183_8) .skip)))))))) (.seq (.z r_Z183_9) .ret)))
theorem c_Z183 : cfun Tryz.prog [] 100 = some (30,dc_Z183,[(Res.cell 4 (some 5))]):=by kernel_rfl
def r_Z168_0 : List GI:=[gi 1 (.box 1 2000001 (.t 0) (some 2)),gi 2 (.alloc 2 2000002 [I 0,I 0,.v (.bool false),I 0,.nul])]
def r_Z168_1 : List GI:=[gs 3 1 2,gi 4 (.build 4 [I 0,I 0,.v (.bool false),I 0,.nul] [(0,(none,.k (I 2))),(2,(some 2,.t 3))]),g0 (.sto 2 (.t 4) (some 5))]
def dc_Z168 : DC:=.seq (.z r_Z168_0) (.seq (.z r_Z168_1) .ret)
theorem c_Z168 : cfun Tryz.prog [] 193 = some (5,dc_Z168,[(Res.cell 2 (some 5))]):=by kernel_rfl
def r_Z128_0 : List GI:=[gi 6 (.alloc 6 2000006 [I 0,I 0,.v (.bool false),I 0,.nul])]
def r_Z128_1 : List GI:=[gt 11 0,gc 12 60 [.t 11,.k (I 13)],gt 7 12]
def r_Z128_2 : List GI:=[gt 13 2,gd 14 .eql 13 0,gt 15 14,⟨.mov 16 (.t 7),some 16,some (15,false),false⟩,⟨.bin 17 .gtr (.t 16) (.k (I 10)),some 17,some (15,false),false⟩,gi 18 (.pick 18 (.t 15) (.k (.v (.bool true))) (.t 17))]
def r_Z128_3 : List GI:=[gt 19 0,gc 20 60 [.t 19,.k (I 3)],gd 21 .gtr 20 0]
def r_Z128_4 : List GI:=[gt 22 0,gt 23 1,gc 24 60 [.t 22,.t 23],gi 25 (.build 25 [I 0,I 0,.v (.bool false),I 0,.nul] [(0,(none,.k (I 1))),(1,(none,.t 24))]),g0 (.sto 6 (.t 25) (some 5))]
def r_Z128_5 : List GI:=[gt 26 0,gc 27 194 [.t 26],gc 28 193 [.t 27],g0 (.sto 6 (.t 28) (some 5))]
def r_Z128_6 : List GI:=[gt 29 7,gd 30 .rem 29 9,gi 31 (.bin 31 .add (.k (I 3)) (.t 30)),gt 8 31]
def r_Z128_7 : List GI:=[gt 32 8,gi 33 (.build 33 [I 0,I 0,.v (.bool false),I 0,.nul] [(0,(none,.t 32))]),gi 9 (.alloc 9 2000009 [I 0,I 0,.v (.bool false),I 0,.nul]),g0 (.sto 9 (.t 33) (some 5))]
def r_Z128_8 : List GI:=[gk 10 0]
def r_Z128_9 : List GI:=[gt 34 10,gt 35 8,gc 36 195 [.t 35],gb 37 .lss 34 36]
def r_Z128_10 : List GI:=[gf 40 9 4,gl 41 40,gt 42 0,gt 43 1,gt 44 2,gd 45 .sub 44 1,gc 46 148 [.t 42,.t 43,.t 45],gi 47 (.bsl 47 5 (some 5) [.agg [I 0,I 0,.v (.bool false),I 0,.nul]] [(0,.t 46)]),gi 48 (.app 48 2000048 (.t 41) (.t 47) 5 56),gf 49 9 4,g0 (.sto 49 (.t 48) none)]
def r_Z128_11 : List GI:=[gt 38 10,gd 39 .add 38 1,gt 10 39]
def r_Z128_12 : List GI:=[gs 50 9 5,g0 (.sto 6 (.t 50) (some 5))]
def dc_Z128 : DC:=.seq (.z r_Z128_0) (.seq (.z r_Z128_1) (.seq (.seq (.z r_Z128_2) (.cond (.t 18) (.seq (.seq (.z r_Z128_3) (.cond (.t 21) (.seq (.z r_Z128_4) .ret) .skip)) (.seq (.z r_Z128_5) .ret)) .skip)) (.seq (.z r_Z128_6) (.seq (.z r_Z128_7) (.seq (.seq (.z r_Z128_8) (.block 0 (.loop (.seq (.seq (.z r_Z128_9) (.cond (.t 37) .skip (.exit 0))) (.seq (.block 1 (.reg r_Z128_10 (some [0,1,0,0,0,16,60,124,255,511,1023]))) (.z r_Z128_11)))))) (.seq (.z r_Z128_12) .ret))))))
theorem c_Z128 : cfun Tryz.prog [] 148 = some (51,dc_Z128,[(Res.cell 6 (some 5))]):=by kernel_rfl
def r_Z169_0 : List GI:=[gi 1 (.box 1 2000001 (.t 0) (some 5)),gi 2 (.alloc 2 2000002 [I 0,I 0,.v (.bool false),I 0,.nul])]
def r_Z169_1 : List GI:=[gf 5 1 0,gl 6 5,gf 7 1 1,gl 8 7,gf 9 1 2,gs 10 9 2,gi 11 (.build 11 [I 0,I 0,.v (.bool false),I 0,.nul] [(0,(none,.t 6)),(1,(none,.t 8)),(2,(some 2,.t 10))]),gi 3 (.alloc 3 2000003 [I 0,I 0,.v (.bool false),I 0,.nul]),g0 (.sto 3 (.t 11) (some 5))]
def r_Z169_2 : List GI:=[gk 4 0]
def r_Z169_3 : List GI:=[gt 12 4,gf 13 1 4,gl 14 13,gn 15 14,gb 16 .lss 12 15]
def r_Z169_4 : List GI:=[gf 19 3 4,gl 20 19,gf 21 1 4,gl 22 21,gt 23 4,ga 24 22 23 5,gs 25 24 5,gc 26 211 [.t 25],gi 27 (.bsl 27 5 (some 5) [.agg [I 0,I 0,.v (.bool false),I 0,.nul]] [(0,.t 26)]),gi 28 (.app 28 2000028 (.t 20) (.t 27) 5 56),gf 29 3 4,g0 (.sto 29 (.t 28) none)]
def r_Z169_5 : List GI:=[gt 17 4,gd 18 .add 17 1,gt 4 18]
def r_Z169_6 : List GI:=[gs 30 3 5,g0 (.sto 2 (.t 30) (some 5))]
def dc_Z169 : DC:=.seq (.z r_Z169_0) (.seq (.z r_Z169_1) (.seq (.seq (.z r_Z169_2) (.block 0 (.loop (.seq (.seq (.z r_Z169_3) (.cond (.t 16) .skip (.exit 0))) (.seq (.block 1 (.reg r_Z169_4 (some [0,1,0,4,0,28,60,124,252,511,1023,2047]))) (.z r_Z169_5)))))) (.seq (.z r_Z169_6) .ret)))
theorem c_Z169 : cfun Tryz.prog [] 211 = some (31,dc_Z169,[(Res.cell 2 (some 5))]):=by kernel_rfl
def r_Z170_0 : List GI:=[gi 1 (.box 1 2000001 (.t 0) (some 5)),gi 2 (.alloc 2 2000002 [I 0,I 0,.nul,.nul,.nul])]
def r_Z170_1 : List GI:=[gf 6 1 0,gl 7 6,gf 8 1 1,gl 9 8,gi 10 (.mov 10 (.k .nul)),gf 11 1 3,gl 12 11,gi 13 (.app 13 2000013 (.t 10) (.t 12) 1 8),gi 14 (.build 14 [I 0,I 0,.nul,.nul,.nul] [(0,(none,.t 7)),(1,(none,.t 9)),(3,(none,.t 13))]),gi 3 (.alloc 3 2000003 [I 0,I 0,.nul,.nul,.nul]),g0 (.sto 3 (.t 14) (some 5))]
def r_Z170_2 : List GI:=[gk 4 0]
def r_Z170_3 : List GI:=[gt 15 4,gf 16 1 2,gl 17 16,gn 18 17,gb 19 .lss 15 18]
def r_Z170_4 : List GI:=[gf 22 3 2,gl 23 22,gf 24 1 2,gl 25 24,gt 26 4,ga 27 25 26 5,gs 28 27 5,gc 29 211 [.t 28],gi 30 (.bsl 30 5 (some 5) [.agg [I 0,I 0,.v (.bool false),I 0,.nul]] [(0,.t 29)]),gi 31 (.app 31 2000031 (.t 23) (.t 30) 5 56),gf 32 3 2,g0 (.sto 32 (.t 31) none)]
def r_Z170_5 : List GI:=[gt 20 4,gd 21 .add 20 1,gt 4 21]
def r_Z170_6 : List GI:=[gk 5 0]
def r_Z170_7 : List GI:=[gt 33 5,gf 34 1 4,gl 35 34,gn 36 35,gb 37 .lss 33 36]
def r_Z170_8 : List GI:=[gf 40 3 4,gl 41 40,gf 42 1 4,gl 43 42,gt 44 5,ga 45 43 44 5,gs 46 45 5,gc 47 191 [.t 46],gi 48 (.bsl 48 5 (some 5) [.agg [I 0,I 0,.nul,.nul,.nul]] [(0,.t 47)]),gi 49 (.app 49 2000049 (.t 41) (.t 48) 5 88),gf 50 3 4,g0 (.sto 50 (.t 49) none)]
def r_Z170_9 : List GI:=[gt 38 5,gd 39 .add 38 1,gt 5 39]
def r_Z170_10 : List GI:=[gs 51 3 5,g0 (.sto 2 (.t 51) (some 5))]
def dc_Z170 : DC:=.seq (.z r_Z170_0) (.seq (.reg r_Z170_1 (some [0,1,0,4,0,0,32,112,255,0,1023])) (.seq (.seq (.z r_Z170_2) (.block 0 (.loop (.seq (.seq (.z r_Z170_3) (.cond (.t 19) .skip (.exit 0))) (.seq (.block 1 (.reg r_Z170_4 (some [0,1,0,4,0,28,60,124,252,511,1023,2047]))) (.z r_Z170_5)))))) (.seq (.seq (.z r_Z170_6) (.block 2 (.loop (.seq (.seq (.z r_Z170_7) (.cond (.t 37) .skip (.exit 2))) (.seq (.block 3 (.reg r_Z170_8 (some [0,1,0,4,0,28,60,124,252,511,1023,2047]))) (.z r_Z170_9)))))) (.seq (.z r_Z170_10) .ret))))
theorem c_Z170 : cfun Tryz.prog [] 191 = some (52,dc_Z170,[(Res.cell 2 (some 5))]):=by kernel_rfl
def r_Z173_0 : List GI:=[gi 2 (.box 2 2000002 (.t 0) (some 5)),gi 3 (.box 3 2000003 (.t 1) (some 5)),gi 4 (.alloc 4 2000004 [I 0,I 0,.nul,.nul,.nul])]
def r_Z173_1 : List GI:=[gs 5 2 5,gi 6 (.bsl 6 5 (some 5) [.agg [I 0,I 0,.v (.bool false),I 0,.nul]] [(0,.t 5)]),gs 7 3 5,gi 8 (.bsl 8 5 (some 5) [.agg [I 0,I 0,.nul,.nul,.nul]] [(0,.t 7)]),gi 9 (.build 9 [I 0,I 0,.nul,.nul,.nul] [(0,(none,.k (I 2))),(2,(none,.t 6)),(4,(none,.t 8))]),g0 (.sto 4 (.t 9) (some 5))]
def dc_Z173 : DC:=.seq (.z r_Z173_0) (.seq (.z r_Z173_1) .ret)
theorem c_Z173 : cfun Tryz.prog [] 146 = some (10,dc_Z173,[(Res.cell 4 (some 5))]):=by kernel_rfl
def r_Z144_0 : List GI:=[gi 6 (.alloc 6 2000006 [I 0,I 0,.v (.bool false),I 0,.nul])]
def r_Z144_1 : List GI:=[gt 10 0,gt 11 1,gc 12 60 [.t 10,.t 11],gi 13 (.build 13 [I 0,I 0,.v (.bool false),I 0,.nul] [(0,(none,.k (I 1))),(1,(none,.t 12))]),gi 7 (.alloc 7 2000007 [I 0,I 0,.v (.bool false),I 0,.nul]),g0 (.sto 7 (.t 13) (some 5))]
def r_Z144_2 : List GI:=[gt 14 0,gc 15 60 [.t 14,.k (I 4)],gi 16 (.build 16 [.v (.bool false),I 0] [(1,(none,.t 15))]),gc 17 193 [.t 16],gi 8 (.alloc 8 2000008 [I 0,I 0,.v (.bool false),I 0,.nul]),g0 (.sto 8 (.t 17) (some 5))]
def r_Z144_3 : List GI:=[gt 18 0,gc 19 60 [.t 18,.k (I 3)],gd 20 .eql 19 0]
def r_Z144_4 : List GI:=[gt 21 0,gt 22 1,gc 23 60 [.t 21,.t 22],gi 24 (.build 24 [I 0,I 0,.v (.bool false),I 0,.nul] [(0,(none,.k (I 1))),(1,(none,.t 23))]),g0 (.sto 8 (.t 24) (some 5))]
def r_Z144_5 : List GI:=[gt 25 0,gc 26 60 [.t 25,.k (I 8)],gt 9 26]
def r_Z144_6 : List GI:=[gt 27 9,gd 28 .eql 27 2,gt 29 28,⟨.mov 30 (.t 2),some 30,some (29,true),false⟩,⟨.bin 31 .eql (.t 30) (.k (I 0)),some 31,some (29,true),false⟩,gi 32 (.pick 32 (.t 29) (.t 31) (.k (.v (.bool false))))]
def r_Z144_7 : List GI:=[gk 9 5]
def r_Z144_8 : List GI:=[gt 33 9]
def r_Z144_9 : List GI:=[gd 35 .eql 33 0,gt 34 35]
def r_Z144_10 : List GI:=[gt 36 0,gt 37 1,gc 38 148 [.t 36,.t 37,.k (I 2)],g0 (.sto 6 (.t 38) (some 5))]
def r_Z144_11 : List GI:=[gd 40 .eql 33 1,gt 39 40]
def r_Z144_12 : List GI:=[gs 41 7 5,gi 42 (.bsl 42 5 (some 5) [.agg [I 0,I 0,.v (.bool false),I 0,.nul]] [(0,.t 41)]),gi 43 (.build 43 [I 0,I 0,.v (.bool false),I 0,.nul] [(0,(none,.k (I 11))),(4,(none,.t 42))]),gi 44 (.bsl 44 5 (some 5) [.agg [I 0,I 0,.v (.bool false),I 0,.nul]] [(0,.t 43)]),gi 45 (.build 45 [I 0,I 0,.v (.bool false),I 0,.nul] [(0,(none,.k (I 10))),(4,(none,.t 44))]),g0 (.sto 6 (.t 45) (some 5))]
def r_Z144_13 : List GI:=[gd 47 .eql 33 2,gt 46 47]
def r_Z144_14 : List GI:=[gt 48 0,gt 49 1,gt 50 2,gd 51 .sub 50 1,gc 52 192 [.t 48,.t 49,.t 51],gs 53 7 5,gs 54 8 5,gi 55 (.bsl 55 5 (some 5) [.agg [I 0,I 0,.v (.bool false),I 0,.nul],.agg [I 0,I 0,.v (.bool false),I 0,.nul]] [(0,.t 53),(1,.t 54)]),gi 56 (.build 56 [I 0,I 0,.v (.bool false),I 0,.nul] [(0,(none,.k (I 6))),(4,(none,.t 55))]),gi 57 (.bsl 57 5 (some 5) [.agg [I 0,I 0,.v (.bool false),I 0,.nul],.agg [I 0,I 0,.v (.bool false),I 0,.nul]] [(0,.t 52),(1,.t 56)]),gi 58 (.build 58 [I 0,I 0,.v (.bool false),I 0,.nul] [(0,(none,.k (I 8))),(4,(none,.t 57))]),g0 (.sto 6 (.t 58) (some 5))]
def r_Z144_15 : List GI:=[gd 60 .eql 33 3,gt 59 60]
def r_Z144_16 : List GI:=[gd 61 .eql 33 4,gt 59 61]
def r_Z144_17 : List GI:=[gs 62 8 5,gs 63 7 5,gi 64 (.bsl 64 5 (some 5) [.agg [I 0,I 0,.v (.bool false),I 0,.nul],.agg [I 0,I 0,.v (.bool false),I 0,.nul]] [(0,.t 62),(1,.t 63)]),gi 65 (.build 65 [I 0,I 0,.v (.bool false),I 0,.nul] [(0,(none,.k (I 7))),(4,(none,.t 64))]),g0 (.sto 6 (.t 65) (some 5))]
def r_Z144_18 : List GI:=[gd 67 .eql 33 5,gt 66 67]
def r_Z144_19 : List GI:=[gs 68 7 5,gs 69 8 5,gi 70 (.bsl 70 5 (some 5) [.agg [I 0,I 0,.v (.bool false),I 0,.nul],.agg [I 0,I 0,.v (.bool false),I 0,.nul]] [(0,.t 68),(1,.t 69)]),gi 71 (.build 71 [I 0,I 0,.v (.bool false),I 0,.nul] [(0,(none,.k (I 7))),(4,(none,.t 70))]),g0 (.sto 6 (.t 71) (some 5))]
def r_Z144_20 : List GI:=[gs 72 7 5,gs 73 8 5,gi 74 (.bsl 74 5 (some 5) [.agg [I 0,I 0,.v (.bool false),I 0,.nul],.agg [I 0,I 0,.v (.bool false),I 0,.nul]] [(0,.t 72),(1,.t 73)]),gi 75 (.build 75 [I 0,I 0,.v (.bool false),I 0,.nul] [(0,(none,.k (I 6))),(4,(none,.t 74))]),g0 (.sto 6 (.t 75) (some 5))]
def dc_Z144 : DC:=.seq (.z r_Z144_0) (.seq (.z r_Z144_1) (.seq (.z r_Z144_2) (.seq (.seq (.z r_Z144_3) (.cond (.t 20) (.z r_Z144_4) .skip)) (.seq (.z r_Z144_5) (.seq (.seq (.z r_Z144_6) (.cond (.t 32) (.z r_Z144_7) .skip)) (.seq (.seq (.z r_Z144_8) (.block 0 (.seq (.z r_Z144_9) (.cond (.t 34) (.seq (.z r_Z144_10) .ret) (.seq (.z r_Z144_11) (.cond (.t 39) (.seq (.z r_Z144_12) .ret) (.seq (.z r_Z144_13) (.cond (.t 46) (.seq (.reg r_Z144_14 (some [0,0,0,4,15,0,0,96,224,511,1023,2047])) .ret) (.seq (.seq (.z r_Z144_15) (.cond (.t 59) .skip (.z r_Z144_16))) (.cond (.t 59) (.seq (.z r_Z144_17) .ret) (.seq (.z r_Z144_18) (.cond (.t 66) (.seq (.z r_Z144_19) .ret) .skip)))))))))))) (.seq (.z r_Z144_20) .ret)))))))
theorem c_Z144 : cfun Tryz.prog [] 192 = some (76,dc_Z144,[(Res.cell 6 (some 5))]):=by kernel_rfl
def r_Z57_0 : List GI:=[gi 4 (.alloc 4 2000004 [I 0,I 0,.v (.bool false),I 0,.nul])]
def r_Z57_1 : List GI:=[gt 5 0,gt 6 1,gc 7 192 [.t 5,.t 6,.k (I 2)],g0 (.sto 4 (.t 7) (some 5))]
def dc_Z57 : DC:=.seq (.z r_Z57_0) (.seq (.z r_Z57_1) .ret)
theorem c_Z57 : cfun Tryz.prog [] 147 = some (8,dc_Z57,[(Res.cell 4 (some 5))]):=by kernel_rfl
end
end Go.Proofs.YtefldihjbaodnaaGreat
