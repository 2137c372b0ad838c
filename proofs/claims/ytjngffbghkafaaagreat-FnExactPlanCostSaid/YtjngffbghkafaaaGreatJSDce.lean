/-
  Functions of the program read as code on plain data. Closed facts of the program alone.
-/
import Derived.KernelRfl
import Derived.Test.YtjngffbghkafaaaGreatRows
import Derived.Test.YtjngffbghkafaaaGreatJSVGo
import Derived.Test.YtjngffbghkafaaaGreatJSVGi
namespace Go.Proofs.YtjngffbghkafaaaGreat
open Go.RowKit
noncomputable section
def r_Z132_0 : List GI:=[gi 2 (.mov 2 (.k .nul))]
def r_Z132_1 : List GI:=[gi 5 (.mov 5 (.k .nul)),gt 3 5]
def r_Z132_2 : List GI:=[gk 4 0]
def r_Z132_3 : List GI:=[gt 6 4,gt 7 0,gn 8 7,gb 9 .lss 6 8]
def r_Z132_4 : List GI:=[gt 12 0,gt 13 4,ga 14 12 13 2,gs 15 14 2,gc 16 78 [.t 15],gi 17 (.un 17 UnOp.not (.t 16))]
def r_Z132_5 : List GI:=[gi 18 (.mov 18 (.k .nul)),gt 2 18]
def r_Z132_6 : List GI:=[gt 19 3,gt 20 0,gt 21 4,ga 22 20 21 2,gf 23 22 0,gl 24 23,gi 25 (.bsl 25 1 none [I 0] [(0,.t 24)]),gi 26 (.app 26 2000026 (.t 19) (.t 25) 1 8),gt 3 26]
def r_Z132_7 : List GI:=[gt 10 4,gd 11 .add 10 1,gt 4 11]
def r_Z132_8 : List GI:=[gt 27 3,gt 2 27]
def dc_Z132 : DC:=.seq (.z r_Z132_0) (.seq (.z r_Z132_1) (.seq (.seq (.z r_Z132_2) (.block 0 (.loop (.seq (.seq (.z r_Z132_3) (.cond (.t 9) .skip (.exit 0))) (.seq (.block 1 (.seq (.seq (.z r_Z132_4) (.cond (.t 17) (.seq (.z r_Z132_5) .ret) .skip)) (.z r_Z132_6))) (.z r_Z132_7)))))) (.seq (.z r_Z132_8) .ret)))
theorem c_Z132 : cfun Tryz.prog [] 38 = some (28,dc_Z132,[(Res.tmp 2)]):=by kernel_rfl
def r_Z72_0 : List GI:=[gi 2 (.mov 2 (.k .nul))]
def r_Z72_1 : List GI:=[gi 3 (.mov 3 (.k .nul))]
def r_Z72_2 : List GI:=[gt 6 0,gn 7 6,gk 8 0]
def r_Z72_3 : List GI:=[gb 9 .lss 8 7]
def r_Z72_4 : List GI:=[ga 10 6 8 2,gs 11 10 2,gi 5 (.alloc 5 2000005 [I 0,.nul]),g0 (.sto 5 (.t 11) (some 2))]
def r_Z72_5 : List GI:=[gs 12 5 2,gc 13 69 [.t 12],gi 14 (.un 14 UnOp.not (.t 13))]
def r_Z72_6 : List GI:=[gi 2 (.mov 2 (.k .nul))]
def r_Z72_7 : List GI:=[gt 15 3,gf 16 5 0,gl 17 16,gi 18 (.bsl 18 1 none [I 0] [(0,.t 17)]),gi 19 (.app 19 2000019 (.t 15) (.t 18) 1 8),gt 3 19]
def r_Z72_8 : List GI:=[gd 20 .add 8 1,gt 8 20]
def r_Z72_9 : List GI:=[gt 21 3,gt 2 21]
def dc_Z72 : DC:=.seq (.z r_Z72_0) (.seq (.z r_Z72_1) (.seq (.seq (.z r_Z72_2) (.block 0 (.loop (.seq (.z r_Z72_3) (.seq (.cond (.t 9) .skip (.exit 0)) (.seq (.block 1 (.seq (.z r_Z72_4) (.seq (.seq (.z r_Z72_5) (.cond (.t 14) (.seq (.z r_Z72_6) .ret) .skip)) (.z r_Z72_7)))) (.z r_Z72_8))))))) (.seq (.z r_Z72_9) .ret)))
theorem c_Z72 : cfun Tryz.prog [] 45 = some (22,dc_Z72,[(Res.tmp 2)]):=by kernel_rfl
end
end Go.Proofs.YtjngffbghkafaaaGreat
namespace Go.Proofs.YtjngffbghkafaaaGreat
open Go.RowKit
noncomputable section
def r_Z6_0 : List GI:=[gi 2 (.mov 2 (.k .nul))]
def r_Z6_1 : List GI:=[gk 3 0]
def r_Z6_2 : List GI:=[gt 9 0,gn 10 9,gk 11 0]
def r_Z6_3 : List GI:=[gb 12 .lss 11 10]
def r_Z6_4 : List GI:=[ga 13 9 11 1,gl 14 13,gt 5 14]
def r_Z6_5 : List GI:=[gt 15 3,gt 16 5,gn 17 16,gb 18 .add 15 17,gt 3 18]
def r_Z6_6 : List GI:=[gt 19 3,gd 20 .lss 19 0]
def r_Z6_7 : List GI:=[gd 22 .add 11 1,gt 11 22]
def r_Z6_8 : List GI:=[gt 23 3,gc 24 220 [.k .nul,.t 23],gt 6 24]
def r_Z6_9 : List GI:=[gt 25 0,gn 26 25,gk 27 0]
def r_Z6_10 : List GI:=[gb 28 .lss 27 26]
def r_Z6_11 : List GI:=[ga 29 25 27 1,gl 30 29,gt 8 30]
def r_Z6_12 : List GI:=[gt 31 6,gt 32 8,gi 33 (.app 33 2000033 (.t 31) (.t 32) 2 16),gt 6 33]
def r_Z6_13 : List GI:=[gd 34 .add 27 1,gt 27 34]
def r_Z6_14 : List GI:=[gt 35 6,gt 2 35]
def dc_Z6 : DC:=.seq (.z r_Z6_0) (.seq (.z r_Z6_1) (.seq (.seq (.z r_Z6_2) (.block 0 (.loop (.seq (.z r_Z6_3) (.seq (.cond (.t 12) .skip (.exit 0)) (.seq (.block 1 (.seq (.z r_Z6_4) (.seq (.z r_Z6_5) (.seq (.z r_Z6_6) (.cond (.t 20) .no .skip))))) (.z r_Z6_7))))))) (.seq (.z r_Z6_8) (.seq (.seq (.z r_Z6_9) (.block 2 (.loop (.seq (.z r_Z6_10) (.seq (.cond (.t 28) .skip (.exit 2)) (.seq (.block 3 (.seq (.z r_Z6_11) (.z r_Z6_12))) (.z r_Z6_13))))))) (.seq (.z r_Z6_14) .ret)))))
theorem c_Z6 : cfun Tryz.prog [] 186 = some (36,dc_Z6,[(Res.tmp 2)]):=by kernel_rfl
def r_Z9_0 : List GI:=[gi 4 (.mov 4 (.k .nul))]
def r_Z9_1 : List GI:=[gt 5 1,gd 6 .lss 5 0]
def r_Z9_2 : List GI:=[gt 8 1,gt 9 0,gi 10 (.capn 10 (.t 9)),gt 11 0,gn 12 11,gb 13 .sub 10 12,gb 14 .sub 8 13,gt 1 14]
def r_Z9_3 : List GI:=[gt 15 1,gd 16 .gtr 15 0]
def r_Z9_4 : List GI:=[gt 17 0,gt 18 0,gi 19 (.capn 19 (.t 18)),gi 20 (.slc 20 (.t 17) none (some (.t 19)) 2),gt 21 1,gi 22 (.apm 22 2000022 (.t 20) (.t 21) 2 16 (.agg [.v (.bool false),I 0])),gt 23 0,gn 24 23,gi 25 (.slc 25 (.t 22) none (some (.t 24)) 2),gt 0 25]
def r_Z9_5 : List GI:=[gt 26 0,gt 4 26]
def dc_Z9 : DC:=.seq (.z r_Z9_0) (.seq (.seq (.z r_Z9_1) (.cond (.t 6) .no .skip)) (.seq (.seq (.z r_Z9_2) (.seq (.z r_Z9_3) (.cond (.t 16) (.z r_Z9_4) .skip))) (.seq (.z r_Z9_5) .ret)))
theorem c_Z9 : cfun Tryz.prog [] 220 = some (27,dc_Z9,[(Res.tmp 4)]):=by kernel_rfl
def r_Z90_0 : List GI:=[gi 4 (.box 4 2000004 (.t 0) (some 2)),gi 5 (.box 5 2000005 (.t 1) (some 2)),gi 6 (.box 6 2000006 (.t 2) (some 5)),gi 8 (.alloc 8 2000008 [I 0,.nul])]
def r_Z90_1 : List GI:=[gi 14 (.mov 14 (.k .nul)),gt 9 14]
def r_Z90_2 : List GI:=[gk 10 0]
def r_Z90_3 : List GI:=[gt 15 10,gf 16 4 1,gl 17 16,gn 18 17,gb 19 .lss 15 18]
def r_Z90_4 : List GI:=[gi 11 (.mov 11 (.k (.v (.bool false))))]
def r_Z90_5 : List GI:=[gk 12 0]
def r_Z90_6 : List GI:=[gt 22 12,gf 23 5 1,gl 24 23,gn 25 24,gb 26 .lss 22 25]
def r_Z90_7 : List GI:=[gf 29 4 1,gl 30 29,gt 31 10,ga 32 30 31 1,gl 33 32,gf 34 5 1,gl 35 34,gt 36 12,ga 37 35 36 1,gl 38 37,gc 39 163 [.t 33,.t 38],gt 13 39]
def r_Z90_8 : List GI:=[gs 40 6 5,gt 41 13,gc 42 161 [.t 40,.t 41]]
def r_Z90_9 : List GI:=[gi 11 (.mov 11 (.k (.v (.bool true))))]
def r_Z90_10 : List GI:=[gt 43 9,gt 44 13,gi 45 (.bsl 45 1 none [.nul] [(0,.t 44)]),gi 46 (.app 46 2000046 (.t 43) (.t 45) 1 24),gt 9 46]
def r_Z90_11 : List GI:=[gt 27 12,gd 28 .add 27 1,gt 12 28]
def r_Z90_12 : List GI:=[gt 47 3,gt 48 47,⟨.mov 49 (.t 11),some 49,some (48,true),false⟩,⟨.un 50 UnOp.not (.t 49),some 50,some (48,true),false⟩,gi 51 (.pick 51 (.t 48) (.t 50) (.k (.v (.bool false))))]
def r_Z90_13 : List GI:=[gt 52 9,gf 53 4 1,gl 54 53,gt 55 10,ga 56 54 55 1,gl 57 56,gf 58 5 0,gl 59 58,gc 60 164 [.t 59],gc 61 163 [.t 57,.t 60],gi 62 (.bsl 62 1 none [.nul] [(0,.t 61)]),gi 63 (.app 63 2000063 (.t 52) (.t 62) 1 24),gt 9 63]
def r_Z90_14 : List GI:=[gt 20 10,gd 21 .add 20 1,gt 10 21]
def r_Z90_15 : List GI:=[gf 64 4 0,gl 65 64,gf 66 5 0,gl 67 66,gb 68 .add 65 67,gt 69 9,gc 70 98 [.t 68,.t 69],g0 (.sto 8 (.t 70) (some 2))]
def dc_Z90 : DC:=.seq (.z r_Z90_0) (.seq (.z r_Z90_1) (.seq (.seq (.z r_Z90_2) (.block 0 (.loop (.seq (.seq (.z r_Z90_3) (.cond (.t 19) .skip (.exit 0))) (.seq (.block 1 (.seq (.z r_Z90_4) (.seq (.seq (.z r_Z90_5) (.block 2 (.loop (.seq (.seq (.z r_Z90_6) (.cond (.t 26) .skip (.exit 2))) (.seq (.block 3 (.seq (.reg r_Z90_7 (some [0,1,0,7,15,0,32,0,224,480,1023,2047])) (.seq (.z r_Z90_8) (.cond (.t 42) (.seq (.z r_Z90_9) (.z r_Z90_10)) .skip)))) (.z r_Z90_11)))))) (.seq (.z r_Z90_12) (.cond (.t 51) (.reg r_Z90_13 (some [0,0,2,0,14,30,0,64,192,510,1022,2047,4095])) .skip))))) (.z r_Z90_14)))))) (.seq (.z r_Z90_15) .ret)))
theorem c_Z90 : cfun Tryz.prog [] 101 = some (71,dc_Z90,[(Res.cell 8 (some 2))]):=by kernel_rfl
def r_Z89_0 : List GI:=[gi 2 (.box 2 2000002 (.t 0) (some 2)),gi 4 (.alloc 4 2000004 [I 0,.nul])]
def r_Z89_1 : List GI:=[gi 12 (.mov 12 (.k .nul)),gt 5 12]
def r_Z89_2 : List GI:=[gi 13 (.mov 13 (.k .nul)),gt 6 13]
def r_Z89_3 : List GI:=[gk 7 0]
def r_Z89_4 : List GI:=[gt 14 7,gf 15 2 1,gl 16 15,gn 17 16,gb 18 .lss 14 17]
def r_Z89_5 : List GI:=[gf 21 2 1,gl 22 21,gt 23 7,ga 24 22 23 1,gl 25 24,gt 26 1,gc 27 165 [.t 25,.t 26],gt 8 27]
def r_Z89_6 : List GI:=[gk 9 0]
def r_Z89_7 : List GI:=[gt 28 9,gt 29 5,gn 30 29,gb 31 .lss 28 30,gt 32 31,⟨.mov 33 (.t 5),some 33,some (32,true),false⟩,⟨.mov 34 (.t 9),some 34,some (32,true),false⟩,⟨.iad 35 33 (.t 34) 1,some 35,some (32,true),false⟩,⟨.lod 36 35 none,some 36,some (32,true),false⟩,⟨.mov 37 (.t 8),some 37,some (32,true),false⟩,⟨.call 38 129 [.t 36,.t 37],some 38,some (32,true),true⟩,⟨.bin 39 .neq (.t 38) (.k (I 0)),some 39,some (32,true),false⟩,gi 40 (.pick 40 (.t 32) (.t 39) (.k (.v (.bool false))))]
def r_Z89_8 : List GI:=[gt 41 9,gd 42 .add 41 1,gt 9 42]
def r_Z89_9 : List GI:=[gt 43 9,gt 44 5,gn 45 44,gb 46 .eql 43 45]
def r_Z89_10 : List GI:=[gt 47 5,gt 48 8,gi 49 (.bsl 49 1 none [.nul] [(0,.t 48)]),gi 50 (.app 50 2000050 (.t 47) (.t 49) 1 24),gt 5 50]
def r_Z89_11 : List GI:=[gt 51 6,gi 52 (.bsl 52 1 none [I 0] [(0,.k (I 0))]),gi 53 (.app 53 2000053 (.t 51) (.t 52) 1 8),gt 6 53]
def r_Z89_12 : List GI:=[gt 54 6,gt 55 9,gt 56 6,gt 57 9,ga 58 56 57 1,gl 59 58,gd 60 .add 59 1,ga 61 54 55 1,g0 (.sto 61 (.t 60) none)]
def r_Z89_13 : List GI:=[gt 19 7,gd 20 .add 19 1,gt 7 20]
def r_Z89_14 : List GI:=[gi 62 (.mov 62 (.k .nul)),gt 10 62]
def r_Z89_15 : List GI:=[gk 11 0]
def r_Z89_16 : List GI:=[gt 63 11,gt 64 5,gn 65 64,gb 66 .lss 63 65]
def r_Z89_17 : List GI:=[gt 69 10,gt 70 5,gt 71 11,ga 72 70 71 1,gl 73 72,gt 74 6,gt 75 11,ga 76 74 75 1,gl 77 76,gi 78 (.build 78 [.v (.bool false),I 0] [(1,(none,.t 77))]),gi 79 (.bsl 79 2 (some 2) [.agg [.v (.bool false),I 0]] [(0,.t 78)]),gc 80 163 [.t 73,.t 79],gi 81 (.bsl 81 1 none [.nul] [(0,.t 80)]),gi 82 (.app 82 2000082 (.t 69) (.t 81) 1 24),gt 10 82]
def r_Z89_18 : List GI:=[gt 67 11,gd 68 .add 67 1,gt 11 68]
def r_Z89_19 : List GI:=[gt 83 1,gn 84 83,gd 85 .add 84 1,gt 86 10,gc 87 98 [.t 85,.t 86],g0 (.sto 4 (.t 87) (some 2))]
def dc_Z89 : DC:=.seq (.z r_Z89_0) (.seq (.z r_Z89_1) (.seq (.z r_Z89_2) (.seq (.seq (.z r_Z89_3) (.block 0 (.loop (.seq (.seq (.z r_Z89_4) (.cond (.t 18) .skip (.exit 0))) (.seq (.block 1 (.seq (.z r_Z89_5) (.seq (.z r_Z89_6) (.seq (.block 2 (.loop (.seq (.seq (.z r_Z89_7) (.cond (.t 40) .skip (.exit 2))) (.block 3 (.z r_Z89_8))))) (.seq (.seq (.z r_Z89_9) (.cond (.t 46) (.seq (.z r_Z89_10) (.z r_Z89_11)) .skip)) (.z r_Z89_12)))))) (.z r_Z89_13)))))) (.seq (.z r_Z89_14) (.seq (.seq (.z r_Z89_15) (.block 4 (.loop (.seq (.seq (.z r_Z89_16) (.cond (.t 66) .skip (.exit 4))) (.seq (.block 5 (.reg r_Z89_17 (some [0,0,0,6,14,0,0,96,224,480,992,2046,4094,8191,16383]))) (.z r_Z89_18)))))) (.seq (.z r_Z89_19) .ret))))))
theorem c_Z89 : cfun Tryz.prog [] 104 = some (88,dc_Z89,[(Res.cell 4 (some 2))]):=by kernel_rfl
def r_Z128_0 : List GI:=[gi 4 (.mov 4 (.k .nul))]
def r_Z128_1 : List GI:=[gi 7 (.mov 7 (.k .nul)),gt 5 7]
def r_Z128_2 : List GI:=[gk 6 0]
def r_Z128_3 : List GI:=[gt 8 6,gt 9 1,gn 10 9,gb 11 .lss 8 10]
def r_Z128_4 : List GI:=[gt 14 5,gt 15 0,gt 16 1,gt 17 6,ga 18 16 17 1,gl 19 18,ga 20 15 19 2,gs 21 20 2,gi 22 (.bsl 22 2 (some 2) [.agg [.v (.bool false),I 0]] [(0,.t 21)]),gi 23 (.app 23 2000023 (.t 14) (.t 22) 2 16),gt 5 23]
def r_Z128_5 : List GI:=[gt 12 6,gd 13 .add 12 1,gt 6 13]
def r_Z128_6 : List GI:=[gt 24 5,gt 4 24]
def dc_Z128 : DC:=.seq (.z r_Z128_0) (.seq (.z r_Z128_1) (.seq (.seq (.z r_Z128_2) (.block 0 (.loop (.seq (.seq (.z r_Z128_3) (.cond (.t 11) .skip (.exit 0))) (.seq (.block 1 (.z r_Z128_4)) (.z r_Z128_5)))))) (.seq (.z r_Z128_6) .ret)))
theorem c_Z128 : cfun Tryz.prog [] 165 = some (25,dc_Z128,[(Res.tmp 4)]):=by kernel_rfl
def r_Z53_0 : List GI:=[gi 1 (.box 1 2000001 (.t 0) none),gi 2 (.mov 2 (.k (.v .nilFunc)))]
def r_Z53_1 : List GI:=[gi 3 (.mkf 3 191 [.t 1]),gt 2 3]
def dc_Z53 : DC:=.seq (.z r_Z53_0) (.seq (.z r_Z53_1) .ret)
theorem c_Z53 : cfun Tryz.prog [] 154 = some (4,dc_Z53,[(Res.tmp 2)]):=by kernel_rfl
def r_Z40_0 : List GI:=[gi 2 (.box 2 2000002 (.t 0) none)]
def r_Z40_1 : List GI:=[gl 4 1,⟨.call 5 193 [.t 4,.k (.fn 96 [])],some 5,none,true⟩,⟨.call 6 192 [.t 5,.k (.fn 96 [])],some 6,none,true⟩]
def r_Z40_2 : List GI:=[gt 3 7]
def r_Z40_3 : List GI:=[gl 8 2,gt 9 3,gi 10 (.iad 10 9 (.k (I 0)) 1),gl 11 10,⟨.cal 12 (.t 8) [.t 11],some 12,none,true⟩,gi 13 (.un 13 UnOp.not (.t 12))]
def dc_Z40 : DC:=.seq (.z r_Z40_0) (.seq (.z r_Z40_1) (.block 0 (.rng (.t 6) [7] (.z r_Z40_2) (.block 1 (.seq (.reg r_Z40_3 (some [0,0,2,6,15,31])) (.cond (.t 13) .ret .skip))))))
theorem c_Z40 : cfun Tryz.prog [] 191 = some (14,dc_Z40,[]):=by kernel_rfl
def r_Z3_0 : List GI:=[gi 2 (.mov 2 (.k .nul))]
def r_Z3_1 : List GI:=[gk 3 0]
def r_Z3_2 : List GI:=[gt 9 0,gn 10 9,gk 11 0]
def r_Z3_3 : List GI:=[gb 12 .lss 11 10]
def r_Z3_4 : List GI:=[ga 13 9 11 1,gl 14 13,gt 5 14]
def r_Z3_5 : List GI:=[gt 15 3,gt 16 5,gn 17 16,gb 18 .add 15 17,gt 3 18]
def r_Z3_6 : List GI:=[gt 19 3,gd 20 .lss 19 0]
def r_Z3_7 : List GI:=[gd 22 .add 11 1,gt 11 22]
def r_Z3_8 : List GI:=[gt 23 3,gc 24 190 [.k .nul,.t 23],gt 6 24]
def r_Z3_9 : List GI:=[gt 25 0,gn 26 25,gk 27 0]
def r_Z3_10 : List GI:=[gb 28 .lss 27 26]
def r_Z3_11 : List GI:=[ga 29 25 27 1,gl 30 29,gt 8 30]
def r_Z3_12 : List GI:=[gt 31 6,gt 32 8,gi 33 (.app 33 2000033 (.t 31) (.t 32) 1 24),gt 6 33]
def r_Z3_13 : List GI:=[gd 34 .add 27 1,gt 27 34]
def r_Z3_14 : List GI:=[gt 35 6,gt 2 35]
def dc_Z3 : DC:=.seq (.z r_Z3_0) (.seq (.z r_Z3_1) (.seq (.seq (.z r_Z3_2) (.block 0 (.loop (.seq (.z r_Z3_3) (.seq (.cond (.t 12) .skip (.exit 0)) (.seq (.block 1 (.seq (.z r_Z3_4) (.seq (.z r_Z3_5) (.seq (.z r_Z3_6) (.cond (.t 20) .no .skip))))) (.z r_Z3_7))))))) (.seq (.z r_Z3_8) (.seq (.seq (.z r_Z3_9) (.block 2 (.loop (.seq (.z r_Z3_10) (.seq (.cond (.t 28) .skip (.exit 2)) (.seq (.block 3 (.seq (.z r_Z3_11) (.z r_Z3_12))) (.z r_Z3_13))))))) (.seq (.z r_Z3_14) .ret)))))
theorem c_Z3 : cfun Tryz.prog [] 153 = some (36,dc_Z3,[(Res.tmp 2)]):=by kernel_rfl
def r_Z5_0 : List GI:=[gi 4 (.mov 4 (.k .nul))]
def r_Z5_1 : List GI:=[gt 5 1,gd 6 .lss 5 0]
def r_Z5_2 : List GI:=[gt 8 1,gt 9 0,gi 10 (.capn 10 (.t 9)),gt 11 0,gn 12 11,gb 13 .sub 10 12,gb 14 .sub 8 13,gt 1 14]
def r_Z5_3 : List GI:=[gt 15 1,gd 16 .gtr 15 0]
def r_Z5_4 : List GI:=[gt 17 0,gt 18 0,gi 19 (.capn 19 (.t 18)),gi 20 (.slc 20 (.t 17) none (some (.t 19)) 1),gt 21 1,gi 22 (.apm 22 2000022 (.t 20) (.t 21) 1 24 .nul),gt 23 0,gn 24 23,gi 25 (.slc 25 (.t 22) none (some (.t 24)) 1),gt 0 25]
def r_Z5_5 : List GI:=[gt 26 0,gt 4 26]
def dc_Z5 : DC:=.seq (.z r_Z5_0) (.seq (.seq (.z r_Z5_1) (.cond (.t 6) .no .skip)) (.seq (.seq (.z r_Z5_2) (.seq (.z r_Z5_3) (.cond (.t 16) (.z r_Z5_4) .skip))) (.seq (.z r_Z5_5) .ret)))
theorem c_Z5 : cfun Tryz.prog [] 190 = some (27,dc_Z5,[(Res.tmp 4)]):=by kernel_rfl
def r_Z39_0 : List GI:=[gk 6 0]
def r_Z39_1 : List GI:=[gt 10 2,gn 11 10,gk 12 0]
def r_Z39_2 : List GI:=[gb 13 .lss 12 11]
def r_Z39_3 : List GI:=[ga 14 10 12 1,gl 15 14,gt 8 15]
def r_Z39_4 : List GI:=[gt 16 0,gt 17 8,ga 18 16 17 2,gs 19 18 2,gt 20 1,gt 21 8,ga 22 20 21 2,gs 23 22 2,gc 24 159 [.t 19,.t 23],gt 9 24]
def r_Z39_5 : List GI:=[gt 25 9,gd 26 .neq 25 0]
def r_Z39_6 : List GI:=[gt 27 9,gt 6 27]
def r_Z39_7 : List GI:=[gd 28 .add 12 1,gt 12 28]
def r_Z39_8 : List GI:=[gk 6 0]
def dc_Z39 : DC:=.seq (.z r_Z39_0) (.seq (.seq (.z r_Z39_1) (.block 0 (.loop (.seq (.z r_Z39_2) (.seq (.cond (.t 13) .skip (.exit 0)) (.seq (.block 1 (.seq (.z r_Z39_3) (.seq (.reg r_Z39_4 (some [0,0,3,7,0,0,48,112,255,511])) (.seq (.z r_Z39_5) (.cond (.t 26) (.seq (.z r_Z39_6) .ret) .skip))))) (.z r_Z39_7))))))) (.seq (.z r_Z39_8) .ret))
theorem c_Z39 : cfun Tryz.prog [] 195 = some (29,dc_Z39,[(Res.tmp 6)]):=by kernel_rfl
def r_Z70_0 : List GI:=[gi 3 (.box 3 2000003 (.t 0) none),gi 4 (.box 4 2000004 (.t 1) none),gi 5 (.box 5 2000005 (.t 2) none),gi 6 (.mov 6 (.k (.v .nilFunc)))]
def r_Z70_1 : List GI:=[gi 8 (.mkf 8 194 [.t 4]),gi 7 (.alloc 7 2000007 [.v .nilFunc]),g0 (.sto 7 (.t 8) none)]
def r_Z70_2 : List GI:=[gi 9 (.mkf 9 196 [.t 3,.t 7,.t 4,.t 5]),gt 6 9]
def dc_Z70 : DC:=.seq (.z r_Z70_0) (.seq (.z r_Z70_1) (.seq (.z r_Z70_2) .ret))
theorem c_Z70 : cfun Tryz.prog [] 155 = some (10,dc_Z70,[(Res.tmp 6)]):=by kernel_rfl
def r_Z46_0 : List GI:=[gk 5 0]
def r_Z46_1 : List GI:=[gt 6 0,gt 7 1,gl 8 2,gc 9 195 [.t 6,.t 7,.t 8],gt 5 9]
def dc_Z46 : DC:=.seq (.z r_Z46_0) (.seq (.z r_Z46_1) .ret)
theorem c_Z46 : cfun Tryz.prog [] 194 = some (10,dc_Z46,[(Res.tmp 5)]):=by kernel_rfl
def r_Z47_0 : List GI:=[gi 5 (.box 5 2000005 (.t 0) none)]
def r_Z47_1 : List GI:=[gl 10 1,gl 11 2,gc 12 193 [.t 10,.t 11],gl 13 2,gc 14 192 [.t 12,.t 13]]
def r_Z47_2 : List GI:=[gt 6 15]
def r_Z47_3 : List GI:=[gi 7 (.mov 7 (.k .nul))]
def r_Z47_4 : List GI:=[gl 16 3,gn 17 16,gk 18 0]
def r_Z47_5 : List GI:=[gb 19 .lss 18 17]
def r_Z47_6 : List GI:=[ga 20 16 18 1,gl 21 20,gt 9 21]
def r_Z47_7 : List GI:=[gt 22 7,gt 23 6,gi 24 (.iad 24 23 (.k (I 0)) 1),gl 25 24,gt 26 9,ga 27 25 26 2,gs 28 27 2,gi 29 (.bsl 29 2 (some 2) [.agg [.v (.bool false),I 0]] [(0,.t 28)]),gi 30 (.app 30 2000030 (.t 22) (.t 29) 2 16),gt 7 30]
def r_Z47_8 : List GI:=[gd 31 .add 18 1,gt 18 31]
def r_Z47_9 : List GI:=[gl 32 5,gt 33 7,gl 34 4,gt 35 6,⟨.cal 36 (.t 34) [.t 35],some 36,none,true⟩,gi 37 (.bsl 37 2 (some 2) [.agg [.v (.bool false),I 0]] [(0,.t 36)]),gi 38 (.app 38 2000038 (.t 33) (.t 37) 2 16),⟨.cal 39 (.t 32) [.t 38],some 39,none,true⟩,gi 40 (.un 40 UnOp.not (.t 39))]
def dc_Z47 : DC:=.seq (.z r_Z47_0) (.seq (.reg r_Z47_1 (some [0,0,3,0,15])) (.block 0 (.rng (.t 14) [15] (.z r_Z47_2) (.block 1 (.seq (.z r_Z47_3) (.seq (.seq (.z r_Z47_4) (.block 2 (.loop (.seq (.z r_Z47_5) (.seq (.cond (.t 19) .skip (.exit 2)) (.seq (.block 3 (.seq (.z r_Z47_6) (.z r_Z47_7))) (.z r_Z47_8))))))) (.seq (.reg r_Z47_9 (some [0,0,0,0,12,28,62,127,255])) (.cond (.t 40) .ret .skip))))))))
theorem c_Z47 : cfun Tryz.prog [] 196 = some (41,dc_Z47,[]):=by kernel_rfl
def r_Z58_0 : List GI:=[gi 2 (.alloc 2 2000002 [.v (.bool false),I 0])]
def r_Z58_1 : List GI:=[gt 3 0,gn 4 3,gi 5 (.build 5 [.v (.bool false),I 0] [(1,(none,.t 4))]),g0 (.sto 2 (.t 5) (some 2))]
def dc_Z58 : DC:=.seq (.z r_Z58_0) (.seq (.z r_Z58_1) .ret)
theorem c_Z58 : cfun Tryz.prog [] 156 = some (6,dc_Z58,[(Res.cell 2 (some 2))]):=by kernel_rfl
def r_Z133_0 : List GI:=[gi 2 (.mov 2 (.k .nul))]
def r_Z133_1 : List GI:=[gi 3 (.build 3 [.v (.bool false),I 0] [(0,(none,.k (.v (.bool true))))]),gi 4 (.bsl 4 2 (some 2) [.agg [.v (.bool false),I 0]] [(0,.t 3)]),gt 5 0,gc 6 221 [.t 4,.t 5],gt 2 6]
def dc_Z133 : DC:=.seq (.z r_Z133_0) (.seq (.z r_Z133_1) .ret)
theorem c_Z133 : cfun Tryz.prog [] 187 = some (7,dc_Z133,[(Res.tmp 2)]):=by kernel_rfl
def r_Z122_0 : List GI:=[gi 4 (.mov 4 (.k (.v (.int .u64 0)))),gi 5 (.mov 5 (.k (.v (.int .u64 0))))]
def r_Z122_1 : List GI:=[gt 11 0,gi 12 (.cvt 12 .u32 (.t 11)),gt 13 1,gi 14 (.cvt 14 .u32 (.t 13)),gc 15 243 [.t 12,.t 14],gt 10 15,gi 16 (.ext 16 10 0),gi 17 (.ext 17 10 1),gt 6 16,gt 7 17]
def r_Z122_2 : List GI:=[gt 18 6,gi 19 (.cvt 19 .u64 (.t 18)),gt 20 7,gi 21 (.cvt 21 .u64 (.t 20)),gt 4 19,gt 5 21]
def r_Z122_3 : List GI:=[gt 23 0,gt 24 1,gc 25 244 [.t 23,.t 24],gt 22 25,gi 26 (.ext 26 22 0),gi 27 (.ext 27 22 1),gt 8 26,gt 9 27]
def r_Z122_4 : List GI:=[gt 28 8,gt 29 9,gt 4 28,gt 5 29]
def dc_Z122 : DC:=.seq (.z r_Z122_0) (.seq (.cond (.k (.v (.bool false))) (.seq (.z r_Z122_1) (.seq (.z r_Z122_2) .ret)) .skip) (.seq (.z r_Z122_3) (.seq (.z r_Z122_4) .ret)))
theorem c_Z122 : cfun Tryz.prog [] 237 = some (30,dc_Z122,[(Res.tmp 4),(Res.tmp 5)]):=by kernel_rfl
end
end Go.Proofs.YtjngffbghkafaaaGreat
