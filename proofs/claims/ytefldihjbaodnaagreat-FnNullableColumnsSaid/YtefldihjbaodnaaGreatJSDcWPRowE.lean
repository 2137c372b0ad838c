/-
  Functions of the program read as code on plain data. Closed facts of the program alone.
-/
import Derived.KernelRfl
import Derived.Test.YtefldihjbaodnaaGreatRows
import Derived.Test.YtefldihjbaodnaaGreatJSVGo
import Derived.Test.YtefldihjbaodnaaGreatJSVTbD
namespace Go.Proofs.YtefldihjbaodnaaGreat
open Go.RowKit
noncomputable section
def r_Z1_0 : List GI:=[gi 2 (.box 2 2000002 (.t 0) none),gi 4 (.mov 4 (.k .nul))]
def r_Z1_1 : List GI:=[gt 6 1]
def r_Z1_2 : List GI:=[gt 5 7]
def r_Z1_3 : List GI:=[gl 8 2,gt 9 5,gi 10 (.bsl 10 1 none [.nul] [(0,.t 9)]),gi 11 (.app 11 2000011 (.t 8) (.t 10) 1 24),g0 (.sto 2 (.t 11) none)]
def r_Z1_4 : List GI:=[gl 12 2,gt 4 12]
def dc_Z1 : DC:=.seq (.z r_Z1_0) (.seq (.seq (.z r_Z1_1) (.block 0 (.rng (.t 6) [7] (.z r_Z1_2) (.block 1 (.z r_Z1_3))))) (.seq (.z r_Z1_4) .ret))
theorem c_Z1 : cfun Tryz.prog [] 223 = some (13,dc_Z1,[(Res.tmp 4)]):=by kernel_rfl
def r_Z15_0 : List GI:=[gi 2 (.mov 2 (.k .nul))]
def r_Z15_1 : List GI:=[gt 3 0,gc 4 223 [.k .nul,.t 3],gt 2 4]
def dc_Z15 : DC:=.seq (.z r_Z15_0) (.seq (.z r_Z15_1) .ret)
theorem c_Z15 : cfun Tryz.prog [] 219 = some (5,dc_Z15,[(Res.tmp 2)]):=by kernel_rfl
def r_Z4_0 : List GI:=[gi 1 (.box 1 2000001 (.t 0) none),gi 2 (.mov 2 (.k (.v .nilFunc)))]
def r_Z4_1 : List GI:=[gi 3 (.mkf 3 164 [.t 1]),gt 2 3]
def dc_Z4 : DC:=.seq (.z r_Z4_0) (.seq (.z r_Z4_1) .ret)
theorem c_Z4 : cfun Tryz.prog [] 118 = some (4,dc_Z4,[(Res.tmp 2)]):=by kernel_rfl
def r_Z2_0 : List GI:=[gl 5 1,gn 6 5,gk 7 0]
def r_Z2_1 : List GI:=[gb 8 .lss 7 6]
def r_Z2_2 : List GI:=[ga 9 5 7 1,gl 10 9,gt 4 10]
def r_Z2_3 : List GI:=[gt 11 0,gt 12 4,⟨.cal 13 (.t 11) [.t 12],some 13,none,true⟩,gi 14 (.un 14 UnOp.not (.t 13))]
def r_Z2_4 : List GI:=[gd 15 .add 7 1,gt 7 15]
def dc_Z2 : DC:=.seq (.z r_Z2_0) (.block 0 (.loop (.seq (.z r_Z2_1) (.seq (.cond (.t 8) .skip (.exit 0)) (.seq (.block 1 (.seq (.z r_Z2_2) (.seq (.z r_Z2_3) (.cond (.t 14) .ret .skip)))) (.z r_Z2_4))))))
theorem c_Z2 : cfun Tryz.prog [] 164 = some (16,dc_Z2,[]):=by kernel_rfl
def r_Z12_0 : List GI:=[gi 2 (.box 2 2000002 (.t 0) none),gi 3 (.box 3 2000003 (.t 1) none),gi 4 (.mov 4 (.k .nul))]
def r_Z12_1 : List GI:=[gl 8 2,gi 9 (.nilc 9 8),gf 10 9 0,gl 11 10,gi 12 (.mkf 12 217 [.t 2,.t 3]),gc 13 216 [.t 11,.t 12],gt 5 13]
def r_Z12_2 : List GI:=[gl 14 2,gi 15 (.nilc 15 14),gf 16 15 0,gl 17 16,gt 18 5,gi 19 (.slc 19 (.t 17) (some (.t 18)) none 1),gt 6 19]
def r_Z12_3 : List GI:=[gt 20 6,gi 21 (.mkf 21 218 [.t 2,.t 3]),gc 22 216 [.t 20,.t 21],gt 7 22]
def r_Z12_4 : List GI:=[gl 23 2,gt 24 6,gt 25 7,gi 26 (.slc 26 (.t 24) (some (.t 25)) none 1),gi 27 (.nilc 27 23),gf 28 27 0,g0 (.sto 28 (.t 26) none)]
def r_Z12_5 : List GI:=[gt 29 6,gt 30 7,gi 31 (.slc 31 (.t 29) none (some (.t 30)) 1),gt 4 31]
def dc_Z12 : DC:=.seq (.z r_Z12_0) (.seq (.z r_Z12_1) (.seq (.z r_Z12_2) (.seq (.z r_Z12_3) (.seq (.reg r_Z12_4 (some [0,0,0,6,15,31,63])) (.seq (.z r_Z12_5) .ret)))))
theorem c_Z12 : cfun Tryz.prog [] 201 = some (32,dc_Z12,[(Res.tmp 4)]):=by kernel_rfl
def r_Z10_0 : List GI:=[gi 4 (.mov 4 (.k (.v (.bool false))))]
def r_Z10_1 : List GI:=[gl 5 1,gi 6 (.nilc 6 5),gf 7 6 1,gl 8 7,gt 9 0,gl 10 2,⟨.cal 11 (.t 8) [.t 9,.t 10],some 11,none,true⟩,gd 12 .geq 11 0,gt 4 12]
def dc_Z10 : DC:=.seq (.z r_Z10_0) (.seq (.reg r_Z10_1 (some [0,1,3,7,0,0,63,127,255])) .ret)
theorem c_Z10 : cfun Tryz.prog [] 217 = some (13,dc_Z10,[(Res.tmp 4)]):=by kernel_rfl
def r_Z11_0 : List GI:=[gi 4 (.mov 4 (.k (.v (.bool false))))]
def r_Z11_1 : List GI:=[gl 5 1,gi 6 (.nilc 6 5),gf 7 6 1,gl 8 7,gt 9 0,gl 10 2,⟨.cal 11 (.t 8) [.t 9,.t 10],some 11,none,true⟩,gd 12 .gtr 11 0,gt 4 12]
def dc_Z11 : DC:=.seq (.z r_Z11_0) (.seq (.reg r_Z11_1 (some [0,1,3,7,0,0,63,127,255])) .ret)
theorem c_Z11 : cfun Tryz.prog [] 218 = some (13,dc_Z11,[(Res.tmp 4)]):=by kernel_rfl
def r_Z18_0 : List GI:=[gi 2 (.box 2 2000002 (.t 0) none),gi 3 (.box 3 2000003 (.t 1) none),gi 4 (.mov 4 (.k (.v .nilFunc)))]
def r_Z18_1 : List GI:=[gi 5 (.mkf 5 200 [.t 2,.t 3]),gt 4 5]
def dc_Z18 : DC:=.seq (.z r_Z18_0) (.seq (.z r_Z18_1) .ret)
theorem c_Z18 : cfun Tryz.prog [] 167 = some (6,dc_Z18,[(Res.tmp 4)]):=by kernel_rfl
def r_Z16_0 : List GI:=[gl 5 1,gl 6 2,gi 7 (.build 7 [.nul,.v .nilFunc] [(0,(none,.t 5)),(1,(none,.t 6))]),gi 4 (.alloc 4 2000004 [.nul,.v .nilFunc]),g0 (.sto 4 (.t 7) (some 2))]
def r_Z16_1 : List GI:=[gf 8 4 0,gl 9 8,gn 10 9,gd 11 .gtr 10 0]
def r_Z16_2 : List GI:=[gt 12 0,gf 13 4 0,gl 14 13,gi 15 (.iad 15 14 (.k (I 0)) 1),gl 16 15,gc 17 201 [.t 4,.t 16],⟨.cal 18 (.t 12) [.t 17],some 18,none,true⟩,gi 19 (.un 19 UnOp.not (.t 18))]
def dc_Z16 : DC:=.seq (.z r_Z16_0) (.block 0 (.loop (.seq (.seq (.z r_Z16_1) (.cond (.t 11) .skip (.exit 0))) (.block 1 (.seq (.z r_Z16_2) (.cond (.t 19) .ret .skip))))))
theorem c_Z16 : cfun Tryz.prog [] 200 = some (20,dc_Z16,[]):=by kernel_rfl
def r_Z14_0 : List GI:=[gk 4 0]
def r_Z14_1 : List GI:=[gt 8 0,gn 9 8,gk 5 0,gt 6 9]
def r_Z14_2 : List GI:=[gt 10 5,gt 11 6,gb 12 .lss 10 11]
def r_Z14_3 : List GI:=[gt 13 5,gt 14 6,gb 15 .add 13 14,gd 16 .quo 15 2,gt 7 16]
def r_Z14_4 : List GI:=[gt 17 1,gt 18 0,gt 19 7,ga 20 18 19 1,gl 21 20,⟨.cal 22 (.t 17) [.t 21],some 22,none,true⟩]
def r_Z14_5 : List GI:=[gt 23 7,gt 6 23]
def r_Z14_6 : List GI:=[gt 24 7,gd 25 .add 24 1,gt 5 25]
def r_Z14_7 : List GI:=[gt 26 5,gt 4 26]
def dc_Z14 : DC:=.seq (.z r_Z14_0) (.seq (.z r_Z14_1) (.seq (.block 0 (.loop (.seq (.seq (.z r_Z14_2) (.cond (.t 12) .skip (.exit 0))) (.block 1 (.seq (.z r_Z14_3) (.seq (.z r_Z14_4) (.cond (.t 22) (.z r_Z14_5) (.z r_Z14_6)))))))) (.seq (.z r_Z14_7) .ret)))
theorem c_Z14 : cfun Tryz.prog [] 216 = some (27,dc_Z14,[(Res.tmp 4)]):=by kernel_rfl
def r_Z122_0 : List GI:=[gi 4 (.mov 4 (.k .nul))]
def r_Z122_1 : List GI:=[gt 5 0,gc 6 118 [.t 5],gt 7 1,gc 8 202 [.t 6,.t 7],gt 4 8]
def dc_Z122 : DC:=.seq (.z r_Z122_0) (.seq (.z r_Z122_1) .ret)
theorem c_Z122 : cfun Tryz.prog [] 168 = some (9,dc_Z122,[(Res.tmp 4)]):=by kernel_rfl
def r_Z13_0 : List GI:=[gi 4 (.mov 4 (.k .nul))]
def r_Z13_1 : List GI:=[gt 6 0,gc 7 219 [.t 6],gt 5 7]
def r_Z13_2 : List GI:=[gt 8 5,gt 9 1,gc 10 68 [.t 8,.t 9]]
def r_Z13_3 : List GI:=[gt 11 5,gt 4 11]
def dc_Z13 : DC:=.seq (.z r_Z13_0) (.seq (.z r_Z13_1) (.seq (.z r_Z13_2) (.seq (.z r_Z13_3) .ret)))
theorem c_Z13 : cfun Tryz.prog [] 202 = some (12,dc_Z13,[(Res.tmp 4)]):=by kernel_rfl
def r_Z95_0 : List GI:=[gi 2 (.mov 2 (.k .nul))]
def r_Z95_1 : List GI:=[gt 3 0,gc 4 111 [.t 3],gc 5 110 [.t 4],gt 2 5]
def dc_Z95 : DC:=.seq (.z r_Z95_0) (.seq (.z r_Z95_1) .ret)
theorem c_Z95 : cfun Tryz.prog [] 66 = some (6,dc_Z95,[(Res.tmp 2)]):=by kernel_rfl
def r_Z136_0 : List GI:=[gi 2 (.mov 2 (.k .nul))]
def r_Z136_1 : List GI:=[gi 3 (.alloc 3 2000003 [.nul])]
def r_Z136_2 : List GI:=[gt 5 0]
def r_Z136_3 : List GI:=[gt 4 6]
def r_Z136_4 : List GI:=[gl 7 3,gt 8 4,gi 9 (.bsl 9 1 none [.nul] [(0,.t 8)]),gi 10 (.app 10 2000010 (.t 7) (.t 9) 1 24),g0 (.sto 3 (.t 10) none)]
def r_Z136_5 : List GI:=[gl 11 3,gn 12 11,gd 13 .gtr 12 400]
def r_Z136_6 : List GI:=[gl 14 3,gt 2 14]
def dc_Z136 : DC:=.seq (.z r_Z136_0) (.seq (.z r_Z136_1) (.seq (.seq (.z r_Z136_2) (.block 0 (.rng (.t 5) [6] (.z r_Z136_3) (.block 1 (.seq (.z r_Z136_4) (.seq (.z r_Z136_5) (.cond (.t 13) (.exit 0) .skip))))))) (.seq (.z r_Z136_6) .ret)))
theorem c_Z136 : cfun Tryz.prog [] 111 = some (15,dc_Z136,[(Res.tmp 2)]):=by kernel_rfl
def r_Z121_0 : List GI:=[gi 2 (.mov 2 (.k .nul))]
def r_Z121_1 : List GI:=[gt 3 0,gn 4 3,gd 5 .gtr 4 400]
def r_Z121_2 : List GI:=[gi 2 (.mov 2 (.k .nul))]
def r_Z121_3 : List GI:=[gt 6 0,gt 2 6]
def dc_Z121 : DC:=.seq (.z r_Z121_0) (.seq (.seq (.z r_Z121_1) (.cond (.t 5) (.seq (.z r_Z121_2) .ret) .skip)) (.seq (.z r_Z121_3) .ret))
theorem c_Z121 : cfun Tryz.prog [] 110 = some (7,dc_Z121,[(Res.tmp 2)]):=by kernel_rfl
def r_Z147_0 : List GI:=[gi 2 (.mov 2 (.k (.v (.pointer none))))]
def r_Z147_1 : List GI:=[gt 3 0,gn 4 3,gd 5 .gtr 4 2000]
def r_Z147_2 : List GI:=[gt 6 0,gi 7 (.slc 7 (.t 6) none (some (.k (I 2000))) 1),gt 0 7]
def r_Z147_3 : List GI:=[gt 8 0,gi 9 (.build 9 [.nul,I 0] [(0,(none,.t 8))]),gi 10 (.box 10 2000010 (.t 9) (some 2)),gt 2 10]
def dc_Z147 : DC:=.seq (.z r_Z147_0) (.seq (.seq (.z r_Z147_1) (.cond (.t 5) (.z r_Z147_2) .skip)) (.seq (.z r_Z147_3) .ret))
theorem c_Z147 : cfun Tryz.prog [] 25 = some (11,dc_Z147,[(Res.tmp 2)]):=by kernel_rfl
def r_Z111_0 : List GI:=[gk 4 0]
def r_Z111_1 : List GI:=[gt 5 1,gt 6 0,gt 7 1,gn 8 7,gc 9 60 [.t 6,.t 8],ga 10 5 9 1,gl 11 10,gt 4 11]
def dc_Z111 : DC:=.seq (.z r_Z111_0) (.seq (.z r_Z111_1) .ret)
theorem c_Z111 : cfun Tryz.prog [] 99 = some (12,dc_Z111,[(Res.tmp 4)]):=by kernel_rfl
def r_Z88_0 : List GI:=[gk 4 0]
def r_Z88_1 : List GI:=[gt 7 0,gt 8 0,gi 9 (.nilc 9 8),gf 10 9 1,gl 11 10,gd 12 .add 11 1,gi 13 (.nilc 13 7),gf 14 13 1,g0 (.sto 14 (.t 12) none)]
def r_Z88_2 : List GI:=[gt 15 1,gd 16 .lss 15 1,gt 17 16,⟨.mov 18 (.t 0),some 18,some (17,false),false⟩,⟨.nilc 19 18,some 19,some (17,false),false⟩,⟨.fad 20 19 0,some 20,some (17,false),false⟩,⟨.lod 21 20 none,some 21,some (17,false),false⟩,⟨.len 22 (.t 21),some 22,some (17,false),false⟩,⟨.bin 23 .eql (.t 22) (.k (I 0)),some 23,some (17,false),false⟩,gi 24 (.pick 24 (.t 17) (.k (.v (.bool true))) (.t 23))]
def r_Z88_3 : List GI:=[gk 4 0]
def r_Z88_4 : List GI:=[gt 25 0,gi 26 (.nilc 26 25),gf 27 26 1,gl 28 27,gd 29 .sub 28 1,gt 5 29]
def r_Z88_5 : List GI:=[gt 30 5,gt 31 0,gi 32 (.nilc 32 31),gf 33 32 0,gl 34 33,gn 35 34,gb 36 .lss 30 35]
def r_Z88_6 : List GI:=[gt 37 0,gi 38 (.nilc 38 37),gf 39 38 0,gl 40 39,gt 41 5,ga 42 40 41 1,gl 43 42,gi 44 (.cvt 44 .i64 (.t 43)),gt 45 1,gb 46 .rem 44 45,gt 4 46]
def r_Z88_7 : List GI:=[gt 47 0,gi 48 (.nilc 48 47),gf 49 48 0,gl 50 49,gt 51 5,gt 52 0,gi 53 (.nilc 53 52),gf 54 53 0,gl 55 54,gn 56 55,gb 57 .rem 51 56,ga 58 50 57 1,gl 59 58,gi 60 (.cvt 60 .i64 (.t 59)),gd 61 .mul 60 131,gt 62 0,gi 63 (.nilc 63 62),gf 64 63 0,gl 65 64,gt 66 5,gd 67 .mul 66 7,gd 68 .add 67 3,gt 69 0,gi 70 (.nilc 70 69),gf 71 70 0,gl 72 71,gn 73 72,gb 74 .rem 68 73,ga 75 65 74 1,gl 76 75,gi 77 (.cvt 77 .i64 (.t 76)),gd 78 .mul 77 1117,gb 79 .add 61 78,gt 80 5,gd 81 .mul 80 29,gb 82 .add 79 81,gt 83 5,gt 84 0,gi 85 (.nilc 85 84),gf 86 85 0,gl 87 86,gn 88 87,gb 89 .quo 83 88,gd 90 .mul 89 53,gb 91 .add 82 90,gt 6 91]
def r_Z88_8 : List GI:=[gt 92 6,gt 93 6,gd 94 .quo 93 64,gb 95 .xor 92 94,gt 6 95]
def r_Z88_9 : List GI:=[gt 96 6,gt 97 1,gb 98 .rem 96 97,gt 4 98]
def dc_Z88 : DC:=.seq (.z r_Z88_0) (.seq (.z r_Z88_1) (.seq (.seq (.z r_Z88_2) (.cond (.t 24) (.seq (.z r_Z88_3) .ret) .skip)) (.seq (.z r_Z88_4) (.seq (.seq (.z r_Z88_5) (.cond (.t 36) (.seq (.z r_Z88_6) .ret) .skip)) (.seq (.reg r_Z88_7 (some [0,1,3,7,0,0,32,96,224,480,1008,2047,4095,8191,16383,0,32768,98304,229376,0,524288,1572864,0,4194304,12582912,29360128,62914560,133693440,268402688,536838144,1073709056,2147450880,4294967295,0,8589934592,34359738367,0,0,137438953472,412316860416,962072674304,2061584302080,4329327034368,8727373545472,17592186044415,35184372088831])) (.seq (.z r_Z88_8) (.seq (.z r_Z88_9) .ret)))))))
theorem c_Z88 : cfun Tryz.prog [] 60 = some (99,dc_Z88,[(Res.tmp 4)]):=by kernel_rfl
def r_Z192_0 : List GI:=[gi 4 (.mov 4 (.k .nul))]
def r_Z192_1 : List GI:=[gt 6 0,gt 7 1,gc 8 150 [.t 6,.t 7],gt 5 8]
def r_Z192_2 : List GI:=[gt 9 0,gc 10 60 [.t 9,.k (I 18)]]
def r_Z192_3 : List GI:=[gd 12 .eql 10 0,gt 11 12]
def r_Z192_4 : List GI:=[gi 13 (.mov 13 (.k .nul)),gt 4 13]
def r_Z192_5 : List GI:=[gd 15 .eql 10 1,gt 14 15]
def r_Z192_6 : List GI:=[gt 16 0,gc 17 150 [.t 16,.k (I 7)],gt 4 17]
def r_Z192_7 : List GI:=[gd 19 .eql 10 2,gt 18 19]
def r_Z192_8 : List GI:=[gt 20 5,gt 21 0,gt 22 5,gn 23 22,gc 24 60 [.t 21,.t 23],gt 25 0,gc 26 149 [.t 25],ga 27 20 24 2,g0 (.sto 27 (.t 26) (some 2))]
def r_Z192_9 : List GI:=[gt 28 5,gt 4 28]
def dc_Z192 : DC:=.seq (.z r_Z192_0) (.seq (.z r_Z192_1) (.seq (.seq (.z r_Z192_2) (.block 0 (.seq (.z r_Z192_3) (.cond (.t 11) (.seq (.z r_Z192_4) .ret) (.seq (.z r_Z192_5) (.cond (.t 14) (.seq (.z r_Z192_6) .ret) (.seq (.z r_Z192_7) (.cond (.t 18) (.z r_Z192_8) .skip)))))))) (.seq (.z r_Z192_9) .ret)))
theorem c_Z192 : cfun Tryz.prog [] 103 = some (29,dc_Z192,[(Res.tmp 4)]):=by kernel_rfl
def r_Z167_0 : List GI:=[gi 2 (.alloc 2 2000002 [.v (.bool false),I 0])]
def r_Z167_1 : List GI:=[gt 4 0,gc 5 194 [.t 4],gi 3 (.alloc 3 2000003 [.v (.bool false),I 0]),g0 (.sto 3 (.t 5) (some 2))]
def r_Z167_2 : List GI:=[gt 6 0,gc 7 60 [.t 6,.k (I 14)]]
def r_Z167_3 : List GI:=[gd 9 .eql 7 0,gt 8 9]
def r_Z167_4 : List GI:=[gi 10 (.build 10 [.v (.bool false),I 0] [(0,(none,.k (.v (.bool true)))),(1,(none,.k (I 1)))]),g0 (.sto 2 (.t 10) (some 2))]
def r_Z167_5 : List GI:=[gd 12 .eql 7 1,gt 11 12]
def r_Z167_6 : List GI:=[gt 13 0,gi 14 (.bsl 14 1 none [I 0,I 0,I 0,I 0] [(0,.k (I 10000)),(1,.k (.v (.int .i64 (-10000)))),(2,.k (I 9999)),(3,.k (.v (.int .i64 (-9999))))]),gc 15 99 [.t 13,.t 14],gi 16 (.build 16 [.v (.bool false),I 0] [(1,(none,.t 15))]),g0 (.sto 2 (.t 16) (some 2))]
def r_Z167_7 : List GI:=[gs 17 3 2,g0 (.sto 2 (.t 17) (some 2))]
def dc_Z167 : DC:=.seq (.z r_Z167_0) (.seq (.z r_Z167_1) (.seq (.seq (.z r_Z167_2) (.block 0 (.seq (.z r_Z167_3) (.cond (.t 8) (.seq (.z r_Z167_4) .ret) (.seq (.z r_Z167_5) (.cond (.t 11) (.seq (.z r_Z167_6) .ret) .skip)))))) (.seq (.z r_Z167_7) .ret)))
theorem c_Z167 : cfun Tryz.prog [] 149 = some (18,dc_Z167,[(Res.cell 2 (some 2))]):=by kernel_rfl
def r_Z149_0 : List GI:=[gi 4 (.mov 4 (.k .nul))]
def r_Z149_1 : List GI:=[gi 7 (.mov 7 (.k .nul)),gt 5 7]
def r_Z149_2 : List GI:=[gk 6 0]
def r_Z149_3 : List GI:=[gt 8 6,gt 9 1,gb 10 .lss 8 9]
def r_Z149_4 : List GI:=[gt 13 5,gt 14 0,gc 15 194 [.t 14],gi 16 (.bsl 16 2 (some 2) [.agg [.v (.bool false),I 0]] [(0,.t 15)]),gi 17 (.app 17 2000017 (.t 13) (.t 16) 2 16),gt 5 17]
def r_Z149_5 : List GI:=[gt 11 6,gd 12 .add 11 1,gt 6 12]
def r_Z149_6 : List GI:=[gt 18 5,gt 4 18]
def dc_Z149 : DC:=.seq (.z r_Z149_0) (.seq (.z r_Z149_1) (.seq (.seq (.z r_Z149_2) (.block 0 (.loop (.seq (.seq (.z r_Z149_3) (.cond (.t 10) .skip (.exit 0))) (.seq (.block 1 (.z r_Z149_4)) (.z r_Z149_5)))))) (.seq (.z r_Z149_6) .ret)))
theorem c_Z149 : cfun Tryz.prog [] 150 = some (19,dc_Z149,[(Res.tmp 4)]):=by kernel_rfl
def r_Z113_0 : List GI:=[gi 2 (.alloc 2 2000002 [.v (.bool false),I 0])]
def r_Z113_1 : List GI:=[gt 3 0,gc 4 60 [.t 3,.k (I 5)],gd 5 .eql 4 0]
def r_Z113_2 : List GI:=[gi 6 (.build 6 [.v (.bool false),I 0] [(0,(none,.k (.v (.bool true))))]),g0 (.sto 2 (.t 6) (some 2))]
def r_Z113_3 : List GI:=[gt 7 0,gi 8 (.bsl 8 1 none [I 0,I 0,I 0,I 0,I 0] [(0,.k (I 0)),(1,.k (I 1)),(2,.k (I 2)),(3,.k (I 3)),(4,.k (.v (.int .i64 (-1))))]),gc 9 99 [.t 7,.t 8],gi 10 (.build 10 [.v (.bool false),I 0] [(1,(none,.t 9))]),g0 (.sto 2 (.t 10) (some 2))]
def dc_Z113 : DC:=.seq (.z r_Z113_0) (.seq (.seq (.z r_Z113_1) (.cond (.t 5) (.seq (.z r_Z113_2) .ret) .skip)) (.seq (.z r_Z113_3) .ret))
theorem c_Z113 : cfun Tryz.prog [] 194 = some (11,dc_Z113,[(Res.cell 2 (some 2))]):=by kernel_rfl
def r_Z186_0 : List GI:=[gi 2 (.mov 2 (.k .nul))]
def r_Z186_1 : List GI:=[gi 3 (.mov 3 (.k .nul)),gt 4 0,gi 5 (.app 5 2000005 (.t 3) (.t 4) 2 16),gt 2 5]
def dc_Z186 : DC:=.seq (.z r_Z186_0) (.seq (.z r_Z186_1) .ret)
theorem c_Z186 : cfun Tryz.prog [] 102 = some (6,dc_Z186,[(Res.tmp 2)]):=by kernel_rfl
def r_Z146_0 : List GI:=[gi 4 (.mov 4 (.k .nul))]
def r_Z146_1 : List GI:=[gk 5 0]
def r_Z146_2 : List GI:=[gt 9 0,gn 10 9,gt 6 10]
def r_Z146_3 : List GI:=[gt 11 5,gt 12 6,gb 13 .lss 11 12]
def r_Z146_4 : List GI:=[gt 14 5,gt 15 6,gb 16 .add 14 15,gd 17 .quo 16 2,gt 7 17]
def r_Z146_5 : List GI:=[gt 18 0,gt 19 7,ga 20 18 19 1,gl 21 20,gt 22 1,gc 23 132 [.t 21,.t 22],gd 24 .leq 23 0]
def r_Z146_6 : List GI:=[gt 25 7,gd 26 .add 25 1,gt 5 26]
def r_Z146_7 : List GI:=[gt 27 7,gt 6 27]
def r_Z146_8 : List GI:=[gi 28 (.mov 28 (.k .nul)),gt 29 0,gt 30 5,gi 31 (.slc 31 (.t 29) none (some (.t 30)) 1),gi 32 (.app 32 2000032 (.t 28) (.t 31) 1 24),gt 8 32]
def r_Z146_9 : List GI:=[gt 33 8,gt 34 1,gc 35 102 [.t 34],gi 36 (.bsl 36 1 none [.nul] [(0,.t 35)]),gi 37 (.app 37 2000037 (.t 33) (.t 36) 1 24),gt 8 37]
def r_Z146_10 : List GI:=[gt 38 8,gt 39 0,gt 40 5,gi 41 (.slc 41 (.t 39) (some (.t 40)) none 1),gi 42 (.app 42 2000042 (.t 38) (.t 41) 1 24),gt 4 42]
def dc_Z146 : DC:=.seq (.z r_Z146_0) (.seq (.z r_Z146_1) (.seq (.z r_Z146_2) (.seq (.block 0 (.loop (.seq (.seq (.z r_Z146_3) (.cond (.t 13) .skip (.exit 0))) (.block 1 (.seq (.z r_Z146_4) (.seq (.z r_Z146_5) (.cond (.t 24) (.z r_Z146_6) (.z r_Z146_7)))))))) (.seq (.z r_Z146_8) (.seq (.z r_Z146_9) (.seq (.z r_Z146_10) .ret))))))
theorem c_Z146 : cfun Tryz.prog [] 133 = some (43,dc_Z146,[(Res.tmp 4)]):=by kernel_rfl
def r_Z189_0 : List GI:=[gi 4 (.alloc 4 2000004 [I 0,.nul])]
def r_Z189_1 : List GI:=[gt 7 0,gi 8 (.build 8 [I 0,.nul] [(0,(none,.t 7))]),gi 5 (.alloc 5 2000005 [I 0,.nul]),g0 (.sto 5 (.t 8) (some 2))]
def r_Z189_2 : List GI:=[gt 9 1,gn 10 9,gd 11 .gtr 10 400]
def r_Z189_3 : List GI:=[gs 12 5 2,g0 (.sto 4 (.t 12) (some 2))]
def r_Z189_4 : List GI:=[gk 6 0]
def r_Z189_5 : List GI:=[gt 13 6,gt 14 1,gn 15 14,gb 16 .lss 13 15]
def r_Z189_6 : List GI:=[gf 19 5 1,gl 20 19,gt 21 1,gt 22 6,ga 23 21 22 1,gl 24 23,gc 25 133 [.t 20,.t 24],gf 26 5 1,g0 (.sto 26 (.t 25) none)]
def r_Z189_7 : List GI:=[gt 17 6,gd 18 .add 17 1,gt 6 18]
def r_Z189_8 : List GI:=[gs 27 5 2,g0 (.sto 4 (.t 27) (some 2))]
def dc_Z189 : DC:=.seq (.z r_Z189_0) (.seq (.z r_Z189_1) (.seq (.seq (.z r_Z189_2) (.cond (.t 11) (.seq (.z r_Z189_3) .ret) .skip)) (.seq (.seq (.z r_Z189_4) (.block 0 (.loop (.seq (.seq (.z r_Z189_5) (.cond (.t 16) .skip (.exit 0))) (.seq (.block 1 (.reg r_Z189_6 (some [0,1,0,0,12,28,63,127,255]))) (.z r_Z189_7)))))) (.seq (.z r_Z189_8) .ret))))
theorem c_Z189 : cfun Tryz.prog [] 74 = some (28,dc_Z189,[(Res.cell 4 (some 2))]):=by kernel_rfl
end
end Go.Proofs.YtefldihjbaodnaaGreat
namespace Go.Proofs.YtefldihjbaodnaaGreat
open Go.RowKit
noncomputable section
def r_Z142_0 : List GI:=[gi 4 (.mov 4 (.k (.v (.bool false))))]
def r_Z142_1 : List GI:=[gt 6 0,gn 7 6,gt 8 1,gn 9 8,gb 10 .neq 7 9]
def r_Z142_2 : List GI:=[gi 4 (.mov 4 (.k (.v (.bool false))))]
def r_Z142_3 : List GI:=[gk 5 0]
def r_Z142_4 : List GI:=[gt 11 5,gt 12 0,gn 13 12,gb 14 .lss 11 13]
def r_Z142_5 : List GI:=[gt 17 0,gt 18 5,ga 19 17 18 2,gs 20 19 2,gt 21 1,gt 22 5,ga 23 21 22 2,gs 24 23 2,gi 25 (.eqs 25 true [false,true] (.t 20) (.t 24))]
def r_Z142_6 : List GI:=[gi 4 (.mov 4 (.k (.v (.bool false))))]
def r_Z142_7 : List GI:=[gt 15 5,gd 16 .add 15 1,gt 5 16]
def r_Z142_8 : List GI:=[gi 4 (.mov 4 (.k (.v (.bool true))))]
def dc_Z142 : DC:=.seq (.z r_Z142_0) (.seq (.seq (.z r_Z142_1) (.cond (.t 10) (.seq (.z r_Z142_2) .ret) .skip)) (.seq (.seq (.z r_Z142_3) (.block 0 (.loop (.seq (.seq (.z r_Z142_4) (.cond (.t 14) .skip (.exit 0))) (.seq (.block 1 (.seq (.reg r_Z142_5 (some [0,0,3,7,0,0,48,112,255])) (.cond (.t 25) (.seq (.z r_Z142_6) .ret) .skip))) (.z r_Z142_7)))))) (.seq (.z r_Z142_8) .ret)))
theorem c_Z142 : cfun Tryz.prog [] 81 = some (26,dc_Z142,[(Res.tmp 4)]):=by kernel_rfl
end
end Go.Proofs.YtefldihjbaodnaaGreat
