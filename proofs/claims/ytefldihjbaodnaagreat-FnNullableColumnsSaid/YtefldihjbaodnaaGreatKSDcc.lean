/-
  Functions of the program read as code on plain data. Closed facts of the program alone.
-/
import Derived.KernelRfl
import Derived.Test.YtefldihjbaodnaaGreatRows
import Derived.Test.YtefldihjbaodnaaGreatJSVGo
import Derived.Test.YtefldihjbaodnaaGreatJSVTbD
namespace Go.Proofs.YtefldihjbaodnaaGreat
open Go.RowKit
noncomputable section
def r_Z194_0 : List GI:=[gk 2 0]
def r_Z194_1 : List GI:=[gt 3 0]
def r_Z194_2 : List GI:=[gd 5 .eql 3 1,gt 4 5]
def r_Z194_3 : List GI:=[gd 6 .eql 3 2,gt 4 6]
def r_Z194_4 : List GI:=[gk 2 0]
def r_Z194_5 : List GI:=[gd 8 .eql 3 10,gt 7 8]
def r_Z194_6 : List GI:=[gd 9 .eql 3 11,gt 7 9]
def r_Z194_7 : List GI:=[gk 2 1]
def r_Z194_8 : List GI:=[gd 11 .eql 3 3,gt 10 11]
def r_Z194_9 : List GI:=[gd 12 .eql 3 4,gt 10 12]
def r_Z194_10 : List GI:=[gd 13 .eql 3 5,gt 10 13]
def r_Z194_11 : List GI:=[gd 14 .eql 3 6,gt 10 14]
def r_Z194_12 : List GI:=[gd 15 .eql 3 7,gt 10 15]
def r_Z194_13 : List GI:=[gd 16 .eql 3 8,gt 10 16]
def r_Z194_14 : List GI:=[gd 17 .eql 3 9,gt 10 17]
def r_Z194_15 : List GI:=[gk 2 2]
def r_Z194_16 : List GI:=[gi 2 (.mov 2 (.k (.v (.int .i64 (-1)))))]
def dc_Z194 : DC:=.seq (.z r_Z194_0) (.seq (.seq (.z r_Z194_1) (.block 0 (.seq (.seq (.z r_Z194_2) (.cond (.t 4) .skip (.z r_Z194_3))) (.cond (.t 4) (.seq (.z r_Z194_4) .ret) (.seq (.seq (.z r_Z194_5) (.cond (.t 7) .skip (.z r_Z194_6))) (.cond (.t 7) (.seq (.z r_Z194_7) .ret) (.seq (.seq (.z r_Z194_8) (.cond (.t 10) .skip (.seq (.z r_Z194_9) (.cond (.t 10) .skip (.seq (.z r_Z194_10) (.cond (.t 10) .skip (.seq (.z r_Z194_11) (.cond (.t 10) .skip (.seq (.z r_Z194_12) (.cond (.t 10) .skip (.seq (.z r_Z194_13) (.cond (.t 10) .skip (.z r_Z194_14))))))))))))) (.cond (.t 10) (.seq (.z r_Z194_15) .ret) .skip)))))))) (.seq (.z r_Z194_16) .ret))
theorem c_Z194 : cfun Tryz.prog [] 195 = some (18,dc_Z194,[(Res.tmp 2)]):=by kernel_rfl
def r_Z199_0 : List GI:=[gk 2 0]
def r_Z199_1 : List GI:=[gt 3 0]
def r_Z199_2 : List GI:=[gk 2 1]
def r_Z199_3 : List GI:=[gk 2 0]
def dc_Z199 : DC:=.seq (.z r_Z199_0) (.seq (.seq (.z r_Z199_1) (.cond (.t 3) (.seq (.z r_Z199_2) .ret) .skip)) (.seq (.z r_Z199_3) .ret))
theorem c_Z199 : cfun Tryz.prog [] 189 = some (4,dc_Z199,[(Res.tmp 2)]):=by kernel_rfl
def r_Z143_0 : List GI:=[gi 2 (.box 2 2000002 (.t 0) (some 5)),gi 4 (.mov 4 (.k (.v (.bool false))))]
def r_Z143_1 : List GI:=[gt 5 1,gc 6 126 [.t 5,.k (I 1),.k (I 6)],gt 7 6,⟨.lod 8 2 (some 5),some 8,some (7,true),false⟩,⟨.mov 9 (.t 1),some 9,some (7,true),false⟩,⟨.call 10 183 [.t 8,.t 9,.k (I 8)],some 10,some (7,true),true⟩,gi 11 (.pick 11 (.t 7) (.t 10) (.k (.v (.bool false)))),gt 4 11]
def dc_Z143 : DC:=.seq (.z r_Z143_0) (.seq (.z r_Z143_1) .ret)
theorem c_Z143 : cfun Tryz.prog [] 128 = some (12,dc_Z143,[(Res.tmp 4)]):=by kernel_rfl
def r_Z151_0 : List GI:=[gi 3 (.box 3 2000003 (.t 0) (some 5)),gi 6 (.mov 6 (.k (.v (.bool false))))]
def r_Z151_1 : List GI:=[gf 8 3 4,gl 9 8,gn 10 9,gf 11 3 0,gl 12 11,gc 13 195 [.t 12],gb 14 .neq 10 13,gt 15 14,⟨.fad 16 3 4,some 16,some (15,false),false⟩,⟨.lod 17 16 none,some 17,some (15,false),false⟩,⟨.len 18 (.t 17),some 18,some (15,false),false⟩,⟨.bin 19 .gtr (.t 18) (.k (I 0)),some 19,some (15,false),false⟩,⟨.mov 20 (.t 19),some 20,some (15,false),false⟩,⟨.mov 21 (.t 2),some 21,some (20,true),false⟩,⟨.bin 22 .eql (.t 21) (.k (I 0)),some 22,some (20,true),false⟩,⟨.pick 23 (.t 20) (.t 22) (.k (.v (.bool false))),some 23,some (15,false),false⟩,gi 24 (.pick 24 (.t 15) (.k (.v (.bool true))) (.t 23))]
def r_Z151_2 : List GI:=[gi 6 (.mov 6 (.k (.v (.bool false))))]
def r_Z151_3 : List GI:=[gk 7 0]
def r_Z151_4 : List GI:=[gt 25 7,gf 26 3 4,gl 27 26,gn 28 27,gb 29 .lss 25 28]
def r_Z151_5 : List GI:=[gf 32 3 4,gl 33 32,gt 34 7,ga 35 33 34 5,gs 36 35 5,gt 37 1,gt 38 2,gd 39 .sub 38 1,gc 40 183 [.t 36,.t 37,.t 39],gi 41 (.un 41 UnOp.not (.t 40))]
def r_Z151_6 : List GI:=[gi 6 (.mov 6 (.k (.v (.bool false))))]
def r_Z151_7 : List GI:=[gt 30 7,gd 31 .add 30 1,gt 7 31]
def r_Z151_8 : List GI:=[gf 42 3 0,gl 43 42]
def r_Z151_9 : List GI:=[gd 45 .eql 43 1,gt 44 45]
def r_Z151_10 : List GI:=[gf 46 3 1,gl 47 46,gt 48 1,gd 49 .sub 48 1,gc 50 126 [.t 47,.k (I 0),.t 49],gt 51 50,⟨.fad 52 3 2,some 52,some (51,true),false⟩,⟨.lod 53 52 (some 2),some 53,some (51,true),false⟩,⟨.build 54 [.v (.bool false),I 0] [],some 54,some (51,true),false⟩,⟨.eqs 55 false [false,true] (.t 53) (.t 54),some 55,some (51,true),false⟩,gi 56 (.pick 56 (.t 51) (.t 55) (.k (.v (.bool false)))),gt 6 56]
def r_Z151_11 : List GI:=[gd 58 .eql 43 2,gt 57 58]
def r_Z151_12 : List GI:=[gf 59 3 1,gl 60 59,gd 61 .eql 60 0,gt 62 61,⟨.fad 63 3 2,some 63,some (62,true),false⟩,⟨.lod 64 63 (some 2),some 64,some (62,true),false⟩,⟨.call 65 184 [.t 64],some 65,some (62,true),true⟩,gi 66 (.pick 66 (.t 62) (.t 65) (.k (.v (.bool false)))),gt 6 66]
def r_Z151_13 : List GI:=[gf 67 3 1,gl 68 67,gd 69 .eql 68 0,gt 70 69,⟨.fad 71 3 2,some 71,some (70,true),false⟩,⟨.lod 72 71 (some 2),some 72,some (70,true),false⟩,⟨.build 73 [.v (.bool false),I 0] [],some 73,some (70,true),false⟩,⟨.eqs 74 false [false,true] (.t 72) (.t 73),some 74,some (70,true),false⟩,gi 75 (.pick 75 (.t 70) (.t 74) (.k (.v (.bool false)))),gt 6 75]
def dc_Z151 : DC:=.seq (.z r_Z151_0) (.seq (.seq (.reg r_Z151_1 (some [0,1,3,0,8,24,63,127,255,511,1023,2047,4095,8191,16383,32767,65535])) (.cond (.t 24) (.seq (.z r_Z151_2) .ret) .skip)) (.seq (.seq (.z r_Z151_3) (.block 0 (.loop (.seq (.seq (.z r_Z151_4) (.cond (.t 29) .skip (.exit 0))) (.seq (.block 1 (.seq (.z r_Z151_5) (.cond (.t 41) (.seq (.z r_Z151_6) .ret) .skip))) (.z r_Z151_7)))))) (.seq (.seq (.z r_Z151_8) (.block 2 (.seq (.z r_Z151_9) (.cond (.t 44) (.seq (.z r_Z151_10) .ret) (.seq (.z r_Z151_11) (.cond (.t 57) (.seq (.z r_Z151_12) .ret) .skip)))))) (.seq (.z r_Z151_13) .ret))))
theorem c_Z151 : cfun Tryz.prog [] 183 = some (76,dc_Z151,[(Res.tmp 6)]):=by kernel_rfl
def r_Z165_0 : List GI:=[gk 4 0]
def r_Z165_1 : List GI:=[gt 6 0,gd 7 .eql 6 0,gt 8 7,⟨.mov 9 (.t 1),some 9,some (8,false),false⟩,⟨.bin 10 .eql (.t 9) (.k (I 0)),some 10,some (8,false),false⟩,gi 11 (.pick 11 (.t 8) (.k (.v (.bool true))) (.t 10)),gt 5 11]
def r_Z165_2 : List GI:=[gk 4 0]
def r_Z165_3 : List GI:=[gt 13 0,gd 14 .eql 13 1,gt 15 14,⟨.mov 16 (.t 1),some 16,some (15,true),false⟩,⟨.bin 17 .eql (.t 16) (.k (I 1)),some 17,some (15,true),false⟩,gi 18 (.pick 18 (.t 15) (.t 17) (.k (.v (.bool false)))),gt 12 18]
def r_Z165_4 : List GI:=[gk 4 1]
def r_Z165_5 : List GI:=[gk 4 2]
def dc_Z165 : DC:=.seq (.z r_Z165_0) (.seq (.block 0 (.seq (.z r_Z165_1) (.cond (.t 5) (.seq (.z r_Z165_2) .ret) (.seq (.z r_Z165_3) (.cond (.t 12) (.seq (.z r_Z165_4) .ret) .skip))))) (.seq (.z r_Z165_5) .ret))
theorem c_Z165 : cfun Tryz.prog [] 209 = some (19,dc_Z165,[(Res.tmp 4)]):=by kernel_rfl
def r_Z185_0 : List GI:=[gi 4 (.box 4 2000004 (.t 1) (some 2)),gi 5 (.box 5 2000005 (.t 2) (some 2)),gi 6 (.alloc 6 2000006 [.v (.bool false),I 0])]
def r_Z185_1 : List GI:=[gt 7 0]
def r_Z185_2 : List GI:=[gd 9 .eql 7 8,gt 8 9]
def r_Z185_3 : List GI:=[gs 10 4 2,gc 11 186 [.t 10],gs 12 5 2,gc 13 186 [.t 12],gc 14 209 [.t 11,.t 13],gc 15 187 [.t 14],g0 (.sto 6 (.t 15) (some 2))]
def r_Z185_4 : List GI:=[gd 17 .eql 7 9,gt 16 17]
def r_Z185_5 : List GI:=[gs 18 4 2,gc 19 186 [.t 18],gc 20 188 [.t 19],gs 21 5 2,gc 22 186 [.t 21],gc 23 188 [.t 22],gc 24 209 [.t 20,.t 23],gc 25 188 [.t 24],gc 26 187 [.t 25],g0 (.sto 6 (.t 26) (some 2))]
def r_Z185_6 : List GI:=[gf 27 4 0,gl 28 27,gt 29 28,⟨.fad 30 5 0,some 30,some (29,false),false⟩,⟨.lod 31 30 none,some 31,some (29,false),false⟩,gi 32 (.pick 32 (.t 29) (.k (.v (.bool true))) (.t 31))]
def r_Z185_7 : List GI:=[gi 33 (.build 33 [.v (.bool false),I 0] [(0,(none,.k (.v (.bool true))))]),g0 (.sto 6 (.t 33) (some 2))]
def r_Z185_8 : List GI:=[gt 34 0]
def r_Z185_9 : List GI:=[gd 36 .eql 34 3,gt 35 36]
def r_Z185_10 : List GI:=[gf 37 4 1,gl 38 37,gf 39 5 1,gl 40 39,gb 41 .add 38 40,gc 42 210 [.t 41],g0 (.sto 6 (.t 42) (some 2))]
def r_Z185_11 : List GI:=[gd 44 .eql 34 4,gt 43 44]
def r_Z185_12 : List GI:=[gf 45 4 1,gl 46 45,gf 47 5 1,gl 48 47,gb 49 .sub 46 48,gc 50 210 [.t 49],g0 (.sto 6 (.t 50) (some 2))]
def r_Z185_13 : List GI:=[gd 52 .eql 34 5,gt 51 52]
def r_Z185_14 : List GI:=[gf 53 4 1,gl 54 53,gf 55 5 1,gl 56 55,gb 57 .mul 54 56,gc 58 210 [.t 57],g0 (.sto 6 (.t 58) (some 2))]
def r_Z185_15 : List GI:=[gd 60 .eql 34 6,gt 59 60]
def r_Z185_16 : List GI:=[gf 61 4 1,gl 62 61,gf 63 5 1,gl 64 63,gb 65 .eql 62 64,gc 66 189 [.t 65],gi 67 (.build 67 [.v (.bool false),I 0] [(1,(none,.t 66))]),g0 (.sto 6 (.t 67) (some 2))]
def r_Z185_17 : List GI:=[gf 68 4 1,gl 69 68,gf 70 5 1,gl 71 70,gb 72 .lss 69 71,gc 73 189 [.t 72],gi 74 (.build 74 [.v (.bool false),I 0] [(1,(none,.t 73))]),g0 (.sto 6 (.t 74) (some 2))]
def dc_Z185 : DC:=.seq (.z r_Z185_0) (.seq (.seq (.z r_Z185_1) (.block 0 (.seq (.z r_Z185_2) (.cond (.t 8) (.seq (.reg r_Z185_3 (some [0,1,0,7,15,31,63])) .ret) (.seq (.z r_Z185_4) (.cond (.t 16) (.seq (.reg r_Z185_5 (some [0,1,3,0,15,31,63,127,255,511])) .ret) .skip)))))) (.seq (.seq (.z r_Z185_6) (.cond (.t 32) (.seq (.z r_Z185_7) .ret) .skip)) (.seq (.seq (.z r_Z185_8) (.block 1 (.seq (.z r_Z185_9) (.cond (.t 35) (.seq (.z r_Z185_10) .ret) (.seq (.z r_Z185_11) (.cond (.t 43) (.seq (.z r_Z185_12) .ret) (.seq (.z r_Z185_13) (.cond (.t 51) (.seq (.z r_Z185_14) .ret) (.seq (.z r_Z185_15) (.cond (.t 59) (.seq (.z r_Z185_16) .ret) .skip)))))))))) (.seq (.z r_Z185_17) .ret))))
theorem c_Z185 : cfun Tryz.prog [] 190 = some (75,dc_Z185,[(Res.cell 6 (some 2))]):=by kernel_rfl
def r_Z171_0 : List GI:=[gi 2 (.box 2 2000002 (.t 0) (some 5)),gi 4 (.alloc 4 2000004 [.v (.bool false),I 0])]
def r_Z171_1 : List GI:=[gf 5 2 0,gl 6 5]
def r_Z171_2 : List GI:=[gd 8 .eql 6 1,gt 7 8]
def r_Z171_3 : List GI:=[gt 9 1,gf 10 2 1,gl 11 10,ga 12 9 11 2,gs 13 12 2,g0 (.sto 4 (.t 13) (some 2))]
def r_Z171_4 : List GI:=[gd 15 .eql 6 2,gt 14 15]
def r_Z171_5 : List GI:=[gf 16 2 2,gs 17 16 2,g0 (.sto 4 (.t 17) (some 2))]
def r_Z171_6 : List GI:=[gd 19 .eql 6 10,gt 18 19]
def r_Z171_7 : List GI:=[gf 20 2 4,gl 21 20,gi 22 (.iad 22 21 (.k (I 0)) 5),gs 23 22 5,gt 24 1,gc 25 135 [.t 23,.t 24],gc 26 186 [.t 25],gc 27 188 [.t 26],gc 28 187 [.t 27],g0 (.sto 4 (.t 28) (some 2))]
def r_Z171_8 : List GI:=[gd 30 .eql 6 11,gt 29 30]
def r_Z171_9 : List GI:=[gf 31 2 4,gl 32 31,gi 33 (.iad 33 32 (.k (I 0)) 5),gs 34 33 5,gt 35 1,gc 36 135 [.t 34,.t 35],gi 37 (.fld 37 (.t 36) 0 none),gc 38 189 [.t 37],gi 39 (.build 39 [.v (.bool false),I 0] [(1,(none,.t 38))]),g0 (.sto 4 (.t 39) (some 2))]
def r_Z171_10 : List GI:=[gf 40 2 0,gl 41 40,gf 42 2 4,gl 43 42,gi 44 (.iad 44 43 (.k (I 0)) 5),gs 45 44 5,gt 46 1,gc 47 135 [.t 45,.t 46],gf 48 2 4,gl 49 48,gi 50 (.iad 50 49 (.k (I 1)) 5),gs 51 50 5,gt 52 1,gc 53 135 [.t 51,.t 52],gc 54 190 [.t 41,.t 47,.t 53],g0 (.sto 4 (.t 54) (some 2))]
def dc_Z171 : DC:=.seq (.z r_Z171_0) (.seq (.seq (.z r_Z171_1) (.block 0 (.seq (.z r_Z171_2) (.cond (.t 7) (.seq (.z r_Z171_3) .ret) (.seq (.z r_Z171_4) (.cond (.t 14) (.seq (.z r_Z171_5) .ret) (.seq (.z r_Z171_6) (.cond (.t 18) (.seq (.z r_Z171_7) .ret) (.seq (.z r_Z171_8) (.cond (.t 29) (.seq (.z r_Z171_9) .ret) .skip)))))))))) (.seq (.reg r_Z171_10 (some [0,1,0,4,12,28,0,124,0,256,768,1792,0,8188,16383,32767])) .ret))
theorem c_Z171 : cfun Tryz.prog [] 135 = some (55,dc_Z171,[(Res.cell 4 (some 2))]):=by kernel_rfl
def r_Z174_0 : List GI:=[gk 2 0]
def r_Z174_1 : List GI:=[gt 3 0,gd 4 .eql 3 2]
def r_Z174_2 : List GI:=[gk 2 2]
def r_Z174_3 : List GI:=[gt 5 0,gi 6 (.bin 6 .sub (.k (I 1)) (.t 5)),gt 2 6]
def dc_Z174 : DC:=.seq (.z r_Z174_0) (.seq (.seq (.z r_Z174_1) (.cond (.t 4) (.seq (.z r_Z174_2) .ret) .skip)) (.seq (.z r_Z174_3) .ret))
theorem c_Z174 : cfun Tryz.prog [] 188 = some (7,dc_Z174,[(Res.tmp 2)]):=by kernel_rfl
def r_Z188_0 : List GI:=[gi 2 (.alloc 2 2000002 [.v (.bool false),I 0])]
def r_Z188_1 : List GI:=[gt 3 0,gd 4 .eql 3 2]
def r_Z188_2 : List GI:=[gi 5 (.build 5 [.v (.bool false),I 0] [(0,(none,.k (.v (.bool true))))]),g0 (.sto 2 (.t 5) (some 2))]
def r_Z188_3 : List GI:=[gt 6 0,gi 7 (.build 7 [.v (.bool false),I 0] [(1,(none,.t 6))]),g0 (.sto 2 (.t 7) (some 2))]
def dc_Z188 : DC:=.seq (.z r_Z188_0) (.seq (.seq (.z r_Z188_1) (.cond (.t 4) (.seq (.z r_Z188_2) .ret) .skip)) (.seq (.z r_Z188_3) .ret))
theorem c_Z188 : cfun Tryz.prog [] 187 = some (8,dc_Z188,[(Res.cell 2 (some 2))]):=by kernel_rfl
def r_Z200_0 : List GI:=[gi 1 (.box 1 2000001 (.t 0) (some 2)),gk 2 0]
def r_Z200_1 : List GI:=[gf 4 1 0,gl 5 4,gt 3 5]
def r_Z200_2 : List GI:=[gk 2 2]
def r_Z200_3 : List GI:=[gf 7 1 1,gl 8 7,gd 9 .eql 8 0,gt 6 9]
def r_Z200_4 : List GI:=[gk 2 0]
def r_Z200_5 : List GI:=[gk 2 1]
def dc_Z200 : DC:=.seq (.z r_Z200_0) (.seq (.block 0 (.seq (.z r_Z200_1) (.cond (.t 3) (.seq (.z r_Z200_2) .ret) (.seq (.z r_Z200_3) (.cond (.t 6) (.seq (.z r_Z200_4) .ret) .skip))))) (.seq (.z r_Z200_5) .ret))
theorem c_Z200 : cfun Tryz.prog [] 186 = some (10,dc_Z200,[(Res.tmp 2)]):=by kernel_rfl
def r_Z110_0 : List GI:=[gi 2 (.box 2 2000002 (.t 0) (some 2)),gi 3 (.box 3 2000003 (.t 1) (some 5)),gi 4 (.alloc 4 2000004 [I 0,.nul])]
def r_Z110_1 : List GI:=[gi 7 (.mov 7 (.k .nul)),gt 5 7]
def r_Z110_2 : List GI:=[gk 6 0]
def r_Z110_3 : List GI:=[gt 8 6,gf 9 2 1,gl 10 9,gn 11 10,gb 12 .lss 8 11]
def r_Z110_4 : List GI:=[gs 15 3 5,gf 16 2 1,gl 17 16,gt 18 6,ga 19 17 18 1,gl 20 19,gc 21 134 [.t 15,.t 20]]
def r_Z110_5 : List GI:=[gt 22 5,gf 23 2 1,gl 24 23,gt 25 6,ga 26 24 25 1,gl 27 26,gi 28 (.bsl 28 1 none [.nul] [(0,.t 27)]),gi 29 (.app 29 2000029 (.t 22) (.t 28) 1 24),gt 5 29]
def r_Z110_6 : List GI:=[gt 13 6,gd 14 .add 13 1,gt 6 14]
def r_Z110_7 : List GI:=[gf 30 2 0,gl 31 30,gt 32 5,gc 33 74 [.t 31,.t 32],g0 (.sto 4 (.t 33) (some 2))]
def dc_Z110 : DC:=.seq (.z r_Z110_0) (.seq (.z r_Z110_1) (.seq (.seq (.z r_Z110_2) (.block 0 (.loop (.seq (.seq (.z r_Z110_3) (.cond (.t 12) .skip (.exit 0))) (.seq (.block 1 (.seq (.reg r_Z110_4 (some [0,0,2,0,14,30,63])) (.cond (.t 21) (.z r_Z110_5) .skip))) (.z r_Z110_6)))))) (.seq (.z r_Z110_7) .ret)))
theorem c_Z110 : cfun Tryz.prog [] 75 = some (34,dc_Z110,[(Res.cell 4 (some 2))]):=by kernel_rfl
def r_Z197_0 : List GI:=[gi 2 (.box 2 2000002 (.t 0) (some 5)),gi 4 (.mov 4 (.k (.v (.bool false))))]
def r_Z197_1 : List GI:=[gs 5 2 5,gt 6 1,gc 7 135 [.t 5,.t 6],gc 8 186 [.t 7],gd 9 .eql 8 1,gt 4 9]
def dc_Z197 : DC:=.seq (.z r_Z197_0) (.seq (.z r_Z197_1) .ret)
theorem c_Z197 : cfun Tryz.prog [] 134 = some (10,dc_Z197,[(Res.tmp 4)]):=by kernel_rfl
def r_Z134_0 : List GI:=[gi 2 (.box 2 2000002 (.t 0) (some 5)),gi 4 (.mov 4 (.k (.v (.bool false))))]
def r_Z134_1 : List GI:=[gt 5 1,gc 6 104 [.t 5],gt 7 6,⟨.lod 8 2 (some 5),some 8,some (7,true),false⟩,⟨.mov 9 (.t 1),some 9,some (7,true),false⟩,⟨.call 10 196 [.t 8,.t 9,.k (I 8)],some 10,some (7,true),true⟩,gi 11 (.pick 11 (.t 7) (.t 10) (.k (.v (.bool false)))),gt 4 11]
def dc_Z134 : DC:=.seq (.z r_Z134_0) (.seq (.z r_Z134_1) .ret)
theorem c_Z134 : cfun Tryz.prog [] 153 = some (12,dc_Z134,[(Res.tmp 4)]):=by kernel_rfl
def r_Z155_0 : List GI:=[gk 2 0]
def r_Z155_1 : List GI:=[gt 4 0,gd 5 .eql 4 1,gt 6 5,⟨.mov 7 (.t 0),some 7,some (6,false),false⟩,⟨.bin 8 .eql (.t 7) (.k (I 2)),some 8,some (6,false),false⟩,gi 9 (.pick 9 (.t 6) (.k (.v (.bool true))) (.t 8)),gt 3 9]
def r_Z155_2 : List GI:=[gk 2 0]
def r_Z155_3 : List GI:=[gt 11 0,gd 12 .eql 11 10,gt 13 12,⟨.mov 14 (.t 0),some 14,some (13,false),false⟩,⟨.bin 15 .eql (.t 14) (.k (I 11)),some 15,some (13,false),false⟩,gi 16 (.pick 16 (.t 13) (.k (.v (.bool true))) (.t 15)),gt 10 16]
def r_Z155_4 : List GI:=[gk 2 1]
def r_Z155_5 : List GI:=[gt 18 0,gi 19 (.bin 19 .leq (.k (I 3)) (.t 18)),gt 20 19,⟨.mov 21 (.t 0),some 21,some (20,true),false⟩,⟨.bin 22 .leq (.t 21) (.k (I 9)),some 22,some (20,true),false⟩,gi 23 (.pick 23 (.t 20) (.t 22) (.k (.v (.bool false)))),gt 17 23]
def r_Z155_6 : List GI:=[gk 2 2]
def r_Z155_7 : List GI:=[gi 2 (.mov 2 (.k (.v (.int .i64 (-1)))))]
def dc_Z155 : DC:=.seq (.z r_Z155_0) (.seq (.block 0 (.seq (.z r_Z155_1) (.cond (.t 3) (.seq (.z r_Z155_2) .ret) (.seq (.z r_Z155_3) (.cond (.t 10) (.seq (.z r_Z155_4) .ret) (.seq (.z r_Z155_5) (.cond (.t 17) (.seq (.z r_Z155_6) .ret) .skip))))))) (.seq (.z r_Z155_7) .ret))
theorem c_Z155 : cfun Tryz.prog [] 212 = some (24,dc_Z155,[(Res.tmp 2)]):=by kernel_rfl
def r_Z106_0 : List GI:=[gi 3 (.box 3 2000003 (.t 0) (some 5)),gi 6 (.mov 6 (.k (.v (.bool false))))]
def r_Z106_1 : List GI:=[gt 9 2,gd 10 .lss 9 0,gt 11 10,⟨.fad 12 3 4,some 12,some (11,false),false⟩,⟨.lod 13 12 none,some 13,some (11,false),false⟩,⟨.len 14 (.t 13),some 14,some (11,false),false⟩,⟨.fad 15 3 0,some 15,some (11,false),false⟩,⟨.lod 16 15 none,some 16,some (11,false),false⟩,⟨.call 17 212 [.t 16],some 17,some (11,false),true⟩,⟨.bin 18 .neq (.t 14) (.t 17),some 18,some (11,false),false⟩,gi 19 (.pick 19 (.t 11) (.k (.v (.bool true))) (.t 18))]
def r_Z106_2 : List GI:=[gi 6 (.mov 6 (.k (.v (.bool false))))]
def r_Z106_3 : List GI:=[gf 20 3 0,gl 21 20]
def r_Z106_4 : List GI:=[gd 23 .eql 21 1,gt 22 23]
def r_Z106_5 : List GI:=[gf 24 3 1,gl 25 24,gt 26 1,gc 27 213 [.t 25,.t 26],gt 28 27,⟨.fad 29 3 2,some 29,some (28,true),false⟩,⟨.lod 30 29 (some 2),some 30,some (28,true),false⟩,⟨.build 31 [.v (.bool false),I 0] [],some 31,some (28,true),false⟩,⟨.eqs 32 false [false,true] (.t 30) (.t 31),some 32,some (28,true),false⟩,gi 33 (.pick 33 (.t 28) (.t 32) (.k (.v (.bool false)))),gt 6 33]
def r_Z106_6 : List GI:=[gd 35 .eql 21 2,gt 34 35]
def r_Z106_7 : List GI:=[gf 36 3 1,gl 37 36,gd 38 .eql 37 0,gt 39 38,⟨.fad 40 3 2,some 40,some (39,true),false⟩,⟨.lod 41 40 (some 2),some 41,some (39,true),false⟩,⟨.call 42 214 [.t 41],some 42,some (39,true),true⟩,gi 43 (.pick 43 (.t 39) (.t 42) (.k (.v (.bool false)))),gt 6 43]
def r_Z106_8 : List GI:=[gf 44 3 1,gl 45 44,gd 46 .neq 45 0,gt 47 46,⟨.fad 48 3 2,some 48,some (47,false),false⟩,⟨.lod 49 48 (some 2),some 49,some (47,false),false⟩,⟨.build 50 [.v (.bool false),I 0] [],some 50,some (47,false),false⟩,⟨.eqs 51 true [false,true] (.t 49) (.t 50),some 51,some (47,false),false⟩,gi 52 (.pick 52 (.t 47) (.k (.v (.bool true))) (.t 51))]
def r_Z106_9 : List GI:=[gi 6 (.mov 6 (.k (.v (.bool false))))]
def r_Z106_10 : List GI:=[gf 53 3 4,gl 54 53,gn 55 54,gk 56 0]
def r_Z106_11 : List GI:=[gb 57 .lss 56 55]
def r_Z106_12 : List GI:=[ga 58 54 56 5,gs 59 58 5,gi 8 (.alloc 8 2000008 [I 0,I 0,.v (.bool false),I 0,.nul]),g0 (.sto 8 (.t 59) (some 5))]
def r_Z106_13 : List GI:=[gs 60 8 5,gt 61 1,gt 62 2,gd 63 .sub 62 1,gc 64 196 [.t 60,.t 61,.t 63],gi 65 (.un 65 UnOp.not (.t 64))]
def r_Z106_14 : List GI:=[gi 6 (.mov 6 (.k (.v (.bool false))))]
def r_Z106_15 : List GI:=[gd 66 .add 56 1,gt 56 66]
def r_Z106_16 : List GI:=[gi 6 (.mov 6 (.k (.v (.bool true))))]
def dc_Z106 : DC:=.seq (.z r_Z106_0) (.seq (.seq (.reg r_Z106_1 (some [0,1,3,7,15,31,7,71,199,511,1023])) (.cond (.t 19) (.seq (.z r_Z106_2) .ret) .skip)) (.seq (.seq (.z r_Z106_3) (.block 0 (.seq (.z r_Z106_4) (.cond (.t 22) (.seq (.z r_Z106_5) .ret) (.seq (.z r_Z106_6) (.cond (.t 34) (.seq (.z r_Z106_7) .ret) .skip)))))) (.seq (.seq (.z r_Z106_8) (.cond (.t 52) (.seq (.z r_Z106_9) .ret) .skip)) (.seq (.seq (.z r_Z106_10) (.block 1 (.loop (.seq (.z r_Z106_11) (.seq (.cond (.t 57) .skip (.exit 1)) (.seq (.block 2 (.seq (.z r_Z106_12) (.seq (.z r_Z106_13) (.cond (.t 65) (.seq (.z r_Z106_14) .ret) .skip)))) (.z r_Z106_15))))))) (.seq (.z r_Z106_16) .ret)))))
theorem c_Z106 : cfun Tryz.prog [] 196 = some (67,dc_Z106,[(Res.tmp 6)]):=by kernel_rfl
def r_Z93_0 : List GI:=[gi 1 (.box 1 2000001 (.t 0) (some 2)),gk 2 0]
def r_Z93_1 : List GI:=[gf 4 1 0,gl 5 4,gt 3 5]
def r_Z93_2 : List GI:=[gk 2 1]
def r_Z93_3 : List GI:=[gf 7 1 1,gl 8 7,gd 9 .eql 8 0,gt 6 9]
def r_Z93_4 : List GI:=[gk 2 0]
def r_Z93_5 : List GI:=[gk 2 2]
def dc_Z93 : DC:=.seq (.z r_Z93_0) (.seq (.block 0 (.seq (.z r_Z93_1) (.cond (.t 3) (.seq (.z r_Z93_2) .ret) (.seq (.z r_Z93_3) (.cond (.t 6) (.seq (.z r_Z93_4) .ret) .skip))))) (.seq (.z r_Z93_5) .ret))
theorem c_Z93 : cfun Tryz.prog [] 156 = some (10,dc_Z93,[(Res.tmp 2)]):=by kernel_rfl
def r_Z67_0 : List GI:=[gi 2 (.box 2 2000002 (.t 0) (some 2)),gi 4 (.alloc 4 2000004 [.v (.bool false),I 0])]
def r_Z67_1 : List GI:=[gf 8 2 0,gs 9 8 2,gt 10 1,gc 11 283 [.t 9,.t 10],gt 7 11,gi 12 (.ext 12 7 0),gi 13 (.ext 13 7 1),gt 5 12,gt 6 13]
def r_Z67_2 : List GI:=[gt 14 5,gt 15 6,gi 16 (.mm 16 false (.t 14) (.t 15)),gc 17 262 [.t 16],g0 (.sto 4 (.t 17) (some 2))]
def dc_Z67 : DC:=.seq (.z r_Z67_0) (.seq (.z r_Z67_1) (.seq (.z r_Z67_2) .ret))
theorem c_Z67 : cfun Tryz.prog [] 282 = some (18,dc_Z67,[(Res.cell 4 (some 2))]):=by kernel_rfl
def r_Z44_0 : List GI:=[gi 2 (.box 2 2000002 (.t 0) (some 1)),gi 4 (.alloc 4 2000004 [.v (.bool false),I 0])]
def r_Z44_1 : List GI:=[gt 5 1,gf 6 2 0,gl 7 6,ga 8 5 7 2,gs 9 8 2,g0 (.sto 4 (.t 9) (some 2))]
def dc_Z44 : DC:=.seq (.z r_Z44_0) (.seq (.z r_Z44_1) .ret)
theorem c_Z44 : cfun Tryz.prog [] 263 = some (10,dc_Z44,[(Res.cell 4 (some 2))]):=by kernel_rfl
def r_Z34_0 : List GI:=[gi 2 (.box 2 2000002 (.t 0) (some 2)),gi 4 (.alloc 4 2000004 [.v (.bool false),I 0])]
def r_Z34_1 : List GI:=[gf 5 2 0,gs 6 5 2,g0 (.sto 4 (.t 6) (some 2))]
def dc_Z34 : DC:=.seq (.z r_Z34_0) (.seq (.z r_Z34_1) .ret)
theorem c_Z34 : cfun Tryz.prog [] 264 = some (7,dc_Z34,[(Res.cell 4 (some 2))]):=by kernel_rfl
def r_Z27_0 : List GI:=[gi 2 (.box 2 2000002 (.t 0) (some 2)),gi 4 (.alloc 4 2000004 [.v (.bool false),I 0])]
def r_Z27_1 : List GI:=[gf 5 2 0,gs 6 5 2,gt 7 1,⟨.call 8 270 [.t 6,.t 7,.k (.fn 274 [])],some 8,none,true⟩,g0 (.sto 4 (.t 8) (some 2))]
def dc_Z27 : DC:=.seq (.z r_Z27_0) (.seq (.z r_Z27_1) .ret)
theorem c_Z27 : cfun Tryz.prog [] 273 = some (9,dc_Z27,[(Res.cell 4 (some 2))]):=by kernel_rfl
def r_Z23_0 : List GI:=[gk 4 0]
def r_Z23_1 : List GI:=[gt 5 0,gt 6 1,gb 7 .sub 5 6,gt 4 7]
def dc_Z23 : DC:=.seq (.z r_Z23_0) (.seq (.z r_Z23_1) .ret)
theorem c_Z23 : cfun Tryz.prog [] 274 = some (8,dc_Z23,[(Res.tmp 4)]):=by kernel_rfl
def r_Z51_0 : List GI:=[gi 2 (.box 2 2000002 (.t 0) (some 2)),gi 4 (.alloc 4 2000004 [.v (.bool false),I 0])]
def r_Z51_1 : List GI:=[gf 5 2 0,gs 6 5 2,gt 7 1,⟨.call 8 278 [.t 6,.t 7,.k (.fn 279 [])],some 8,none,true⟩,g0 (.sto 4 (.t 8) (some 2))]
def dc_Z51 : DC:=.seq (.z r_Z51_0) (.seq (.z r_Z51_1) .ret)
theorem c_Z51 : cfun Tryz.prog [] 277 = some (9,dc_Z51,[(Res.cell 4 (some 2))]):=by kernel_rfl
def r_Z37_0 : List GI:=[gi 4 (.mov 4 (.k (.v (.bool false))))]
def r_Z37_1 : List GI:=[gt 5 0,gt 6 1,gb 7 .eql 5 6,gt 4 7]
def dc_Z37 : DC:=.seq (.z r_Z37_0) (.seq (.z r_Z37_1) .ret)
theorem c_Z37 : cfun Tryz.prog [] 279 = some (8,dc_Z37,[(Res.tmp 4)]):=by kernel_rfl
end
end Go.Proofs.YtefldihjbaodnaaGreat
