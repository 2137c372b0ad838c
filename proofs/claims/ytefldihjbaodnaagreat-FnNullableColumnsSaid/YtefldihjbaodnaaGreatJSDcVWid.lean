/-
  Functions of the program read as code on plain data. Closed facts of the program alone.
-/
import Derived.KernelRfl
import Derived.Test.YtefldihjbaodnaaGreatRows
import Derived.Test.YtefldihjbaodnaaGreatJSVGo
import Derived.Test.YtefldihjbaodnaaGreatJSVTbD
namespace Go.Proofs.YtefldihjbaodnaaGreat
open Go.RowKit
noncomputable section
def r_Z133_0 : List GI:=[gi 2 (.box 2 2000002 (.t 0) (some 5)),gk 4 0]
def r_Z133_1 : List GI:=[gt 5 1,gc 6 62 [.t 5],gi 7 (.un 7 UnOp.not (.t 6))]
def r_Z133_2 : List GI:=[gk 4 0]
def r_Z133_3 : List GI:=[gs 8 2 5,gt 9 1,gc 10 63 [.t 8,.t 9,.k (I 8)],gt 4 10]
def dc_Z133 : DC:=.seq (.z r_Z133_0) (.seq (.seq (.z r_Z133_1) (.cond (.t 7) (.seq (.z r_Z133_2) .ret) .skip)) (.seq (.z r_Z133_3) .ret))
theorem c_Z133 : cfun Tryz.prog [] 26 = some (11,dc_Z133,[(Res.tmp 4)]):=by kernel_rfl
def r_Z190_0 : List GI:=[gi 2 (.box 2 2000002 (.t 0) (some 5)),gk 4 0]
def r_Z190_1 : List GI:=[gt 5 1,gc 6 71 [.t 5],gi 7 (.un 7 UnOp.not (.t 6))]
def r_Z190_2 : List GI:=[gk 4 0]
def r_Z190_3 : List GI:=[gs 8 2 5,gt 9 1,gc 10 72 [.t 8,.t 9,.k (I 8)],gt 4 10]
def dc_Z190 : DC:=.seq (.z r_Z190_0) (.seq (.seq (.z r_Z190_1) (.cond (.t 7) (.seq (.z r_Z190_2) .ret) .skip)) (.seq (.z r_Z190_3) .ret))
theorem c_Z190 : cfun Tryz.prog [] 33 = some (11,dc_Z190,[(Res.tmp 4)]):=by kernel_rfl
end
end Go.Proofs.YtefldihjbaodnaaGreat
namespace Go.Proofs.YtefldihjbaodnaaGreat
open Go.RowKit
noncomputable section
def r_Z153_0 : List GI:=[gi 2 (.box 2 2000002 (.t 0) (some 5)),gi 4 (.mov 4 (.k (.v (.bool false))))]
def r_Z153_1 : List GI:=[gf 7 2 0,gl 8 7]
def r_Z153_2 : List GI:=[gd 10 .eql 8 6,gt 9 10]
def r_Z153_3 : List GI:=[gt 11 1,gi 12 (.iad 12 11 (.k (I 0)) 1),gl 13 12,gt 14 1,gi 15 (.iad 15 14 (.k (I 1)) 1),gl 16 15,gb 17 .eql 13 16,gt 4 17]
def r_Z153_4 : List GI:=[gd 19 .eql 8 8,gt 18 19]
def r_Z153_5 : List GI:=[gf 20 2 3,gl 21 20,gt 22 1,gi 23 (.iad 23 22 (.k (I 0)) 1),gl 24 23,gc 25 152 [.t 21,.t 24],gt 4 25]
def r_Z153_6 : List GI:=[gf 26 2 2,gl 27 26,gn 28 27,gk 29 0]
def r_Z153_7 : List GI:=[gb 30 .lss 29 28]
def r_Z153_8 : List GI:=[ga 31 27 29 5,gs 32 31 5,gi 6 (.alloc 6 2000006 [I 0,I 0,.v (.bool false),I 0,.nul]),g0 (.sto 6 (.t 32) (some 5))]
def r_Z153_9 : List GI:=[gs 33 6 5,gt 34 1,gc 35 109 [.t 34],gc 36 153 [.t 33,.t 35],gi 37 (.un 37 UnOp.not (.t 36))]
def r_Z153_10 : List GI:=[gi 4 (.mov 4 (.k (.v (.bool false))))]
def r_Z153_11 : List GI:=[gd 38 .add 29 1,gt 29 38]
def r_Z153_12 : List GI:=[gi 4 (.mov 4 (.k (.v (.bool true))))]
def dc_Z153 : DC:=.seq (.z r_Z153_0) (.seq (.seq (.z r_Z153_1) (.block 0 (.seq (.z r_Z153_2) (.cond (.t 9) (.seq (.reg r_Z153_3 (some [0,1,3,0,8,24,63,127])) .ret) (.seq (.z r_Z153_4) (.cond (.t 18) (.seq (.reg r_Z153_5 (some [0,1,0,4,12,31,63])) .ret) .skip)))))) (.seq (.seq (.z r_Z153_6) (.block 1 (.loop (.seq (.z r_Z153_7) (.seq (.cond (.t 30) .skip (.exit 1)) (.seq (.block 2 (.seq (.z r_Z153_8) (.seq (.reg r_Z153_9 (some [0,0,2,7,15])) (.cond (.t 37) (.seq (.z r_Z153_10) .ret) .skip)))) (.z r_Z153_11))))))) (.seq (.z r_Z153_12) .ret)))
theorem c_Z153 : cfun Tryz.prog [] 106 = some (39,dc_Z153,[(Res.tmp 4)]):=by kernel_rfl
def r_Z196_0 : List GI:=[gk 2 0]
def r_Z196_1 : List GI:=[gk 3 0]
def r_Z196_2 : List GI:=[gt 6 0,gn 7 6,gk 8 0]
def r_Z196_3 : List GI:=[gb 9 .lss 8 7]
def r_Z196_4 : List GI:=[ga 10 6 8 1,gl 11 10,gt 5 11]
def r_Z196_5 : List GI:=[gt 12 3,gt 13 5,gb 14 .add 12 13,gt 3 14]
def r_Z196_6 : List GI:=[gd 15 .add 8 1,gt 8 15]
def r_Z196_7 : List GI:=[gt 16 3,gt 2 16]
def dc_Z196 : DC:=.seq (.z r_Z196_0) (.seq (.z r_Z196_1) (.seq (.seq (.z r_Z196_2) (.block 0 (.loop (.seq (.z r_Z196_3) (.seq (.cond (.t 9) .skip (.exit 0)) (.seq (.block 1 (.seq (.z r_Z196_4) (.z r_Z196_5))) (.z r_Z196_6))))))) (.seq (.z r_Z196_7) .ret)))
theorem c_Z196 : cfun Tryz.prog [] 109 = some (17,dc_Z196,[(Res.tmp 2)]):=by kernel_rfl
def r_Z140_0 : List GI:=[gi 2 (.box 2 2000002 (.t 0) (some 5)),gk 4 0]
def r_Z140_1 : List GI:=[gf 5 2 0,gl 6 5]
def r_Z140_2 : List GI:=[gd 8 .eql 6 3,gt 7 8]
def r_Z140_3 : List GI:=[gf 9 2 2,gl 10 9,gn 11 10,gt 4 11]
def r_Z140_4 : List GI:=[gd 13 .eql 6 4,gt 12 13]
def r_Z140_5 : List GI:=[gd 14 .eql 6 5,gt 12 14]
def r_Z140_6 : List GI:=[gt 15 1,gc 16 109 [.t 15],gt 4 16]
def r_Z140_7 : List GI:=[gd 18 .eql 6 8,gt 17 18]
def r_Z140_8 : List GI:=[gf 19 2 3,gl 20 19,gn 21 20,gd 22 .add 21 1,gt 4 22]
def r_Z140_9 : List GI:=[gt 23 1,gi 24 (.iad 24 23 (.k (I 0)) 1),gl 25 24,gt 4 25]
def dc_Z140 : DC:=.seq (.z r_Z140_0) (.seq (.seq (.z r_Z140_1) (.block 0 (.seq (.z r_Z140_2) (.cond (.t 7) (.seq (.z r_Z140_3) .ret) (.seq (.seq (.z r_Z140_4) (.cond (.t 12) .skip (.z r_Z140_5))) (.cond (.t 12) (.seq (.z r_Z140_6) .ret) (.seq (.z r_Z140_7) (.cond (.t 17) (.seq (.z r_Z140_8) .ret) .skip)))))))) (.seq (.z r_Z140_9) .ret))
theorem c_Z140 : cfun Tryz.prog [] 65 = some (26,dc_Z140,[(Res.tmp 4)]):=by kernel_rfl
end
end Go.Proofs.YtefldihjbaodnaaGreat
namespace Go.Proofs.YtefldihjbaodnaaGreat
open Go.RowKit
noncomputable section
def r_Z85_0 : List GI:=[gi 4 (.mov 4 (.k (.v (.bool false))))]
def r_Z85_1 : List GI:=[gt 8 0,gn 9 8,gd 10 .geq 9 6]
def r_Z85_2 : List GI:=[gi 4 (.mov 4 (.k (.v (.bool false))))]
def r_Z85_3 : List GI:=[gi 5 (.mov 5 (.k (.v (.int .i64 (-1)))))]
def r_Z85_4 : List GI:=[gt 11 0,gn 12 11,gk 13 0]
def r_Z85_5 : List GI:=[gb 14 .lss 13 12]
def r_Z85_6 : List GI:=[ga 15 11 13 1,gl 16 15,gt 7 16]
def r_Z85_7 : List GI:=[gt 17 7,gt 18 5,gb 19 .leq 17 18,gt 20 19,⟨.mov 21 (.t 7),some 21,some (20,false),false⟩,⟨.mov 22 (.t 1),some 22,some (20,false),false⟩,⟨.bin 23 .geq (.t 21) (.t 22),some 23,some (20,false),false⟩,gi 24 (.pick 24 (.t 20) (.k (.v (.bool true))) (.t 23))]
def r_Z85_8 : List GI:=[gi 4 (.mov 4 (.k (.v (.bool false))))]
def r_Z85_9 : List GI:=[gt 25 7,gt 5 25]
def r_Z85_10 : List GI:=[gd 26 .add 13 1,gt 13 26]
def r_Z85_11 : List GI:=[gi 4 (.mov 4 (.k (.v (.bool true))))]
def dc_Z85 : DC:=.seq (.z r_Z85_0) (.seq (.seq (.z r_Z85_1) (.cond (.t 10) (.seq (.z r_Z85_2) .ret) .skip)) (.seq (.z r_Z85_3) (.seq (.seq (.z r_Z85_4) (.block 0 (.loop (.seq (.z r_Z85_5) (.seq (.cond (.t 14) .skip (.exit 0)) (.seq (.block 1 (.seq (.z r_Z85_6) (.seq (.seq (.z r_Z85_7) (.cond (.t 24) (.seq (.z r_Z85_8) .ret) .skip)) (.z r_Z85_9)))) (.z r_Z85_10))))))) (.seq (.z r_Z85_11) .ret))))
theorem c_Z85 : cfun Tryz.prog [] 152 = some (27,dc_Z85,[(Res.tmp 4)]):=by kernel_rfl
def r_Z105_0 : List GI:=[gi 2 (.mov 2 (.k (.v (.bool false))))]
def r_Z105_1 : List GI:=[gt 5 0,gn 6 5,gd 7 .lss 6 1,gt 8 7,⟨.mov 9 (.t 0),some 9,some (8,false),false⟩,⟨.len 10 (.t 9),some 10,some (8,false),false⟩,⟨.bin 11 .gtr (.t 10) (.k (I 4)),some 11,some (8,false),false⟩,gi 12 (.pick 12 (.t 8) (.k (.v (.bool true))) (.t 11))]
def r_Z105_2 : List GI:=[gi 2 (.mov 2 (.k (.v (.bool false))))]
def r_Z105_3 : List GI:=[gt 13 0,gn 14 13,gk 15 0]
def r_Z105_4 : List GI:=[gb 16 .lss 15 14]
def r_Z105_5 : List GI:=[ga 17 13 15 1,gl 18 17,gt 4 18]
def r_Z105_6 : List GI:=[gt 19 4,gc 20 104 [.t 19],gi 21 (.un 21 UnOp.not (.t 20))]
def r_Z105_7 : List GI:=[gi 2 (.mov 2 (.k (.v (.bool false))))]
def r_Z105_8 : List GI:=[gd 22 .add 15 1,gt 15 22]
def r_Z105_9 : List GI:=[gi 2 (.mov 2 (.k (.v (.bool true))))]
def dc_Z105 : DC:=.seq (.z r_Z105_0) (.seq (.seq (.z r_Z105_1) (.cond (.t 12) (.seq (.z r_Z105_2) .ret) .skip)) (.seq (.seq (.z r_Z105_3) (.block 0 (.loop (.seq (.z r_Z105_4) (.seq (.cond (.t 16) .skip (.exit 0)) (.seq (.block 1 (.seq (.z r_Z105_5) (.seq (.z r_Z105_6) (.cond (.t 21) (.seq (.z r_Z105_7) .ret) .skip)))) (.z r_Z105_8))))))) (.seq (.z r_Z105_9) .ret)))
theorem c_Z105 : cfun Tryz.prog [] 62 = some (23,dc_Z105,[(Res.tmp 2)]):=by kernel_rfl
def r_Z90_0 : List GI:=[gk 4 0]
def r_Z90_1 : List GI:=[gk 5 0]
def r_Z90_2 : List GI:=[gt 6 5,gt 7 0,gn 8 7,gb 9 .lss 6 8]
def r_Z90_3 : List GI:=[gt 12 0,gt 13 5,ga 14 12 13 5,gs 15 14 5,gt 16 1,gc 17 128 [.t 15,.t 16],gi 18 (.un 18 UnOp.not (.t 17))]
def r_Z90_4 : List GI:=[gk 4 0]
def r_Z90_5 : List GI:=[gt 10 5,gd 11 .add 10 1,gt 5 11]
def r_Z90_6 : List GI:=[gt 19 0,gn 20 19,gd 21 .gtr 20 6]
def r_Z90_7 : List GI:=[gk 4 0]
def r_Z90_8 : List GI:=[gt 22 0,gn 23 22,gt 4 23]
def dc_Z90 : DC:=.seq (.z r_Z90_0) (.seq (.seq (.z r_Z90_1) (.block 0 (.loop (.seq (.seq (.z r_Z90_2) (.cond (.t 9) .skip (.exit 0))) (.seq (.block 1 (.seq (.z r_Z90_3) (.cond (.t 18) (.seq (.z r_Z90_4) .ret) .skip))) (.z r_Z90_5)))))) (.seq (.seq (.z r_Z90_6) (.cond (.t 21) (.seq (.z r_Z90_7) .ret) .skip)) (.seq (.z r_Z90_8) .ret)))
theorem c_Z90 : cfun Tryz.prog [] 129 = some (24,dc_Z90,[(Res.tmp 4)]):=by kernel_rfl
def r_Z150_0 : List GI:=[gi 4 (.mov 4 (.k (.v (.bool false))))]
def r_Z150_1 : List GI:=[gk 5 0]
def r_Z150_2 : List GI:=[gt 6 5,gt 7 0,gn 8 7,gb 9 .lss 6 8]
def r_Z150_3 : List GI:=[gt 12 0,gt 13 5,ga 14 12 13 1,gl 15 14,gt 16 1,gd 17 .sub 16 1,gc 18 126 [.t 15,.k (I 0),.t 17],gi 19 (.un 19 UnOp.not (.t 18)),gt 20 19,⟨.mov 21 (.t 5),some 21,some (20,false),false⟩,⟨.bin 22 .gtr (.t 21) (.k (I 0)),some 22,some (20,false),false⟩,⟨.mov 23 (.t 22),some 23,some (20,false),false⟩,⟨.mov 24 (.t 0),some 24,some (23,true),false⟩,⟨.mov 25 (.t 5),some 25,some (23,true),false⟩,⟨.iad 26 24 (.t 25) 1,some 26,some (23,true),false⟩,⟨.lod 27 26 none,some 27,some (23,true),false⟩,⟨.mov 28 (.t 0),some 28,some (23,true),false⟩,⟨.mov 29 (.t 5),some 29,some (23,true),false⟩,⟨.bin 30 .sub (.t 29) (.k (I 1)),some 30,some (23,true),false⟩,⟨.iad 31 28 (.t 30) 1,some 31,some (23,true),false⟩,⟨.lod 32 31 none,some 32,some (23,true),false⟩,⟨.bin 33 .leq (.t 27) (.t 32),some 33,some (23,true),false⟩,⟨.pick 34 (.t 23) (.t 33) (.k (.v (.bool false))),some 34,some (20,false),false⟩,gi 35 (.pick 35 (.t 20) (.k (.v (.bool true))) (.t 34))]
def r_Z150_4 : List GI:=[gi 4 (.mov 4 (.k (.v (.bool false))))]
def r_Z150_5 : List GI:=[gt 10 5,gd 11 .add 10 1,gt 5 11]
def r_Z150_6 : List GI:=[gi 4 (.mov 4 (.k (.v (.bool true))))]
def dc_Z150 : DC:=.seq (.z r_Z150_0) (.seq (.seq (.z r_Z150_1) (.block 0 (.loop (.seq (.seq (.z r_Z150_2) (.cond (.t 9) .skip (.exit 0))) (.seq (.block 1 (.seq (.reg r_Z150_3 (some [0,0,3,7,0,16,63,127,255,511,1023,2047,4095,4095,16383,32767,4095,4095,135167,462847,987135,2097151,4194303,8388607])) (.cond (.t 35) (.seq (.z r_Z150_4) .ret) .skip))) (.z r_Z150_5)))))) (.seq (.z r_Z150_6) .ret))
theorem c_Z150 : cfun Tryz.prog [] 130 = some (36,dc_Z150,[(Res.tmp 4)]):=by kernel_rfl
def r_Z114_0 : List GI:=[gi 2 (.mov 2 (.k (.v (.bool false))))]
def r_Z114_1 : List GI:=[gk 3 0]
def r_Z114_2 : List GI:=[gt 4 3,gt 5 0,gn 6 5,gb 7 .lss 4 6]
def r_Z114_3 : List GI:=[gt 10 0,gt 11 3,ga 12 10 11 1,gl 13 12,gc 14 126 [.t 13,.k (I 1),.k (I 6)],gi 15 (.un 15 UnOp.not (.t 14))]
def r_Z114_4 : List GI:=[gi 2 (.mov 2 (.k (.v (.bool false))))]
def r_Z114_5 : List GI:=[gt 8 3,gd 9 .add 8 1,gt 3 9]
def r_Z114_6 : List GI:=[gt 16 0,gn 17 16,gc 18 126 [.t 17,.k (I 1),.k (I 4)],gt 2 18]
def dc_Z114 : DC:=.seq (.z r_Z114_0) (.seq (.seq (.z r_Z114_1) (.block 0 (.loop (.seq (.seq (.z r_Z114_2) (.cond (.t 7) .skip (.exit 0))) (.seq (.block 1 (.seq (.z r_Z114_3) (.cond (.t 15) (.seq (.z r_Z114_4) .ret) .skip))) (.z r_Z114_5)))))) (.seq (.z r_Z114_6) .ret))
theorem c_Z114 : cfun Tryz.prog [] 71 = some (19,dc_Z114,[(Res.tmp 2)]):=by kernel_rfl
end
end Go.Proofs.YtefldihjbaodnaaGreat
namespace Go.Proofs.YtefldihjbaodnaaGreat
open Go.RowKit
noncomputable section
def r_Z79_0 : List GI:=[gi 1 (.box 1 2000001 (.t 0) (some 5)),gi 2 (.mov 2 (.k (.v (.bool false))))]
def r_Z79_1 : List GI:=[gf 6 1 0,gl 7 6,gc 8 151 [.t 7],gt 5 8,gi 9 (.ext 9 5 0),gi 10 (.ext 10 5 1),gi 3 (.alloc 3 2000003 [I 0,I 0,I 0]),g0 (.sto 3 (.t 9) (some 3)),gt 4 10]
def r_Z79_2 : List GI:=[gt 12 4,gi 13 (.un 13 UnOp.not (.t 12)),gt 14 13,⟨.fad 15 1 4,some 15,some (14,false),false⟩,⟨.lod 16 15 none,some 16,some (14,false),false⟩,⟨.len 17 (.t 16),some 17,some (14,false),false⟩,⟨.fad 18 3 2,some 18,some (14,false),false⟩,⟨.lod 19 18 none,some 19,some (14,false),false⟩,⟨.bin 20 .neq (.t 17) (.t 19),some 20,some (14,false),false⟩,gi 21 (.pick 21 (.t 14) (.k (.v (.bool true))) (.t 20)),gt 11 21]
def r_Z79_3 : List GI:=[gi 2 (.mov 2 (.k (.v (.bool false))))]
def r_Z79_4 : List GI:=[gf 23 1 2,gl 24 23,gn 25 24,gf 26 3 0,gl 27 26,gb 28 .lss 25 27,gt 29 28,⟨.fad 30 1 2,some 30,some (29,false),false⟩,⟨.lod 31 30 none,some 31,some (29,false),false⟩,⟨.len 32 (.t 31),some 32,some (29,false),false⟩,⟨.fad 33 3 1,some 33,some (29,false),false⟩,⟨.lod 34 33 none,some 34,some (29,false),false⟩,⟨.bin 35 .gtr (.t 32) (.t 34),some 35,some (29,false),false⟩,gi 36 (.pick 36 (.t 29) (.k (.v (.bool true))) (.t 35)),gt 22 36]
def r_Z79_5 : List GI:=[gi 2 (.mov 2 (.k (.v (.bool false))))]
def r_Z79_6 : List GI:=[gf 38 1 0,gl 39 38,gd 40 .neq 39 1,gt 41 40,⟨.fad 42 1 1,some 42,some (41,true),false⟩,⟨.lod 43 42 none,some 43,some (41,true),false⟩,⟨.bin 44 .neq (.t 43) (.k (I 0)),some 44,some (41,true),false⟩,gi 45 (.pick 45 (.t 41) (.t 44) (.k (.v (.bool false)))),gt 37 45]
def r_Z79_7 : List GI:=[gi 2 (.mov 2 (.k (.v (.bool false))))]
def r_Z79_8 : List GI:=[gf 46 1 0,gl 47 46,gd 48 .eql 47 8,gt 49 48,⟨.fad 50 1 3,some 50,some (49,false),false⟩,⟨.lod 51 50 none,some 51,some (49,false),false⟩,⟨.len 52 (.t 51),some 52,some (49,false),false⟩,⟨.bin 53 .eql (.t 52) (.k (I 0)),some 53,some (49,false),false⟩,gi 54 (.pick 54 (.t 49) (.k (.v (.bool true))) (.t 53)),gt 2 54]
def dc_Z79 : DC:=.seq (.z r_Z79_0) (.seq (.z r_Z79_1) (.seq (.block 0 (.seq (.z r_Z79_2) (.cond (.t 11) (.seq (.z r_Z79_3) .ret) (.seq (.z r_Z79_4) (.cond (.t 22) (.seq (.z r_Z79_5) .ret) (.seq (.z r_Z79_6) (.cond (.t 37) (.seq (.z r_Z79_7) .ret) .skip))))))) (.seq (.z r_Z79_8) .ret)))
theorem c_Z79 : cfun Tryz.prog [] 105 = some (55,dc_Z79,[(Res.tmp 2)]):=by kernel_rfl
def r_Z180_0 : List GI:=[gi 2 (.alloc 2 2000002 [I 0,I 0,I 0]),gi 3 (.mov 3 (.k (.v (.bool false))))]
def r_Z180_1 : List GI:=[gt 4 0]
def r_Z180_2 : List GI:=[gd 6 .eql 4 1,gt 5 6]
def r_Z180_3 : List GI:=[gi 7 (.build 7 [I 0,I 0,I 0] []),g0 (.sto 2 (.t 7) (some 3)),gi 3 (.mov 3 (.k (.v (.bool true))))]
def r_Z180_4 : List GI:=[gd 9 .eql 4 2,gt 8 9]
def r_Z180_5 : List GI:=[gi 10 (.build 10 [I 0,I 0,I 0] [(0,(none,.k (I 1))),(1,(none,.k (I 1))),(2,(none,.k (I 1)))]),g0 (.sto 2 (.t 10) (some 3)),gi 3 (.mov 3 (.k (.v (.bool true))))]
def r_Z180_6 : List GI:=[gd 12 .eql 4 3,gt 11 12]
def r_Z180_7 : List GI:=[gi 13 (.build 13 [I 0,I 0,I 0] [(0,(none,.k (I 1))),(1,(none,.k (I 6))),(2,(none,.k (I 1)))]),g0 (.sto 2 (.t 13) (some 3)),gi 3 (.mov 3 (.k (.v (.bool true))))]
def r_Z180_8 : List GI:=[gd 15 .eql 4 4,gt 14 15]
def r_Z180_9 : List GI:=[gd 16 .eql 4 5,gt 14 16]
def r_Z180_10 : List GI:=[gi 17 (.build 17 [I 0,I 0,I 0] [(0,(none,.k (I 1))),(1,(none,.k (I 1))),(2,(none,.k (I 2)))]),g0 (.sto 2 (.t 17) (some 3)),gi 3 (.mov 3 (.k (.v (.bool true))))]
def r_Z180_11 : List GI:=[gd 19 .eql 4 6,gt 18 19]
def r_Z180_12 : List GI:=[gi 20 (.build 20 [I 0,I 0,I 0] [(2,(none,.k (I 2)))]),g0 (.sto 2 (.t 20) (some 3)),gi 3 (.mov 3 (.k (.v (.bool true))))]
def r_Z180_13 : List GI:=[gd 22 .eql 4 7,gt 21 22]
def r_Z180_14 : List GI:=[gd 23 .eql 4 8,gt 21 23]
def r_Z180_15 : List GI:=[gi 24 (.build 24 [I 0,I 0,I 0] [(2,(none,.k (I 1)))]),g0 (.sto 2 (.t 24) (some 3)),gi 3 (.mov 3 (.k (.v (.bool true))))]
def r_Z180_16 : List GI:=[gi 25 (.build 25 [I 0,I 0,I 0] []),g0 (.sto 2 (.t 25) (some 3)),gi 3 (.mov 3 (.k (.v (.bool false))))]
def dc_Z180 : DC:=.seq (.z r_Z180_0) (.seq (.seq (.z r_Z180_1) (.block 0 (.seq (.z r_Z180_2) (.cond (.t 5) (.seq (.z r_Z180_3) .ret) (.seq (.z r_Z180_4) (.cond (.t 8) (.seq (.z r_Z180_5) .ret) (.seq (.z r_Z180_6) (.cond (.t 11) (.seq (.z r_Z180_7) .ret) (.seq (.seq (.z r_Z180_8) (.cond (.t 14) .skip (.z r_Z180_9))) (.cond (.t 14) (.seq (.z r_Z180_10) .ret) (.seq (.z r_Z180_11) (.cond (.t 18) (.seq (.z r_Z180_12) .ret) (.seq (.seq (.z r_Z180_13) (.cond (.t 21) .skip (.z r_Z180_14))) (.cond (.t 21) (.seq (.z r_Z180_15) .ret) .skip)))))))))))))) (.seq (.z r_Z180_16) .ret))
theorem c_Z180 : cfun Tryz.prog [] 151 = some (26,dc_Z180,[(Res.cell 2 (some 3)),(Res.tmp 3)]):=by kernel_rfl
def r_Z127_0 : List GI:=[gi 1 (.box 1 2000001 (.t 0) (some 5)),gi 2 (.mov 2 (.k (.v (.bool false))))]
def r_Z127_1 : List GI:=[gk 3 1]
def r_Z127_2 : List GI:=[gk 4 0]
def r_Z127_3 : List GI:=[gf 5 1 0,gl 6 5]
def r_Z127_4 : List GI:=[gd 8 .eql 6 1,gt 7 8]
def r_Z127_5 : List GI:=[gk 3 0]
def r_Z127_6 : List GI:=[gd 10 .eql 6 4,gt 9 10]
def r_Z127_7 : List GI:=[gd 11 .eql 6 5,gt 9 11]
def r_Z127_8 : List GI:=[gk 3 2]
def r_Z127_9 : List GI:=[gk 4 1]
def r_Z127_10 : List GI:=[gd 13 .eql 6 6,gt 12 13]
def r_Z127_11 : List GI:=[gk 3 2]
def r_Z127_12 : List GI:=[gd 15 .eql 6 2,gt 14 15]
def r_Z127_13 : List GI:=[gk 4 1]
def r_Z127_14 : List GI:=[gd 17 .eql 6 3,gt 16 17]
def r_Z127_15 : List GI:=[gf 18 1 2,gl 19 18,gn 20 19,gt 4 20]
def r_Z127_16 : List GI:=[gf 21 1 0,gl 22 21,gc 23 126 [.t 22,.k (I 1),.k (I 8)],gt 24 23,⟨.fad 25 1 4,some 25,some (24,true),false⟩,⟨.lod 26 25 none,some 26,some (24,true),false⟩,⟨.len 27 (.t 26),some 27,some (24,true),false⟩,⟨.mov 28 (.t 3),some 28,some (24,true),false⟩,⟨.bin 29 .eql (.t 27) (.t 28),some 29,some (24,true),false⟩,gi 30 (.pick 30 (.t 24) (.t 29) (.k (.v (.bool false)))),gt 31 30,⟨.fad 32 1 2,some 32,some (31,true),false⟩,⟨.lod 33 32 none,some 33,some (31,true),false⟩,⟨.len 34 (.t 33),some 34,some (31,true),false⟩,⟨.mov 35 (.t 4),some 35,some (31,true),false⟩,⟨.bin 36 .eql (.t 34) (.t 35),some 36,some (31,true),false⟩,gi 37 (.pick 37 (.t 31) (.t 36) (.k (.v (.bool false)))),gt 38 37,⟨.fad 39 1 1,some 39,some (38,true),false⟩,⟨.lod 40 39 none,some 40,some (38,true),false⟩,⟨.bin 41 .eql (.t 40) (.k (I 0)),some 41,some (38,true),false⟩,⟨.mov 42 (.t 41),some 42,some (38,true),false⟩,⟨.fad 43 1 0,some 43,some (42,false),false⟩,⟨.lod 44 43 none,some 44,some (42,false),false⟩,⟨.bin 45 .eql (.t 44) (.k (I 1)),some 45,some (42,false),false⟩,⟨.pick 46 (.t 42) (.k (.v (.bool true))) (.t 45),some 46,some (38,true),false⟩,gi 47 (.pick 47 (.t 38) (.t 46) (.k (.v (.bool false)))),gt 48 47,⟨.fad 49 1 3,some 49,some (48,true),false⟩,⟨.lod 50 49 none,some 50,some (48,true),false⟩,⟨.len 51 (.t 50),some 51,some (48,true),false⟩,⟨.bin 52 .eql (.t 51) (.k (I 0)),some 52,some (48,true),false⟩,⟨.mov 53 (.t 52),some 53,some (48,true),false⟩,⟨.fad 54 1 0,some 54,some (53,false),false⟩,⟨.lod 55 54 none,some 55,some (53,false),false⟩,⟨.bin 56 .eql (.t 55) (.k (I 8)),some 56,some (53,false),false⟩,⟨.pick 57 (.t 53) (.k (.v (.bool true))) (.t 56),some 57,some (48,true),false⟩,gi 58 (.pick 58 (.t 48) (.t 57) (.k (.v (.bool false)))),gt 2 58]
def dc_Z127 : DC:=.seq (.z r_Z127_0) (.seq (.z r_Z127_1) (.seq (.z r_Z127_2) (.seq (.seq (.z r_Z127_3) (.block 0 (.seq (.z r_Z127_4) (.cond (.t 7) (.z r_Z127_5) (.seq (.seq (.z r_Z127_6) (.cond (.t 9) .skip (.z r_Z127_7))) (.cond (.t 9) (.seq (.z r_Z127_8) (.z r_Z127_9)) (.seq (.z r_Z127_10) (.cond (.t 12) (.z r_Z127_11) (.seq (.z r_Z127_12) (.cond (.t 14) (.z r_Z127_13) (.seq (.z r_Z127_14) (.cond (.t 16) (.z r_Z127_15) .skip)))))))))))) (.seq (.z r_Z127_16) .ret))))
theorem c_Z127 : cfun Tryz.prog [] 127 = some (59,dc_Z127,[(Res.tmp 2)]):=by kernel_rfl
end
end Go.Proofs.YtefldihjbaodnaaGreat
