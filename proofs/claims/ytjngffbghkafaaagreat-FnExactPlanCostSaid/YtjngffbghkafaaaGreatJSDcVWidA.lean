/-
  Functions of the program read as code on plain data. Closed facts of the program alone.
-/
import Derived.KernelRfl
import Derived.Test.YtjngffbghkafaaaGreatRows
import Derived.Test.YtjngffbghkafaaaGreatJSVGo
import Derived.Test.YtjngffbghkafaaaGreatJSVGi
namespace Go.Proofs.YtjngffbghkafaaaGreat
open Go.RowKit
noncomputable section
def r_Z95_0 : List GI:=[gi 2 (.box 2 2000002 (.t 0) (some 5)),gk 4 0]
def r_Z95_1 : List GI:=[gt 5 1,gc 6 81 [.t 5],gi 7 (.un 7 UnOp.not (.t 6))]
def r_Z95_2 : List GI:=[gk 4 0]
def r_Z95_3 : List GI:=[gs 8 2 5,gt 9 1,gc 10 82 [.t 8,.t 9,.k (I 8)],gt 4 10]
def dc_Z95 : DC:=.seq (.z r_Z95_0) (.seq (.seq (.z r_Z95_1) (.cond (.t 7) (.seq (.z r_Z95_2) .ret) .skip)) (.seq (.z r_Z95_3) .ret))
theorem c_Z95 : cfun Tryz.prog [] 44 = some (11,dc_Z95,[(Res.tmp 4)]):=by kernel_rfl
def r_Z152_0 : List GI:=[gi 2 (.box 2 2000002 (.t 0) (some 5)),gk 4 0]
def r_Z152_1 : List GI:=[gt 5 1,gc 6 76 [.t 5],gi 7 (.un 7 UnOp.not (.t 6))]
def r_Z152_2 : List GI:=[gk 4 0]
def r_Z152_3 : List GI:=[gs 8 2 5,gt 9 1,gc 10 77 [.t 8,.t 9,.k (I 8)],gt 4 10]
def dc_Z152 : DC:=.seq (.z r_Z152_0) (.seq (.seq (.z r_Z152_1) (.cond (.t 7) (.seq (.z r_Z152_2) .ret) .skip)) (.seq (.z r_Z152_3) .ret))
theorem c_Z152 : cfun Tryz.prog [] 37 = some (11,dc_Z152,[(Res.tmp 4)]):=by kernel_rfl
end
end Go.Proofs.YtjngffbghkafaaaGreat
namespace Go.Proofs.YtjngffbghkafaaaGreat
open Go.RowKit
noncomputable section
def r_Z110_0 : List GI:=[gi 2 (.box 2 2000002 (.t 0) (some 5)),gi 4 (.mov 4 (.k (.v (.bool false))))]
def r_Z110_1 : List GI:=[gf 7 2 0,gl 8 7]
def r_Z110_2 : List GI:=[gd 10 .eql 8 6,gt 9 10]
def r_Z110_3 : List GI:=[gt 11 1,gi 12 (.iad 12 11 (.k (I 0)) 1),gl 13 12,gt 14 1,gi 15 (.iad 15 14 (.k (I 1)) 1),gl 16 15,gb 17 .eql 13 16,gt 4 17]
def r_Z110_4 : List GI:=[gd 19 .eql 8 8,gt 18 19]
def r_Z110_5 : List GI:=[gf 20 2 3,gl 21 20,gt 22 1,gi 23 (.iad 23 22 (.k (I 0)) 1),gl 24 23,gc 25 172 [.t 21,.t 24],gt 4 25]
def r_Z110_6 : List GI:=[gf 26 2 2,gl 27 26,gn 28 27,gk 29 0]
def r_Z110_7 : List GI:=[gb 30 .lss 29 28]
def r_Z110_8 : List GI:=[ga 31 27 29 5,gs 32 31 5,gi 6 (.alloc 6 2000006 [I 0,I 0,.v (.bool false),I 0,.nul]),g0 (.sto 6 (.t 32) (some 5))]
def r_Z110_9 : List GI:=[gs 33 6 5,gt 34 1,gc 35 143 [.t 34],gc 36 173 [.t 33,.t 35],gi 37 (.un 37 UnOp.not (.t 36))]
def r_Z110_10 : List GI:=[gi 4 (.mov 4 (.k (.v (.bool false))))]
def r_Z110_11 : List GI:=[gd 38 .add 29 1,gt 29 38]
def r_Z110_12 : List GI:=[gi 4 (.mov 4 (.k (.v (.bool true))))]
def dc_Z110 : DC:=.seq (.z r_Z110_0) (.seq (.seq (.z r_Z110_1) (.block 0 (.seq (.z r_Z110_2) (.cond (.t 9) (.seq (.reg r_Z110_3 (some [0,1,3,0,8,24,63,127])) .ret) (.seq (.z r_Z110_4) (.cond (.t 18) (.seq (.reg r_Z110_5 (some [0,1,0,4,12,31,63])) .ret) .skip)))))) (.seq (.seq (.z r_Z110_6) (.block 1 (.loop (.seq (.z r_Z110_7) (.seq (.cond (.t 30) .skip (.exit 1)) (.seq (.block 2 (.seq (.z r_Z110_8) (.seq (.reg r_Z110_9 (some [0,0,2,7,15])) (.cond (.t 37) (.seq (.z r_Z110_10) .ret) .skip)))) (.z r_Z110_11))))))) (.seq (.z r_Z110_12) .ret)))
theorem c_Z110 : cfun Tryz.prog [] 134 = some (39,dc_Z110,[(Res.tmp 4)]):=by kernel_rfl
def r_Z166_0 : List GI:=[gk 2 0]
def r_Z166_1 : List GI:=[gk 3 0]
def r_Z166_2 : List GI:=[gt 6 0,gn 7 6,gk 8 0]
def r_Z166_3 : List GI:=[gb 9 .lss 8 7]
def r_Z166_4 : List GI:=[ga 10 6 8 1,gl 11 10,gt 5 11]
def r_Z166_5 : List GI:=[gt 12 3,gt 13 5,gb 14 .add 12 13,gt 3 14]
def r_Z166_6 : List GI:=[gd 15 .add 8 1,gt 8 15]
def r_Z166_7 : List GI:=[gt 16 3,gt 2 16]
def dc_Z166 : DC:=.seq (.z r_Z166_0) (.seq (.z r_Z166_1) (.seq (.seq (.z r_Z166_2) (.block 0 (.loop (.seq (.z r_Z166_3) (.seq (.cond (.t 9) .skip (.exit 0)) (.seq (.block 1 (.seq (.z r_Z166_4) (.z r_Z166_5))) (.z r_Z166_6))))))) (.seq (.z r_Z166_7) .ret)))
theorem c_Z166 : cfun Tryz.prog [] 143 = some (17,dc_Z166,[(Res.tmp 2)]):=by kernel_rfl
def r_Z100_0 : List GI:=[gi 2 (.box 2 2000002 (.t 0) (some 5)),gk 4 0]
def r_Z100_1 : List GI:=[gf 5 2 0,gl 6 5]
def r_Z100_2 : List GI:=[gd 8 .eql 6 3,gt 7 8]
def r_Z100_3 : List GI:=[gf 9 2 2,gl 10 9,gn 11 10,gt 4 11]
def r_Z100_4 : List GI:=[gd 13 .eql 6 4,gt 12 13]
def r_Z100_5 : List GI:=[gd 14 .eql 6 5,gt 12 14]
def r_Z100_6 : List GI:=[gt 15 1,gc 16 143 [.t 15],gt 4 16]
def r_Z100_7 : List GI:=[gd 18 .eql 6 8,gt 17 18]
def r_Z100_8 : List GI:=[gf 19 2 3,gl 20 19,gn 21 20,gd 22 .add 21 1,gt 4 22]
def r_Z100_9 : List GI:=[gt 23 1,gi 24 (.iad 24 23 (.k (I 0)) 1),gl 25 24,gt 4 25]
def dc_Z100 : DC:=.seq (.z r_Z100_0) (.seq (.seq (.z r_Z100_1) (.block 0 (.seq (.z r_Z100_2) (.cond (.t 7) (.seq (.z r_Z100_3) .ret) (.seq (.seq (.z r_Z100_4) (.cond (.t 12) .skip (.z r_Z100_5))) (.cond (.t 12) (.seq (.z r_Z100_6) .ret) (.seq (.z r_Z100_7) (.cond (.t 17) (.seq (.z r_Z100_8) .ret) .skip)))))))) (.seq (.z r_Z100_9) .ret))
theorem c_Z100 : cfun Tryz.prog [] 92 = some (26,dc_Z100,[(Res.tmp 4)]):=by kernel_rfl
end
end Go.Proofs.YtjngffbghkafaaaGreat
namespace Go.Proofs.YtjngffbghkafaaaGreat
open Go.RowKit
noncomputable section
def r_Z61_0 : List GI:=[gi 4 (.mov 4 (.k (.v (.bool false))))]
def r_Z61_1 : List GI:=[gt 8 0,gn 9 8,gd 10 .geq 9 6]
def r_Z61_2 : List GI:=[gi 4 (.mov 4 (.k (.v (.bool false))))]
def r_Z61_3 : List GI:=[gi 5 (.mov 5 (.k (.v (.int .i64 (-1)))))]
def r_Z61_4 : List GI:=[gt 11 0,gn 12 11,gk 13 0]
def r_Z61_5 : List GI:=[gb 14 .lss 13 12]
def r_Z61_6 : List GI:=[ga 15 11 13 1,gl 16 15,gt 7 16]
def r_Z61_7 : List GI:=[gt 17 7,gt 18 5,gb 19 .leq 17 18,gt 20 19,⟨.mov 21 (.t 7),some 21,some (20,false),false⟩,⟨.mov 22 (.t 1),some 22,some (20,false),false⟩,⟨.bin 23 .geq (.t 21) (.t 22),some 23,some (20,false),false⟩,gi 24 (.pick 24 (.t 20) (.k (.v (.bool true))) (.t 23))]
def r_Z61_8 : List GI:=[gi 4 (.mov 4 (.k (.v (.bool false))))]
def r_Z61_9 : List GI:=[gt 25 7,gt 5 25]
def r_Z61_10 : List GI:=[gd 26 .add 13 1,gt 13 26]
def r_Z61_11 : List GI:=[gi 4 (.mov 4 (.k (.v (.bool true))))]
def dc_Z61 : DC:=.seq (.z r_Z61_0) (.seq (.seq (.z r_Z61_1) (.cond (.t 10) (.seq (.z r_Z61_2) .ret) .skip)) (.seq (.z r_Z61_3) (.seq (.seq (.z r_Z61_4) (.block 0 (.loop (.seq (.z r_Z61_5) (.seq (.cond (.t 14) .skip (.exit 0)) (.seq (.block 1 (.seq (.z r_Z61_6) (.seq (.seq (.z r_Z61_7) (.cond (.t 24) (.seq (.z r_Z61_8) .ret) .skip)) (.z r_Z61_9)))) (.z r_Z61_10))))))) (.seq (.z r_Z61_11) .ret))))
theorem c_Z61 : cfun Tryz.prog [] 172 = some (27,dc_Z61,[(Res.tmp 4)]):=by kernel_rfl
def r_Z75_0 : List GI:=[gi 2 (.mov 2 (.k (.v (.bool false))))]
def r_Z75_1 : List GI:=[gt 5 0,gn 6 5,gd 7 .lss 6 1,gt 8 7,⟨.mov 9 (.t 0),some 9,some (8,false),false⟩,⟨.len 10 (.t 9),some 10,some (8,false),false⟩,⟨.bin 11 .gtr (.t 10) (.k (I 4)),some 11,some (8,false),false⟩,gi 12 (.pick 12 (.t 8) (.k (.v (.bool true))) (.t 11))]
def r_Z75_2 : List GI:=[gi 2 (.mov 2 (.k (.v (.bool false))))]
def r_Z75_3 : List GI:=[gt 13 0,gn 14 13,gk 15 0]
def r_Z75_4 : List GI:=[gb 16 .lss 15 14]
def r_Z75_5 : List GI:=[ga 17 13 15 1,gl 18 17,gt 4 18]
def r_Z75_6 : List GI:=[gt 19 4,gc 20 132 [.t 19],gi 21 (.un 21 UnOp.not (.t 20))]
def r_Z75_7 : List GI:=[gi 2 (.mov 2 (.k (.v (.bool false))))]
def r_Z75_8 : List GI:=[gd 22 .add 15 1,gt 15 22]
def r_Z75_9 : List GI:=[gi 2 (.mov 2 (.k (.v (.bool true))))]
def dc_Z75 : DC:=.seq (.z r_Z75_0) (.seq (.seq (.z r_Z75_1) (.cond (.t 12) (.seq (.z r_Z75_2) .ret) .skip)) (.seq (.seq (.z r_Z75_3) (.block 0 (.loop (.seq (.z r_Z75_4) (.seq (.cond (.t 16) .skip (.exit 0)) (.seq (.block 1 (.seq (.z r_Z75_5) (.seq (.z r_Z75_6) (.cond (.t 21) (.seq (.z r_Z75_7) .ret) .skip)))) (.z r_Z75_8))))))) (.seq (.z r_Z75_9) .ret)))
theorem c_Z75 : cfun Tryz.prog [] 81 = some (23,dc_Z75,[(Res.tmp 2)]):=by kernel_rfl
def r_Z64_0 : List GI:=[gk 4 0]
def r_Z64_1 : List GI:=[gk 5 0]
def r_Z64_2 : List GI:=[gt 6 5,gt 7 0,gn 8 7,gb 9 .lss 6 8]
def r_Z64_3 : List GI:=[gt 12 0,gt 13 5,ga 14 12 13 5,gs 15 14 5,gt 16 1,gc 17 125 [.t 15,.t 16],gi 18 (.un 18 UnOp.not (.t 17))]
def r_Z64_4 : List GI:=[gk 4 0]
def r_Z64_5 : List GI:=[gt 10 5,gd 11 .add 10 1,gt 5 11]
def r_Z64_6 : List GI:=[gt 19 0,gn 20 19,gd 21 .gtr 20 6]
def r_Z64_7 : List GI:=[gk 4 0]
def r_Z64_8 : List GI:=[gt 22 0,gn 23 22,gt 4 23]
def dc_Z64 : DC:=.seq (.z r_Z64_0) (.seq (.seq (.z r_Z64_1) (.block 0 (.loop (.seq (.seq (.z r_Z64_2) (.cond (.t 9) .skip (.exit 0))) (.seq (.block 1 (.seq (.z r_Z64_3) (.cond (.t 18) (.seq (.z r_Z64_4) .ret) .skip))) (.z r_Z64_5)))))) (.seq (.seq (.z r_Z64_6) (.cond (.t 21) (.seq (.z r_Z64_7) .ret) .skip)) (.seq (.z r_Z64_8) .ret)))
theorem c_Z64 : cfun Tryz.prog [] 126 = some (24,dc_Z64,[(Res.tmp 4)]):=by kernel_rfl
def r_Z107_0 : List GI:=[gi 4 (.mov 4 (.k (.v (.bool false))))]
def r_Z107_1 : List GI:=[gk 5 0]
def r_Z107_2 : List GI:=[gt 6 5,gt 7 0,gn 8 7,gb 9 .lss 6 8]
def r_Z107_3 : List GI:=[gt 12 0,gt 13 5,ga 14 12 13 1,gl 15 14,gt 16 1,gd 17 .sub 16 1,gc 18 67 [.t 15,.k (I 0),.t 17],gi 19 (.un 19 UnOp.not (.t 18)),gt 20 19,⟨.mov 21 (.t 5),some 21,some (20,false),false⟩,⟨.bin 22 .gtr (.t 21) (.k (I 0)),some 22,some (20,false),false⟩,⟨.mov 23 (.t 22),some 23,some (20,false),false⟩,⟨.mov 24 (.t 0),some 24,some (23,true),false⟩,⟨.mov 25 (.t 5),some 25,some (23,true),false⟩,⟨.iad 26 24 (.t 25) 1,some 26,some (23,true),false⟩,⟨.lod 27 26 none,some 27,some (23,true),false⟩,⟨.mov 28 (.t 0),some 28,some (23,true),false⟩,⟨.mov 29 (.t 5),some 29,some (23,true),false⟩,⟨.bin 30 .sub (.t 29) (.k (I 1)),some 30,some (23,true),false⟩,⟨.iad 31 28 (.t 30) 1,some 31,some (23,true),false⟩,⟨.lod 32 31 none,some 32,some (23,true),false⟩,⟨.bin 33 .leq (.t 27) (.t 32),some 33,some (23,true),false⟩,⟨.pick 34 (.t 23) (.t 33) (.k (.v (.bool false))),some 34,some (20,false),false⟩,gi 35 (.pick 35 (.t 20) (.k (.v (.bool true))) (.t 34))]
def r_Z107_4 : List GI:=[gi 4 (.mov 4 (.k (.v (.bool false))))]
def r_Z107_5 : List GI:=[gt 10 5,gd 11 .add 10 1,gt 5 11]
def r_Z107_6 : List GI:=[gi 4 (.mov 4 (.k (.v (.bool true))))]
def dc_Z107 : DC:=.seq (.z r_Z107_0) (.seq (.seq (.z r_Z107_1) (.block 0 (.loop (.seq (.seq (.z r_Z107_2) (.cond (.t 9) .skip (.exit 0))) (.seq (.block 1 (.seq (.reg r_Z107_3 (some [0,0,3,7,0,16,63,127,255,511,1023,2047,4095,4095,16383,32767,4095,4095,135167,462847,987135,2097151,4194303,8388607])) (.cond (.t 35) (.seq (.z r_Z107_4) .ret) .skip))) (.z r_Z107_5)))))) (.seq (.z r_Z107_6) .ret))
theorem c_Z107 : cfun Tryz.prog [] 127 = some (36,dc_Z107,[(Res.tmp 4)]):=by kernel_rfl
def r_Z80_0 : List GI:=[gi 2 (.mov 2 (.k (.v (.bool false))))]
def r_Z80_1 : List GI:=[gk 3 0]
def r_Z80_2 : List GI:=[gt 4 3,gt 5 0,gn 6 5,gb 7 .lss 4 6]
def r_Z80_3 : List GI:=[gt 10 0,gt 11 3,ga 12 10 11 1,gl 13 12,gc 14 67 [.t 13,.k (I 1),.k (I 6)],gi 15 (.un 15 UnOp.not (.t 14))]
def r_Z80_4 : List GI:=[gi 2 (.mov 2 (.k (.v (.bool false))))]
def r_Z80_5 : List GI:=[gt 8 3,gd 9 .add 8 1,gt 3 9]
def r_Z80_6 : List GI:=[gt 16 0,gn 17 16,gc 18 67 [.t 17,.k (I 1),.k (I 4)],gt 2 18]
def dc_Z80 : DC:=.seq (.z r_Z80_0) (.seq (.seq (.z r_Z80_1) (.block 0 (.loop (.seq (.seq (.z r_Z80_2) (.cond (.t 7) .skip (.exit 0))) (.seq (.block 1 (.seq (.z r_Z80_3) (.cond (.t 15) (.seq (.z r_Z80_4) .ret) .skip))) (.z r_Z80_5)))))) (.seq (.z r_Z80_6) .ret))
theorem c_Z80 : cfun Tryz.prog [] 76 = some (19,dc_Z80,[(Res.tmp 2)]):=by kernel_rfl
end
end Go.Proofs.YtjngffbghkafaaaGreat
