/-
  Functions of the program read as code on plain data. Closed facts of the program alone.
-/
import Derived.KernelRfl
import Derived.Test.YtedmegmhjmabcaaRows
import Derived.Test.YtedmegmhjmabcaaJSVLib
import Derived.Test.YtedmegmhjmabcaaJSVTbD
namespace Go.Proofs.Ytedmegmhjmabcaa
open Go.RowKit
noncomputable section
def r_Z6_0 : List GI:=[gk 4 0]
def r_Z6_1 : List GI:=[gt 7 0,gc 8 132 [.t 7],gt 5 8]
def r_Z6_2 : List GI:=[gt 9 1,gc 10 132 [.t 9],gt 6 10]
def r_Z6_3 : List GI:=[gt 11 5]
def r_Z6_4 : List GI:=[gt 12 6]
def r_Z6_5 : List GI:=[gk 4 0]
def r_Z6_6 : List GI:=[gi 4 (.mov 4 (.k (.v (.int .i64 (-1)))))]
def r_Z6_7 : List GI:=[gt 13 6]
def r_Z6_8 : List GI:=[gk 4 1]
def r_Z6_9 : List GI:=[gt 14 0,gt 15 1,gb 16 .lss 14 15]
def r_Z6_10 : List GI:=[gi 4 (.mov 4 (.k (.v (.int .i64 (-1)))))]
def r_Z6_11 : List GI:=[gt 17 0,gt 18 1,gb 19 .gtr 17 18]
def r_Z6_12 : List GI:=[gk 4 1]
def r_Z6_13 : List GI:=[gk 4 0]
def dc_Z6 : DC:=.seq (.z r_Z6_0) (.seq (.z r_Z6_1) (.seq (.z r_Z6_2) (.seq (.seq (.z r_Z6_3) (.cond (.t 11) (.seq (.seq (.z r_Z6_4) (.cond (.t 12) (.seq (.z r_Z6_5) .ret) .skip)) (.seq (.z r_Z6_6) .ret)) .skip)) (.seq (.seq (.z r_Z6_7) (.cond (.t 13) (.seq (.z r_Z6_8) .ret) .skip)) (.seq (.seq (.z r_Z6_9) (.cond (.t 16) (.seq (.z r_Z6_10) .ret) .skip)) (.seq (.seq (.z r_Z6_11) (.cond (.t 19) (.seq (.z r_Z6_12) .ret) .skip)) (.seq (.z r_Z6_13) .ret)))))))
theorem c_Z6 : cfun Try.prog [] 103 = some (20,dc_Z6,[(Res.tmp 4)]):=by kernel_rfl
def r_Z21_0 : List GI:=[gi 2 (.mov 2 (.k (.v (.bool false))))]
def r_Z21_1 : List GI:=[gt 3 0,gt 4 0,gb 5 .neq 3 4,gt 2 5]
def dc_Z21 : DC:=.seq (.z r_Z21_0) (.seq (.z r_Z21_1) .ret)
theorem c_Z21 : cfun Try.prog [] 132 = some (6,dc_Z21,[(Res.tmp 2)]):=by kernel_rfl
def r_Z7_0 : List GI:=[gi 1 (.box 1 2000001 (.t 0) (some 2)),gi 2 (.mov 2 (.k (.v (.bool false))))]
def r_Z7_1 : List GI:=[gf 3 1 0,gl 4 3]
def r_Z7_2 : List GI:=[gf 5 1 1,gl 6 5,gd 7 .eql 6 0,gt 2 7]
def r_Z7_3 : List GI:=[gf 8 1 1,gl 9 8,gi 10 (.bin 10 .leq (.k (.v (.int .i64 (-9999)))) (.t 9)),gt 11 10,⟨.fad 12 1 1,some 12,some (11,true),false⟩,⟨.lod 13 12 none,some 13,some (11,true),false⟩,⟨.bin 14 .leq (.t 13) (.k (I 9999)),some 14,some (11,true),false⟩,gi 15 (.pick 15 (.t 11) (.t 14) (.k (.v (.bool false)))),gt 2 15]
def dc_Z7 : DC:=.seq (.z r_Z7_0) (.seq (.seq (.z r_Z7_1) (.cond (.t 4) (.seq (.z r_Z7_2) .ret) .skip)) (.seq (.z r_Z7_3) .ret))
theorem c_Z7 : cfun Try.prog [] 160 = some (16,dc_Z7,[(Res.tmp 2)]):=by kernel_rfl
def r_Z31_0 : List GI:=[gi 2 (.mov 2 (.k (.v (.bool false))))]
def r_Z31_1 : List GI:=[gt 3 0,gn 4 3,gc 5 126 [.t 4],gt 6 5,⟨.mov 7 (.t 0),some 7,some (6,true),false⟩,⟨.call 8 144 [.t 7],some 8,some (6,true),true⟩,gi 9 (.pick 9 (.t 6) (.t 8) (.k (.v (.bool false)))),gt 2 9]
def dc_Z31 : DC:=.seq (.z r_Z31_0) (.seq (.z r_Z31_1) .ret)
theorem c_Z31 : cfun Try.prog [] 127 = some (10,dc_Z31,[(Res.tmp 2)]):=by kernel_rfl
def r_Z10_0 : List GI:=[gi 2 (.mov 2 (.k (.v (.bool false))))]
def r_Z10_1 : List GI:=[gt 5 0,gn 6 5,gk 7 0]
def r_Z10_2 : List GI:=[gb 8 .lss 7 6]
def r_Z10_3 : List GI:=[ga 9 5 7 2,gs 10 9 2,gi 4 (.alloc 4 2000004 [.v (.bool false),I 0]),g0 (.sto 4 (.t 10) (some 2))]
def r_Z10_4 : List GI:=[gs 11 4 2,gc 12 160 [.t 11],gi 13 (.un 13 UnOp.not (.t 12))]
def r_Z10_5 : List GI:=[gi 2 (.mov 2 (.k (.v (.bool false))))]
def r_Z10_6 : List GI:=[gd 14 .add 7 1,gt 7 14]
def r_Z10_7 : List GI:=[gi 2 (.mov 2 (.k (.v (.bool true))))]
def dc_Z10 : DC:=.seq (.z r_Z10_0) (.seq (.seq (.z r_Z10_1) (.block 0 (.loop (.seq (.z r_Z10_2) (.seq (.cond (.t 8) .skip (.exit 0)) (.seq (.block 1 (.seq (.z r_Z10_3) (.seq (.z r_Z10_4) (.cond (.t 13) (.seq (.z r_Z10_5) .ret) .skip)))) (.z r_Z10_6))))))) (.seq (.z r_Z10_7) .ret))
theorem c_Z10 : cfun Try.prog [] 144 = some (15,dc_Z10,[(Res.tmp 2)]):=by kernel_rfl
def r_Z16_0 : List GI:=[gi 2 (.mov 2 (.k (.v (.bool false))))]
def r_Z16_1 : List GI:=[gt 3 0,gi 4 (.bin 4 .leq (.k (I 1)) (.t 3)),gt 5 4,⟨.mov 6 (.t 0),some 6,some (5,true),false⟩,⟨.bin 7 .leq (.t 6) (.k (I 6)),some 7,some (5,true),false⟩,gi 8 (.pick 8 (.t 5) (.t 7) (.k (.v (.bool false)))),gt 2 8]
def dc_Z16 : DC:=.seq (.z r_Z16_0) (.seq (.z r_Z16_1) .ret)
theorem c_Z16 : cfun Try.prog [] 126 = some (9,dc_Z16,[(Res.tmp 2)]):=by kernel_rfl
def r_Z44_0 : List GI:=[gi 6 (.mov 6 (.k (.v (.bool false))))]
def r_Z44_1 : List GI:=[gt 7 0,gt 8 1,gb 9 .geq 7 8,gt 10 9,⟨.mov 11 (.t 0),some 11,some (10,true),false⟩,⟨.mov 12 (.t 2),some 12,some (10,true),false⟩,⟨.bin 13 .leq (.t 11) (.t 12),some 13,some (10,true),false⟩,gi 14 (.pick 14 (.t 10) (.t 13) (.k (.v (.bool false)))),gt 6 14]
def dc_Z44 : DC:=.seq (.z r_Z44_0) (.seq (.z r_Z44_1) .ret)
theorem c_Z44 : cfun Try.prog [] 58 = some (15,dc_Z44,[(Res.tmp 6)]):=by kernel_rfl
def r_Z37_0 : List GI:=[gi 2 (.mov 2 (.k (.v (.bool false))))]
def r_Z37_1 : List GI:=[gk 3 0]
def r_Z37_2 : List GI:=[gt 4 3,gt 5 0,gn 6 5,gb 7 .lss 4 6]
def r_Z37_3 : List GI:=[gt 10 0,gt 11 3,ga 12 10 11 2,gs 13 12 2,gc 14 124 [.t 13],gi 15 (.un 15 UnOp.not (.t 14))]
def r_Z37_4 : List GI:=[gi 2 (.mov 2 (.k (.v (.bool false))))]
def r_Z37_5 : List GI:=[gt 8 3,gd 9 .add 8 1,gt 3 9]
def r_Z37_6 : List GI:=[gt 16 0,gn 17 16,gc 18 58 [.t 17,.k (I 1),.k (I 6)],gt 2 18]
def dc_Z37 : DC:=.seq (.z r_Z37_0) (.seq (.seq (.z r_Z37_1) (.block 0 (.loop (.seq (.seq (.z r_Z37_2) (.cond (.t 7) .skip (.exit 0))) (.seq (.block 1 (.seq (.z r_Z37_3) (.cond (.t 15) (.seq (.z r_Z37_4) .ret) .skip))) (.z r_Z37_5)))))) (.seq (.z r_Z37_6) .ret))
theorem c_Z37 : cfun Try.prog [] 92 = some (19,dc_Z37,[(Res.tmp 2)]):=by kernel_rfl
def r_Z20_0 : List GI:=[gi 1 (.box 1 2000001 (.t 0) (some 2)),gi 2 (.mov 2 (.k (.v (.bool false))))]
def r_Z20_1 : List GI:=[gf 3 1 1,gl 4 3,gc 5 58 [.t 4,.k (.v (.int .i64 (-9999))),.k (I 9999)],gt 6 5,⟨.fad 7 1 0,some 7,some (6,true),false⟩,⟨.lod 8 7 none,some 8,some (6,true),false⟩,⟨.un 9 UnOp.not (.t 8),some 9,some (6,true),false⟩,⟨.mov 10 (.t 9),some 10,some (6,true),false⟩,⟨.fad 11 1 1,some 11,some (10,false),false⟩,⟨.lod 12 11 none,some 12,some (10,false),false⟩,⟨.bin 13 .eql (.t 12) (.k (I 0)),some 13,some (10,false),false⟩,⟨.pick 14 (.t 10) (.k (.v (.bool true))) (.t 13),some 14,some (6,true),false⟩,gi 15 (.pick 15 (.t 6) (.t 14) (.k (.v (.bool false)))),gt 2 15]
def dc_Z20 : DC:=.seq (.z r_Z20_0) (.seq (.z r_Z20_1) .ret)
theorem c_Z20 : cfun Try.prog [] 124 = some (16,dc_Z20,[(Res.tmp 2)]):=by kernel_rfl
def r_Z3_0 : List GI:=[gi 2 (.box 2 2000002 (.t 0) (some 2)),gi 3 (.box 3 2000003 (.t 1) (some 2)),gk 4 0]
def r_Z3_1 : List GI:=[gf 6 2 0,gl 7 6,gt 8 7,⟨.fad 9 3 0,some 9,some (8,true),false⟩,⟨.lod 10 9 none,some 10,some (8,true),false⟩,gi 11 (.pick 11 (.t 8) (.t 10) (.k (.v (.bool false)))),gt 5 11]
def r_Z3_2 : List GI:=[gk 4 0]
def r_Z3_3 : List GI:=[gf 13 2 0,gl 14 13,gt 12 14]
def r_Z3_4 : List GI:=[gi 4 (.mov 4 (.k (.v (.int .i64 (-1)))))]
def r_Z3_5 : List GI:=[gf 16 3 0,gl 17 16,gt 15 17]
def r_Z3_6 : List GI:=[gk 4 1]
def r_Z3_7 : List GI:=[gf 18 2 1,gl 19 18,gf 20 3 1,gl 21 20,gc 22 103 [.t 19,.t 21],gt 4 22]
def dc_Z3 : DC:=.seq (.z r_Z3_0) (.seq (.block 0 (.seq (.z r_Z3_1) (.cond (.t 5) (.seq (.z r_Z3_2) .ret) (.seq (.z r_Z3_3) (.cond (.t 12) (.seq (.z r_Z3_4) .ret) (.seq (.z r_Z3_5) (.cond (.t 15) (.seq (.z r_Z3_6) .ret) .skip))))))) (.seq (.z r_Z3_7) .ret))
theorem c_Z3 : cfun Try.prog [] 62 = some (23,dc_Z3,[(Res.tmp 4)]):=by kernel_rfl
def r_Z5_0 : List GI:=[gi 2 (.box 2 2000002 (.t 0) (some 2)),gi 3 (.box 3 2000003 (.t 1) (some 2)),gk 4 0]
def r_Z5_1 : List GI:=[gs 6 2 2,gs 7 3 2,gi 8 (.eqs 8 false [false,true] (.t 6) (.t 7)),gt 5 8]
def r_Z5_2 : List GI:=[gk 4 0]
def r_Z5_3 : List GI:=[gf 10 2 0,gl 11 10,gt 12 11,⟨.fad 13 3 0,some 13,some (12,false),false⟩,⟨.lod 14 13 none,some 14,some (12,false),false⟩,⟨.un 15 UnOp.not (.t 14),some 15,some (12,false),false⟩,⟨.mov 16 (.t 15),some 16,some (12,false),false⟩,⟨.fad 17 2 1,some 17,some (16,true),false⟩,⟨.lod 18 17 none,some 18,some (16,true),false⟩,⟨.fad 19 3 1,some 19,some (16,true),false⟩,⟨.lod 20 19 none,some 20,some (16,true),false⟩,⟨.bin 21 .lss (.t 18) (.t 20),some 21,some (16,true),false⟩,⟨.pick 22 (.t 16) (.t 21) (.k (.v (.bool false))),some 22,some (12,false),false⟩,gi 23 (.pick 23 (.t 12) (.k (.v (.bool true))) (.t 22)),gt 9 23]
def r_Z5_4 : List GI:=[gi 4 (.mov 4 (.k (.v (.int .i64 (-1)))))]
def r_Z5_5 : List GI:=[gk 4 1]
def dc_Z5 : DC:=.seq (.z r_Z5_0) (.seq (.block 0 (.seq (.z r_Z5_1) (.cond (.t 5) (.seq (.z r_Z5_2) .ret) (.seq (.z r_Z5_3) (.cond (.t 9) (.seq (.z r_Z5_4) .ret) .skip))))) (.seq (.z r_Z5_5) .ret))
theorem c_Z5 : cfun Try.prog [] 129 = some (24,dc_Z5,[(Res.tmp 4)]):=by kernel_rfl
def r_Z8_0 : List GI:=[gk 4 0]
def r_Z8_1 : List GI:=[gt 7 0,gn 8 7,gk 9 0]
def r_Z8_2 : List GI:=[gb 10 .lss 9 8]
def r_Z8_3 : List GI:=[gt 11 9,gt 5 11]
def r_Z8_4 : List GI:=[gt 12 0,gt 13 5,ga 14 12 13 2,gs 15 14 2,gt 16 1,gt 17 5,ga 18 16 17 2,gs 19 18 2,gc 20 62 [.t 15,.t 19],gt 6 20]
def r_Z8_5 : List GI:=[gt 21 6,gd 22 .neq 21 0]
def r_Z8_6 : List GI:=[gt 23 6,gt 4 23]
def r_Z8_7 : List GI:=[gd 24 .add 9 1,gt 9 24]
def r_Z8_8 : List GI:=[gk 4 0]
def dc_Z8 : DC:=.seq (.z r_Z8_0) (.seq (.seq (.z r_Z8_1) (.block 0 (.loop (.seq (.z r_Z8_2) (.seq (.cond (.t 10) .skip (.exit 0)) (.seq (.block 1 (.seq (.z r_Z8_3) (.seq (.reg r_Z8_4 (some [0,0,3,7,0,0,48,112,255,511])) (.seq (.z r_Z8_5) (.cond (.t 22) (.seq (.z r_Z8_6) .ret) .skip))))) (.z r_Z8_7))))))) (.seq (.z r_Z8_8) .ret))
theorem c_Z8 : cfun Try.prog [] 90 = some (25,dc_Z8,[(Res.tmp 4)]):=by kernel_rfl
def r_Z13_0 : List GI:=[gk 4 0]
def r_Z13_1 : List GI:=[gk 5 0]
def r_Z13_2 : List GI:=[gt 7 5,gt 8 0,gn 9 8,gb 10 .lss 7 9,gt 11 10,⟨.mov 12 (.t 5),some 12,some (11,true),false⟩,⟨.mov 13 (.t 1),some 13,some (11,true),false⟩,⟨.len 14 (.t 13),some 14,some (11,true),false⟩,⟨.bin 15 .lss (.t 12) (.t 14),some 15,some (11,true),false⟩,gi 16 (.pick 16 (.t 11) (.t 15) (.k (.v (.bool false))))]
def r_Z13_3 : List GI:=[gt 19 0,gt 20 5,ga 21 19 20 2,gs 22 21 2,gt 23 1,gt 24 5,ga 25 23 24 2,gs 26 25 2,gc 27 129 [.t 22,.t 26],gt 6 27]
def r_Z13_4 : List GI:=[gt 28 6,gd 29 .neq 28 0]
def r_Z13_5 : List GI:=[gt 30 6,gt 4 30]
def r_Z13_6 : List GI:=[gt 17 5,gd 18 .add 17 1,gt 5 18]
def r_Z13_7 : List GI:=[gt 31 0,gn 32 31,gt 33 1,gn 34 33,gb 35 .sub 32 34,gt 4 35]
def dc_Z13 : DC:=.seq (.z r_Z13_0) (.seq (.seq (.z r_Z13_1) (.block 0 (.loop (.seq (.seq (.z r_Z13_2) (.cond (.t 16) .skip (.exit 0))) (.seq (.block 1 (.seq (.reg r_Z13_3 (some [0,0,3,7,0,0,48,112,255,511])) (.seq (.z r_Z13_4) (.cond (.t 29) (.seq (.z r_Z13_5) .ret) .skip)))) (.z r_Z13_6)))))) (.seq (.z r_Z13_7) .ret))
theorem c_Z13 : cfun Try.prog [] 100 = some (36,dc_Z13,[(Res.tmp 4)]):=by kernel_rfl
def r_Z23_0 : List GI:=[gi 4 (.mov 4 (.k (.v (.bool false))))]
def r_Z23_1 : List GI:=[gt 7 1,gc 8 126 [.t 7],gi 9 (.un 9 UnOp.not (.t 8)),gt 10 9,⟨.mov 11 (.t 0),some 11,some (10,false),false⟩,⟨.len 12 (.t 11),some 12,some (10,false),false⟩,⟨.bin 13 .gtr (.t 12) (.k (I 400)),some 13,some (10,false),false⟩,gi 14 (.pick 14 (.t 10) (.k (.v (.bool true))) (.t 13))]
def r_Z23_2 : List GI:=[gi 4 (.mov 4 (.k (.v (.bool false))))]
def r_Z23_3 : List GI:=[gt 15 0,gn 16 15,gk 17 0]
def r_Z23_4 : List GI:=[gb 18 .lss 17 16]
def r_Z23_5 : List GI:=[ga 19 15 17 1,gl 20 19,gt 6 20]
def r_Z23_6 : List GI:=[gt 21 6,gn 22 21,gt 23 1,gb 24 .neq 22 23,gt 25 24,⟨.mov 26 (.t 6),some 26,some (25,false),false⟩,⟨.call 27 127 [.t 26],some 27,some (25,false),true⟩,⟨.un 28 UnOp.not (.t 27),some 28,some (25,false),false⟩,gi 29 (.pick 29 (.t 25) (.k (.v (.bool true))) (.t 28))]
def r_Z23_7 : List GI:=[gi 4 (.mov 4 (.k (.v (.bool false))))]
def r_Z23_8 : List GI:=[gd 30 .add 17 1,gt 17 30]
def r_Z23_9 : List GI:=[gi 4 (.mov 4 (.k (.v (.bool true))))]
def dc_Z23 : DC:=.seq (.z r_Z23_0) (.seq (.seq (.z r_Z23_1) (.cond (.t 14) (.seq (.z r_Z23_2) .ret) .skip)) (.seq (.seq (.z r_Z23_3) (.block 0 (.loop (.seq (.z r_Z23_4) (.seq (.cond (.t 18) .skip (.exit 0)) (.seq (.block 1 (.seq (.z r_Z23_5) (.seq (.z r_Z23_6) (.cond (.t 29) (.seq (.z r_Z23_7) .ret) .skip)))) (.z r_Z23_8))))))) (.seq (.z r_Z23_9) .ret)))
theorem c_Z23 : cfun Try.prog [] 94 = some (31,dc_Z23,[(Res.tmp 4)]):=by kernel_rfl
def r_Z19_0 : List GI:=[gi 1 (.box 1 2000001 (.t 0) (some 2)),gi 2 (.mov 2 (.k (.v (.bool false))))]
def r_Z19_1 : List GI:=[gk 3 0]
def r_Z19_2 : List GI:=[gt 4 3,gf 5 1 1,gl 6 5,gn 7 6,gb 8 .lss 4 7]
def r_Z19_3 : List GI:=[gf 11 1 1,gl 12 11,gt 13 3,ga 14 12 13 1,gl 15 14,gc 16 92 [.t 15],gi 17 (.un 17 UnOp.not (.t 16)),gt 18 17,⟨.fad 19 1 1,some 19,some (18,false),false⟩,⟨.lod 20 19 none,some 20,some (18,false),false⟩,⟨.mov 21 (.t 3),some 21,some (18,false),false⟩,⟨.iad 22 20 (.t 21) 1,some 22,some (18,false),false⟩,⟨.lod 23 22 none,some 23,some (18,false),false⟩,⟨.len 24 (.t 23),some 24,some (18,false),false⟩,⟨.fad 25 1 0,some 25,some (18,false),false⟩,⟨.lod 26 25 none,some 26,some (18,false),false⟩,⟨.bin 27 .neq (.t 24) (.t 26),some 27,some (18,false),false⟩,gi 28 (.pick 28 (.t 18) (.k (.v (.bool true))) (.t 27)),gt 29 28,⟨.mov 30 (.t 3),some 30,some (29,false),false⟩,⟨.bin 31 .gtr (.t 30) (.k (I 0)),some 31,some (29,false),false⟩,⟨.mov 32 (.t 31),some 32,some (29,false),false⟩,⟨.fad 33 1 1,some 33,some (32,true),false⟩,⟨.lod 34 33 none,some 34,some (32,true),false⟩,⟨.mov 35 (.t 3),some 35,some (32,true),false⟩,⟨.bin 36 .sub (.t 35) (.k (I 1)),some 36,some (32,true),false⟩,⟨.iad 37 34 (.t 36) 1,some 37,some (32,true),false⟩,⟨.lod 38 37 none,some 38,some (32,true),false⟩,⟨.fad 39 1 1,some 39,some (32,true),false⟩,⟨.lod 40 39 none,some 40,some (32,true),false⟩,⟨.mov 41 (.t 3),some 41,some (32,true),false⟩,⟨.iad 42 40 (.t 41) 1,some 42,some (32,true),false⟩,⟨.lod 43 42 none,some 43,some (32,true),false⟩,⟨.call 44 100 [.t 38,.t 43],some 44,some (32,true),true⟩,⟨.bin 45 .gtr (.t 44) (.k (I 0)),some 45,some (32,true),false⟩,⟨.pick 46 (.t 32) (.t 45) (.k (.v (.bool false))),some 46,some (29,false),false⟩,gi 47 (.pick 47 (.t 29) (.k (.v (.bool true))) (.t 46))]
def r_Z19_4 : List GI:=[gi 2 (.mov 2 (.k (.v (.bool false))))]
def r_Z19_5 : List GI:=[gt 9 3,gd 10 .add 9 1,gt 3 10]
def r_Z19_6 : List GI:=[gf 48 1 0,gl 49 48,gc 50 58 [.t 49,.k (I 1),.k (I 6)],gt 51 50,⟨.fad 52 1 1,some 52,some (51,true),false⟩,⟨.lod 53 52 none,some 53,some (51,true),false⟩,⟨.len 54 (.t 53),some 54,some (51,true),false⟩,⟨.bin 55 .leq (.t 54) (.k (I 400)),some 55,some (51,true),false⟩,gi 56 (.pick 56 (.t 51) (.t 55) (.k (.v (.bool false)))),gt 2 56]
def dc_Z19 : DC:=.seq (.z r_Z19_0) (.seq (.seq (.z r_Z19_1) (.block 0 (.loop (.seq (.seq (.z r_Z19_2) (.cond (.t 8) .skip (.exit 0))) (.seq (.block 1 (.seq (.reg r_Z19_3 (some [0,1,0,7,15,31,63,127,255,511,255,2047,4095,8191,255,16639,65535,131071,262143,524287,1048575,2097151,4194303,8388607,4194303,20971519,67108863,134217727,4194303,272629759,4194303,1883242495,4030726143,8589934591,17179869183,34359738367,68719476735])) (.cond (.t 47) (.seq (.z r_Z19_4) .ret) .skip))) (.z r_Z19_5)))))) (.seq (.z r_Z19_6) .ret))
theorem c_Z19 : cfun Try.prog [] 57 = some (57,dc_Z19,[(Res.tmp 2)]):=by kernel_rfl
def r_Z14_0 : List GI:=[gi 1 (.box 1 2000001 (.t 0) (some 2)),gi 2 (.mov 2 (.k (.v (.bool false))))]
def r_Z14_1 : List GI:=[gf 3 1 1,gl 4 3,gf 5 1 0,gl 6 5,gc 7 94 [.t 4,.t 6],gt 8 7,⟨.fad 9 1 1,some 9,some (8,true),false⟩,⟨.lod 10 9 none,some 10,some (8,true),false⟩,⟨.call 11 109 [.t 10,.k (.fn 90 [])],some 11,some (8,true),true⟩,gi 12 (.pick 12 (.t 8) (.t 11) (.k (.v (.bool false)))),gt 2 12]
def dc_Z14 : DC:=.seq (.z r_Z14_0) (.seq (.z r_Z14_1) .ret)
theorem c_Z14 : cfun Try.prog [] 75 = some (13,dc_Z14,[(Res.tmp 2)]):=by kernel_rfl
def r_Z0_0 : List GI:=[gi 4 (.mov 4 (.k (.v (.bool false))))]
def r_Z0_1 : List GI:=[gt 6 0,gn 7 6,gd 8 .sub 7 1,gt 5 8]
def r_Z0_2 : List GI:=[gt 9 5,gd 10 .gtr 9 0]
def r_Z0_3 : List GI:=[gt 13 1,gt 14 0,gt 15 5,ga 16 14 15 1,gl 17 16,gt 18 0,gt 19 5,gd 20 .sub 19 1,ga 21 18 20 1,gl 22 21,⟨.cal 23 (.t 13) [.t 17,.t 22],some 23,none,true⟩,gd 24 .lss 23 0]
def r_Z0_4 : List GI:=[gi 4 (.mov 4 (.k (.v (.bool false))))]
def r_Z0_5 : List GI:=[gt 11 5,gd 12 .sub 11 1,gt 5 12]
def r_Z0_6 : List GI:=[gi 4 (.mov 4 (.k (.v (.bool true))))]
def dc_Z0 : DC:=.seq (.z r_Z0_0) (.seq (.seq (.z r_Z0_1) (.block 0 (.loop (.seq (.seq (.z r_Z0_2) (.cond (.t 10) .skip (.exit 0))) (.seq (.block 1 (.seq (.reg r_Z0_3 (some [0,0,0,6,14,0,0,64,224,480,1023,2047])) (.cond (.t 24) (.seq (.z r_Z0_4) .ret) .skip))) (.z r_Z0_5)))))) (.seq (.z r_Z0_6) .ret))
theorem c_Z0 : cfun Try.prog [] 109 = some (25,dc_Z0,[(Res.tmp 4)]):=by kernel_rfl
def r_Z22_0 : List GI:=[gi 2 (.mov 2 (.k .nul))]
def r_Z22_1 : List GI:=[gi 3 (.mov 3 (.k .nul))]
def r_Z22_2 : List GI:=[gt 6 0,gn 7 6,gk 8 0]
def r_Z22_3 : List GI:=[gb 9 .lss 8 7]
def r_Z22_4 : List GI:=[ga 10 6 8 1,gl 11 10,gt 5 11]
def r_Z22_5 : List GI:=[gt 12 3,gt 13 5,gc 14 105 [.t 13],gi 15 (.bsl 15 1 none [.nul] [(0,.t 14)]),gi 16 (.app 16 2000016 (.t 12) (.t 15) 1 24),gt 3 16]
def r_Z22_6 : List GI:=[gd 17 .add 8 1,gt 8 17]
def r_Z22_7 : List GI:=[gt 18 3,gt 2 18]
def dc_Z22 : DC:=.seq (.z r_Z22_0) (.seq (.z r_Z22_1) (.seq (.seq (.z r_Z22_2) (.block 0 (.loop (.seq (.z r_Z22_3) (.seq (.cond (.t 9) .skip (.exit 0)) (.seq (.block 1 (.seq (.z r_Z22_4) (.z r_Z22_5))) (.z r_Z22_6))))))) (.seq (.z r_Z22_7) .ret)))
theorem c_Z22 : cfun Try.prog [] 67 = some (19,dc_Z22,[(Res.tmp 2)]):=by kernel_rfl
def r_Z9_0 : List GI:=[gi 4 (.alloc 4 2000004 [I 0,.nul])]
def r_Z9_1 : List GI:=[gt 5 1,⟨.call 6 128 [.t 5,.k (.fn 90 [])],some 6,none,true⟩]
def r_Z9_2 : List GI:=[gt 7 0,gt 8 1,gi 9 (.build 9 [I 0,.nul] [(0,(none,.t 7)),(1,(none,.t 8))]),g0 (.sto 4 (.t 9) (some 2))]
def dc_Z9 : DC:=.seq (.z r_Z9_0) (.seq (.z r_Z9_1) (.seq (.z r_Z9_2) .ret))
theorem c_Z9 : cfun Try.prog [] 95 = some (10,dc_Z9,[(Res.cell 4 (some 2))]):=by kernel_rfl
def r_Z1_0 : List GI:=[gi 2 (.mov 2 (.k .nul))]
def r_Z1_1 : List GI:=[gt 3 0,gi 4 (.isn 4 false (.t 3))]
def r_Z1_2 : List GI:=[gi 2 (.mov 2 (.k .nul))]
def r_Z1_3 : List GI:=[gi 5 (.mov 5 (.k .nul)),gt 6 0,gi 7 (.app 7 2000007 (.t 5) (.t 6) 2 16),gt 2 7]
def dc_Z1 : DC:=.seq (.z r_Z1_0) (.seq (.seq (.z r_Z1_1) (.cond (.t 4) (.seq (.z r_Z1_2) .ret) .skip)) (.seq (.z r_Z1_3) .ret))
theorem c_Z1 : cfun Try.prog [] 105 = some (8,dc_Z1,[(Res.tmp 2)]):=by kernel_rfl
def r_Z43_0 : List GI:=[gi 2 (.mov 2 (.k .nul))]
def r_Z43_1 : List GI:=[gi 3 (.mov 3 (.k .nul)),gt 4 0,gi 5 (.app 5 2000005 (.t 3) (.t 4) 2 16),gt 2 5]
def dc_Z43 : DC:=.seq (.z r_Z43_0) (.seq (.z r_Z43_1) .ret)
theorem c_Z43 : cfun Try.prog [] 107 = some (6,dc_Z43,[(Res.tmp 2)]):=by kernel_rfl
def r_Z29_0 : List GI:=[gi 4 (.mov 4 (.k .nul))]
def r_Z29_1 : List GI:=[gk 5 0]
def r_Z29_2 : List GI:=[gt 9 0,gn 10 9,gt 6 10]
def r_Z29_3 : List GI:=[gt 11 5,gt 12 6,gb 13 .lss 11 12]
def r_Z29_4 : List GI:=[gt 14 5,gt 15 6,gb 16 .add 14 15,gd 17 .quo 16 2,gt 7 17]
def r_Z29_5 : List GI:=[gt 18 0,gt 19 7,ga 20 18 19 1,gl 21 20,gt 22 1,gc 23 100 [.t 21,.t 22],gd 24 .leq 23 0]
def r_Z29_6 : List GI:=[gt 25 7,gd 26 .add 25 1,gt 5 26]
def r_Z29_7 : List GI:=[gt 27 7,gt 6 27]
def r_Z29_8 : List GI:=[gi 28 (.mov 28 (.k .nul)),gt 29 0,gt 30 5,gi 31 (.slc 31 (.t 29) none (some (.t 30)) 1),gi 32 (.app 32 2000032 (.t 28) (.t 31) 1 24),gt 8 32]
def r_Z29_9 : List GI:=[gt 33 8,gt 34 1,gc 35 107 [.t 34],gi 36 (.bsl 36 1 none [.nul] [(0,.t 35)]),gi 37 (.app 37 2000037 (.t 33) (.t 36) 1 24),gt 8 37]
def r_Z29_10 : List GI:=[gt 38 8,gt 39 0,gt 40 5,gi 41 (.slc 41 (.t 39) (some (.t 40)) none 1),gi 42 (.app 42 2000042 (.t 38) (.t 41) 1 24),gt 4 42]
def dc_Z29 : DC:=.seq (.z r_Z29_0) (.seq (.z r_Z29_1) (.seq (.z r_Z29_2) (.seq (.block 0 (.loop (.seq (.seq (.z r_Z29_3) (.cond (.t 13) .skip (.exit 0))) (.block 1 (.seq (.z r_Z29_4) (.seq (.z r_Z29_5) (.cond (.t 24) (.z r_Z29_6) (.z r_Z29_7)))))))) (.seq (.z r_Z29_8) (.seq (.z r_Z29_9) (.seq (.z r_Z29_10) .ret))))))
theorem c_Z29 : cfun Try.prog [] 104 = some (43,dc_Z29,[(Res.tmp 4)]):=by kernel_rfl
end
end Go.Proofs.Ytedmegmhjmabcaa
