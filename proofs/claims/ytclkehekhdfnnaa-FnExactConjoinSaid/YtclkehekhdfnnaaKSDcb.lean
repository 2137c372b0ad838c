/-
  Functions of the program read as code on plain data. Closed facts of the program alone.
-/
import Derived.KernelRfl
import Derived.Test.YtclkehekhdfnnaaRows
import Derived.Test.YtclkehekhdfnnaaJSVLib
import Derived.Test.YtclkehekhdfnnaaKSVGi
namespace Go.Proofs.Ytclkehekhdfnnaa
open Go.RowKit
noncomputable section
def r_Z4_0 : List GI:=[gi 1 (.box 1 2000001 (.t 0) (some 2)),gi 2 (.mov 2 (.k (.v (.bool false))))]
def r_Z4_1 : List GI:=[gf 3 1 0,gl 4 3]
def r_Z4_2 : List GI:=[gf 5 1 1,gl 6 5,gd 7 .eql 6 0,gt 2 7]
def r_Z4_3 : List GI:=[gf 8 1 1,gl 9 8,gi 10 (.bin 10 .leq (.k (.v (.int .i64 (-9999)))) (.t 9)),gt 11 10,⟨.fad 12 1 1,some 12,some (11,true),false⟩,⟨.lod 13 12 none,some 13,some (11,true),false⟩,⟨.bin 14 .leq (.t 13) (.k (I 9999)),some 14,some (11,true),false⟩,gi 15 (.pick 15 (.t 11) (.t 14) (.k (.v (.bool false)))),gt 2 15]
def dc_Z4 : DC:=.seq (.z r_Z4_0) (.seq (.seq (.z r_Z4_1) (.cond (.t 4) (.seq (.z r_Z4_2) .ret) .skip)) (.seq (.z r_Z4_3) .ret))
theorem c_Z4 : cfun Try.prog [] 61 = some (16,dc_Z4,[(Res.tmp 2)]):=by kernel_rfl
def r_Z15_0 : List GI:=[gi 4 (.mov 4 (.k (.v (.bool false))))]
def r_Z15_1 : List GI:=[gt 5 0,gi 6 (.bin 6 .leq (.k (I 0)) (.t 5)),gt 7 6,⟨.mov 8 (.t 0),some 8,some (7,true),false⟩,⟨.mov 9 (.t 1),some 9,some (7,true),false⟩,⟨.bin 10 .lss (.t 8) (.t 9),some 10,some (7,true),false⟩,gi 11 (.pick 11 (.t 7) (.t 10) (.k (.v (.bool false)))),gt 4 11]
def dc_Z15 : DC:=.seq (.z r_Z15_0) (.seq (.z r_Z15_1) .ret)
theorem c_Z15 : cfun Try.prog [] 60 = some (12,dc_Z15,[(Res.tmp 4)]):=by kernel_rfl
def r_Z7_0 : List GI:=[gi 2 (.mov 2 (.k (.v (.bool false))))]
def r_Z7_1 : List GI:=[gt 3 0,gi 4 (.bin 4 .leq (.k (I 1)) (.t 3)),gt 5 4,⟨.mov 6 (.t 0),some 6,some (5,true),false⟩,⟨.bin 7 .leq (.t 6) (.k (I 6)),some 7,some (5,true),false⟩,gi 8 (.pick 8 (.t 5) (.t 7) (.k (.v (.bool false)))),gt 2 8]
def dc_Z7 : DC:=.seq (.z r_Z7_0) (.seq (.z r_Z7_1) .ret)
theorem c_Z7 : cfun Try.prog [] 48 = some (9,dc_Z7,[(Res.tmp 2)]):=by kernel_rfl
def r_Z29_0 : List GI:=[gi 6 (.mov 6 (.k (.v (.bool false))))]
def r_Z29_1 : List GI:=[gt 7 0,gt 8 1,gb 9 .geq 7 8,gt 10 9,⟨.mov 11 (.t 0),some 11,some (10,true),false⟩,⟨.mov 12 (.t 2),some 12,some (10,true),false⟩,⟨.bin 13 .leq (.t 11) (.t 12),some 13,some (10,true),false⟩,gi 14 (.pick 14 (.t 10) (.t 13) (.k (.v (.bool false)))),gt 6 14]
def dc_Z29 : DC:=.seq (.z r_Z29_0) (.seq (.z r_Z29_1) .ret)
theorem c_Z29 : cfun Try.prog [] 45 = some (15,dc_Z29,[(Res.tmp 6)]):=by kernel_rfl
def r_Z8_0 : List GI:=[gi 1 (.box 1 2000001 (.t 0) (some 2)),gi 2 (.mov 2 (.k (.v (.bool false))))]
def r_Z8_1 : List GI:=[gf 3 1 1,gl 4 3,gc 5 45 [.t 4,.k (.v (.int .i64 (-9999))),.k (I 9999)],gt 6 5,⟨.fad 7 1 0,some 7,some (6,true),false⟩,⟨.lod 8 7 none,some 8,some (6,true),false⟩,⟨.un 9 UnOp.not (.t 8),some 9,some (6,true),false⟩,⟨.mov 10 (.t 9),some 10,some (6,true),false⟩,⟨.fad 11 1 1,some 11,some (10,false),false⟩,⟨.lod 12 11 none,some 12,some (10,false),false⟩,⟨.bin 13 .eql (.t 12) (.k (I 0)),some 13,some (10,false),false⟩,⟨.pick 14 (.t 10) (.k (.v (.bool true))) (.t 13),some 14,some (6,true),false⟩,gi 15 (.pick 15 (.t 6) (.t 14) (.k (.v (.bool false)))),gt 2 15]
def dc_Z8 : DC:=.seq (.z r_Z8_0) (.seq (.z r_Z8_1) .ret)
theorem c_Z8 : cfun Try.prog [] 58 = some (16,dc_Z8,[(Res.tmp 2)]):=by kernel_rfl
def r_Z13_0 : List GI:=[gi 2 (.box 2 2000002 (.t 0) (some 5)),gi 4 (.mov 4 (.k (.v (.bool false))))]
def r_Z13_1 : List GI:=[gt 5 1,gc 6 45 [.t 5,.k (I 1),.k (I 6)],gt 7 6,⟨.lod 8 2 (some 5),some 8,some (7,true),false⟩,⟨.mov 9 (.t 1),some 9,some (7,true),false⟩,⟨.call 10 46 [.t 8,.t 9,.k (I 8)],some 10,some (7,true),true⟩,gi 11 (.pick 11 (.t 7) (.t 10) (.k (.v (.bool false)))),gt 4 11]
def dc_Z13 : DC:=.seq (.z r_Z13_0) (.seq (.z r_Z13_1) .ret)
theorem c_Z13 : cfun Try.prog [] 31 = some (12,dc_Z13,[(Res.tmp 4)]):=by kernel_rfl
def r_Z14_0 : List GI:=[gi 3 (.box 3 2000003 (.t 0) (some 5)),gi 6 (.mov 6 (.k (.v (.bool false))))]
def r_Z14_1 : List GI:=[gf 8 3 4,gl 9 8,gn 10 9,gf 11 3 0,gl 12 11,gc 13 57 [.t 12],gb 14 .neq 10 13,gt 15 14,⟨.fad 16 3 4,some 16,some (15,false),false⟩,⟨.lod 17 16 none,some 17,some (15,false),false⟩,⟨.len 18 (.t 17),some 18,some (15,false),false⟩,⟨.bin 19 .gtr (.t 18) (.k (I 0)),some 19,some (15,false),false⟩,⟨.mov 20 (.t 19),some 20,some (15,false),false⟩,⟨.mov 21 (.t 2),some 21,some (20,true),false⟩,⟨.bin 22 .eql (.t 21) (.k (I 0)),some 22,some (20,true),false⟩,⟨.pick 23 (.t 20) (.t 22) (.k (.v (.bool false))),some 23,some (15,false),false⟩,gi 24 (.pick 24 (.t 15) (.k (.v (.bool true))) (.t 23))]
def r_Z14_2 : List GI:=[gi 6 (.mov 6 (.k (.v (.bool false))))]
def r_Z14_3 : List GI:=[gk 7 0]
def r_Z14_4 : List GI:=[gt 25 7,gf 26 3 4,gl 27 26,gn 28 27,gb 29 .lss 25 28]
def r_Z14_5 : List GI:=[gf 32 3 4,gl 33 32,gt 34 7,ga 35 33 34 5,gs 36 35 5,gt 37 1,gt 38 2,gd 39 .sub 38 1,gc 40 46 [.t 36,.t 37,.t 39],gi 41 (.un 41 UnOp.not (.t 40))]
def r_Z14_6 : List GI:=[gi 6 (.mov 6 (.k (.v (.bool false))))]
def r_Z14_7 : List GI:=[gt 30 7,gd 31 .add 30 1,gt 7 31]
def r_Z14_8 : List GI:=[gf 42 3 0,gl 43 42]
def r_Z14_9 : List GI:=[gd 45 .eql 43 1,gt 44 45]
def r_Z14_10 : List GI:=[gf 46 3 1,gl 47 46,gt 48 1,gd 49 .sub 48 1,gc 50 45 [.t 47,.k (I 0),.t 49],gt 51 50,⟨.fad 52 3 2,some 52,some (51,true),false⟩,⟨.lod 53 52 (some 2),some 53,some (51,true),false⟩,⟨.build 54 [.v (.bool false),I 0] [],some 54,some (51,true),false⟩,⟨.eqs 55 false [false,true] (.t 53) (.t 54),some 55,some (51,true),false⟩,gi 56 (.pick 56 (.t 51) (.t 55) (.k (.v (.bool false)))),gt 6 56]
def r_Z14_11 : List GI:=[gd 58 .eql 43 2,gt 57 58]
def r_Z14_12 : List GI:=[gf 59 3 1,gl 60 59,gd 61 .eql 60 0,gt 62 61,⟨.fad 63 3 2,some 63,some (62,true),false⟩,⟨.lod 64 63 (some 2),some 64,some (62,true),false⟩,⟨.call 65 58 [.t 64],some 65,some (62,true),true⟩,gi 66 (.pick 66 (.t 62) (.t 65) (.k (.v (.bool false)))),gt 6 66]
def r_Z14_13 : List GI:=[gf 67 3 1,gl 68 67,gd 69 .eql 68 0,gt 70 69,⟨.fad 71 3 2,some 71,some (70,true),false⟩,⟨.lod 72 71 (some 2),some 72,some (70,true),false⟩,⟨.build 73 [.v (.bool false),I 0] [],some 73,some (70,true),false⟩,⟨.eqs 74 false [false,true] (.t 72) (.t 73),some 74,some (70,true),false⟩,gi 75 (.pick 75 (.t 70) (.t 74) (.k (.v (.bool false)))),gt 6 75]
def dc_Z14 : DC:=.seq (.z r_Z14_0) (.seq (.seq (.reg r_Z14_1 (some [0,1,3,0,8,24,63,127,255,511,1023,2047,4095,8191,16383,32767,65535])) (.cond (.t 24) (.seq (.z r_Z14_2) .ret) .skip)) (.seq (.seq (.z r_Z14_3) (.block 0 (.loop (.seq (.seq (.z r_Z14_4) (.cond (.t 29) .skip (.exit 0))) (.seq (.block 1 (.seq (.z r_Z14_5) (.cond (.t 41) (.seq (.z r_Z14_6) .ret) .skip))) (.z r_Z14_7)))))) (.seq (.seq (.z r_Z14_8) (.block 2 (.seq (.z r_Z14_9) (.cond (.t 44) (.seq (.z r_Z14_10) .ret) (.seq (.z r_Z14_11) (.cond (.t 57) (.seq (.z r_Z14_12) .ret) .skip)))))) (.seq (.z r_Z14_13) .ret))))
theorem c_Z14 : cfun Try.prog [] 46 = some (76,dc_Z14,[(Res.tmp 6)]):=by kernel_rfl
def r_Z9_0 : List GI:=[gi 2 (.box 2 2000002 (.t 0) (some 5)),gi 4 (.mov 4 (.k (.v (.bool false))))]
def r_Z9_1 : List GI:=[gt 5 1,gc 6 48 [.t 5],gt 7 6,⟨.lod 8 2 (some 5),some 8,some (7,true),false⟩,⟨.mov 9 (.t 1),some 9,some (7,true),false⟩,⟨.call 10 49 [.t 8,.t 9,.k (I 8)],some 10,some (7,true),true⟩,gi 11 (.pick 11 (.t 7) (.t 10) (.k (.v (.bool false)))),gt 4 11]
def dc_Z9 : DC:=.seq (.z r_Z9_0) (.seq (.z r_Z9_1) .ret)
theorem c_Z9 : cfun Try.prog [] 34 = some (12,dc_Z9,[(Res.tmp 4)]):=by kernel_rfl
def r_Z16_0 : List GI:=[gk 2 0]
def r_Z16_1 : List GI:=[gt 4 0,gd 5 .eql 4 1,gt 6 5,⟨.mov 7 (.t 0),some 7,some (6,false),false⟩,⟨.bin 8 .eql (.t 7) (.k (I 2)),some 8,some (6,false),false⟩,gi 9 (.pick 9 (.t 6) (.k (.v (.bool true))) (.t 8)),gt 3 9]
def r_Z16_2 : List GI:=[gk 2 0]
def r_Z16_3 : List GI:=[gt 11 0,gd 12 .eql 11 10,gt 13 12,⟨.mov 14 (.t 0),some 14,some (13,false),false⟩,⟨.bin 15 .eql (.t 14) (.k (I 11)),some 15,some (13,false),false⟩,gi 16 (.pick 16 (.t 13) (.k (.v (.bool true))) (.t 15)),gt 10 16]
def r_Z16_4 : List GI:=[gk 2 1]
def r_Z16_5 : List GI:=[gt 18 0,gi 19 (.bin 19 .leq (.k (I 3)) (.t 18)),gt 20 19,⟨.mov 21 (.t 0),some 21,some (20,true),false⟩,⟨.bin 22 .leq (.t 21) (.k (I 9)),some 22,some (20,true),false⟩,gi 23 (.pick 23 (.t 20) (.t 22) (.k (.v (.bool false)))),gt 17 23]
def r_Z16_6 : List GI:=[gk 2 2]
def r_Z16_7 : List GI:=[gi 2 (.mov 2 (.k (.v (.int .i64 (-1)))))]
def dc_Z16 : DC:=.seq (.z r_Z16_0) (.seq (.block 0 (.seq (.z r_Z16_1) (.cond (.t 3) (.seq (.z r_Z16_2) .ret) (.seq (.z r_Z16_3) (.cond (.t 10) (.seq (.z r_Z16_4) .ret) (.seq (.z r_Z16_5) (.cond (.t 17) (.seq (.z r_Z16_6) .ret) .skip))))))) (.seq (.z r_Z16_7) .ret))
theorem c_Z16 : cfun Try.prog [] 59 = some (24,dc_Z16,[(Res.tmp 2)]):=by kernel_rfl
def r_Z6_0 : List GI:=[gi 3 (.box 3 2000003 (.t 0) (some 5)),gi 6 (.mov 6 (.k (.v (.bool false))))]
def r_Z6_1 : List GI:=[gt 9 2,gd 10 .lss 9 0,gt 11 10,⟨.fad 12 3 4,some 12,some (11,false),false⟩,⟨.lod 13 12 none,some 13,some (11,false),false⟩,⟨.len 14 (.t 13),some 14,some (11,false),false⟩,⟨.fad 15 3 0,some 15,some (11,false),false⟩,⟨.lod 16 15 none,some 16,some (11,false),false⟩,⟨.call 17 59 [.t 16],some 17,some (11,false),true⟩,⟨.bin 18 .neq (.t 14) (.t 17),some 18,some (11,false),false⟩,gi 19 (.pick 19 (.t 11) (.k (.v (.bool true))) (.t 18))]
def r_Z6_2 : List GI:=[gi 6 (.mov 6 (.k (.v (.bool false))))]
def r_Z6_3 : List GI:=[gf 20 3 0,gl 21 20]
def r_Z6_4 : List GI:=[gd 23 .eql 21 1,gt 22 23]
def r_Z6_5 : List GI:=[gf 24 3 1,gl 25 24,gt 26 1,gc 27 60 [.t 25,.t 26],gt 28 27,⟨.fad 29 3 2,some 29,some (28,true),false⟩,⟨.lod 30 29 (some 2),some 30,some (28,true),false⟩,⟨.build 31 [.v (.bool false),I 0] [],some 31,some (28,true),false⟩,⟨.eqs 32 false [false,true] (.t 30) (.t 31),some 32,some (28,true),false⟩,gi 33 (.pick 33 (.t 28) (.t 32) (.k (.v (.bool false)))),gt 6 33]
def r_Z6_6 : List GI:=[gd 35 .eql 21 2,gt 34 35]
def r_Z6_7 : List GI:=[gf 36 3 1,gl 37 36,gd 38 .eql 37 0,gt 39 38,⟨.fad 40 3 2,some 40,some (39,true),false⟩,⟨.lod 41 40 (some 2),some 41,some (39,true),false⟩,⟨.call 42 61 [.t 41],some 42,some (39,true),true⟩,gi 43 (.pick 43 (.t 39) (.t 42) (.k (.v (.bool false)))),gt 6 43]
def r_Z6_8 : List GI:=[gf 44 3 1,gl 45 44,gd 46 .neq 45 0,gt 47 46,⟨.fad 48 3 2,some 48,some (47,false),false⟩,⟨.lod 49 48 (some 2),some 49,some (47,false),false⟩,⟨.build 50 [.v (.bool false),I 0] [],some 50,some (47,false),false⟩,⟨.eqs 51 true [false,true] (.t 49) (.t 50),some 51,some (47,false),false⟩,gi 52 (.pick 52 (.t 47) (.k (.v (.bool true))) (.t 51))]
def r_Z6_9 : List GI:=[gi 6 (.mov 6 (.k (.v (.bool false))))]
def r_Z6_10 : List GI:=[gf 53 3 4,gl 54 53,gn 55 54,gk 56 0]
def r_Z6_11 : List GI:=[gb 57 .lss 56 55]
def r_Z6_12 : List GI:=[ga 58 54 56 5,gs 59 58 5,gi 8 (.alloc 8 2000008 [I 0,I 0,.v (.bool false),I 0,.nul]),g0 (.sto 8 (.t 59) (some 5))]
def r_Z6_13 : List GI:=[gs 60 8 5,gt 61 1,gt 62 2,gd 63 .sub 62 1,gc 64 49 [.t 60,.t 61,.t 63],gi 65 (.un 65 UnOp.not (.t 64))]
def r_Z6_14 : List GI:=[gi 6 (.mov 6 (.k (.v (.bool false))))]
def r_Z6_15 : List GI:=[gd 66 .add 56 1,gt 56 66]
def r_Z6_16 : List GI:=[gi 6 (.mov 6 (.k (.v (.bool true))))]
def dc_Z6 : DC:=.seq (.z r_Z6_0) (.seq (.seq (.reg r_Z6_1 (some [0,1,3,7,15,31,7,71,199,511,1023])) (.cond (.t 19) (.seq (.z r_Z6_2) .ret) .skip)) (.seq (.seq (.z r_Z6_3) (.block 0 (.seq (.z r_Z6_4) (.cond (.t 22) (.seq (.z r_Z6_5) .ret) (.seq (.z r_Z6_6) (.cond (.t 34) (.seq (.z r_Z6_7) .ret) .skip)))))) (.seq (.seq (.z r_Z6_8) (.cond (.t 52) (.seq (.z r_Z6_9) .ret) .skip)) (.seq (.seq (.z r_Z6_10) (.block 1 (.loop (.seq (.z r_Z6_11) (.seq (.cond (.t 57) .skip (.exit 1)) (.seq (.block 2 (.seq (.z r_Z6_12) (.seq (.z r_Z6_13) (.cond (.t 65) (.seq (.z r_Z6_14) .ret) .skip)))) (.z r_Z6_15))))))) (.seq (.z r_Z6_16) .ret)))))
theorem c_Z6 : cfun Try.prog [] 49 = some (67,dc_Z6,[(Res.tmp 6)]):=by kernel_rfl
def r_Z19_0 : List GI:=[gi 1 (.box 1 2000001 (.t 0) (some 2)),gi 2 (.alloc 2 2000002 [I 0,I 0,.v (.bool false),I 0,.nul])]
def r_Z19_1 : List GI:=[gs 3 1 2,gi 4 (.build 4 [I 0,I 0,.v (.bool false),I 0,.nul] [(0,(none,.k (I 2))),(2,(some 2,.t 3))]),g0 (.sto 2 (.t 4) (some 5))]
def dc_Z19 : DC:=.seq (.z r_Z19_0) (.seq (.z r_Z19_1) .ret)
theorem c_Z19 : cfun Try.prog [] 50 = some (5,dc_Z19,[(Res.cell 2 (some 5))]):=by kernel_rfl
def r_Z20_0 : List GI:=[gi 1 (.box 1 2000001 (.t 0) (some 5)),gi 2 (.alloc 2 2000002 [I 0,I 0,.v (.bool false),I 0,.nul])]
def r_Z20_1 : List GI:=[gf 5 1 0,gl 6 5,gf 7 1 1,gl 8 7,gf 9 1 2,gs 10 9 2,gi 11 (.build 11 [I 0,I 0,.v (.bool false),I 0,.nul] [(0,(none,.t 6)),(1,(none,.t 8)),(2,(some 2,.t 10))]),gi 3 (.alloc 3 2000003 [I 0,I 0,.v (.bool false),I 0,.nul]),g0 (.sto 3 (.t 11) (some 5))]
def r_Z20_2 : List GI:=[gk 4 0]
def r_Z20_3 : List GI:=[gt 12 4,gf 13 1 4,gl 14 13,gn 15 14,gb 16 .lss 12 15]
def r_Z20_4 : List GI:=[gf 19 3 4,gl 20 19,gf 21 1 4,gl 22 21,gt 23 4,ga 24 22 23 5,gs 25 24 5,gc 26 51 [.t 25],gi 27 (.bsl 27 5 (some 5) [.agg [I 0,I 0,.v (.bool false),I 0,.nul]] [(0,.t 26)]),gi 28 (.app 28 2000028 (.t 20) (.t 27) 5 56),gf 29 3 4,g0 (.sto 29 (.t 28) none)]
def r_Z20_5 : List GI:=[gt 17 4,gd 18 .add 17 1,gt 4 18]
def r_Z20_6 : List GI:=[gs 30 3 5,g0 (.sto 2 (.t 30) (some 5))]
def dc_Z20 : DC:=.seq (.z r_Z20_0) (.seq (.z r_Z20_1) (.seq (.seq (.z r_Z20_2) (.block 0 (.loop (.seq (.seq (.z r_Z20_3) (.cond (.t 16) .skip (.exit 0))) (.seq (.block 1 (.reg r_Z20_4 (some [0,1,0,4,0,28,60,124,252,511,1023,2047]))) (.z r_Z20_5)))))) (.seq (.z r_Z20_6) .ret)))
theorem c_Z20 : cfun Try.prog [] 51 = some (31,dc_Z20,[(Res.cell 2 (some 5))]):=by kernel_rfl
end
end Go.Proofs.Ytclkehekhdfnnaa
