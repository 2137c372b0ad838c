/-
  Functions of the program read as code on plain data. Closed facts of the program alone.
-/
import Derived.KernelRfl
import Derived.Test.YtjngffbghkafaaaGreatRows
import Derived.Test.YtjngffbghkafaaaGreatJSVGo
import Derived.Test.YtjngffbghkafaaaGreatJSVGi
namespace Go.Proofs.YtjngffbghkafaaaGreat
open Go.RowKit
noncomputable section
def r_Z125_0 : List GI:=[gi 2 (.box 2 2000002 (.t 0) (some 5)),gi 4 (.alloc 4 2000004 [.v (.bool false),I 0])]
def r_Z125_1 : List GI:=[gf 5 2 0,gl 6 5]
def r_Z125_2 : List GI:=[gd 8 .eql 6 1,gt 7 8]
def r_Z125_3 : List GI:=[gt 9 1,gf 10 2 1,gl 11 10,ga 12 9 11 2,gs 13 12 2,g0 (.sto 4 (.t 13) (some 2))]
def r_Z125_4 : List GI:=[gd 15 .eql 6 2,gt 14 15]
def r_Z125_5 : List GI:=[gf 16 2 2,gs 17 16 2,g0 (.sto 4 (.t 17) (some 2))]
def r_Z125_6 : List GI:=[gd 19 .eql 6 10,gt 18 19]
def r_Z125_7 : List GI:=[gf 20 2 4,gl 21 20,gi 22 (.iad 22 21 (.k (I 0)) 5),gs 23 22 5,gt 24 1,gc 25 162 [.t 23,.t 24],gc 26 208 [.t 25],gc 27 210 [.t 26],gc 28 209 [.t 27],g0 (.sto 4 (.t 28) (some 2))]
def r_Z125_8 : List GI:=[gd 30 .eql 6 11,gt 29 30]
def r_Z125_9 : List GI:=[gf 31 2 4,gl 32 31,gi 33 (.iad 33 32 (.k (I 0)) 5),gs 34 33 5,gt 35 1,gc 36 162 [.t 34,.t 35],gi 37 (.fld 37 (.t 36) 0 none),gc 38 211 [.t 37],gi 39 (.build 39 [.v (.bool false),I 0] [(1,(none,.t 38))]),g0 (.sto 4 (.t 39) (some 2))]
def r_Z125_10 : List GI:=[gf 40 2 0,gl 41 40,gf 42 2 4,gl 43 42,gi 44 (.iad 44 43 (.k (I 0)) 5),gs 45 44 5,gt 46 1,gc 47 162 [.t 45,.t 46],gf 48 2 4,gl 49 48,gi 50 (.iad 50 49 (.k (I 1)) 5),gs 51 50 5,gt 52 1,gc 53 162 [.t 51,.t 52],gc 54 212 [.t 41,.t 47,.t 53],g0 (.sto 4 (.t 54) (some 2))]
def dc_Z125 : DC:=.seq (.z r_Z125_0) (.seq (.seq (.z r_Z125_1) (.block 0 (.seq (.z r_Z125_2) (.cond (.t 7) (.seq (.z r_Z125_3) .ret) (.seq (.z r_Z125_4) (.cond (.t 14) (.seq (.z r_Z125_5) .ret) (.seq (.z r_Z125_6) (.cond (.t 18) (.seq (.z r_Z125_7) .ret) (.seq (.z r_Z125_8) (.cond (.t 29) (.seq (.z r_Z125_9) .ret) .skip)))))))))) (.seq (.reg r_Z125_10 (some [0,1,0,4,12,28,0,124,0,256,768,1792,0,8188,16383,32767])) .ret))
theorem c_Z125 : cfun Tryz.prog [] 162 = some (55,dc_Z125,[(Res.cell 4 (some 2))]):=by kernel_rfl
def r_Z127_0 : List GI:=[gk 2 0]
def r_Z127_1 : List GI:=[gt 3 0,gd 4 .eql 3 2]
def r_Z127_2 : List GI:=[gk 2 2]
def r_Z127_3 : List GI:=[gt 5 0,gi 6 (.bin 6 .sub (.k (I 1)) (.t 5)),gt 2 6]
def dc_Z127 : DC:=.seq (.z r_Z127_0) (.seq (.seq (.z r_Z127_1) (.cond (.t 4) (.seq (.z r_Z127_2) .ret) .skip)) (.seq (.z r_Z127_3) .ret))
theorem c_Z127 : cfun Tryz.prog [] 210 = some (7,dc_Z127,[(Res.tmp 2)]):=by kernel_rfl
def r_Z150_0 : List GI:=[gi 2 (.alloc 2 2000002 [.v (.bool false),I 0])]
def r_Z150_1 : List GI:=[gt 3 0,gd 4 .eql 3 2]
def r_Z150_2 : List GI:=[gi 5 (.build 5 [.v (.bool false),I 0] [(0,(none,.k (.v (.bool true))))]),g0 (.sto 2 (.t 5) (some 2))]
def r_Z150_3 : List GI:=[gt 6 0,gi 7 (.build 7 [.v (.bool false),I 0] [(1,(none,.t 6))]),g0 (.sto 2 (.t 7) (some 2))]
def dc_Z150 : DC:=.seq (.z r_Z150_0) (.seq (.seq (.z r_Z150_1) (.cond (.t 4) (.seq (.z r_Z150_2) .ret) .skip)) (.seq (.z r_Z150_3) .ret))
theorem c_Z150 : cfun Tryz.prog [] 209 = some (8,dc_Z150,[(Res.cell 2 (some 2))]):=by kernel_rfl
def r_Z170_0 : List GI:=[gi 1 (.box 1 2000001 (.t 0) (some 2)),gk 2 0]
def r_Z170_1 : List GI:=[gf 4 1 0,gl 5 4,gt 3 5]
def r_Z170_2 : List GI:=[gk 2 2]
def r_Z170_3 : List GI:=[gf 7 1 1,gl 8 7,gd 9 .eql 8 0,gt 6 9]
def r_Z170_4 : List GI:=[gk 2 0]
def r_Z170_5 : List GI:=[gk 2 1]
def dc_Z170 : DC:=.seq (.z r_Z170_0) (.seq (.block 0 (.seq (.z r_Z170_1) (.cond (.t 3) (.seq (.z r_Z170_2) .ret) (.seq (.z r_Z170_3) (.cond (.t 6) (.seq (.z r_Z170_4) .ret) .skip))))) (.seq (.z r_Z170_5) .ret))
theorem c_Z170 : cfun Tryz.prog [] 208 = some (10,dc_Z170,[(Res.tmp 2)]):=by kernel_rfl
def r_Z44_0 : List GI:=[gi 2 (.box 2 2000002 (.t 0) (some 2)),gi 3 (.box 3 2000003 (.t 1) (some 2)),gk 4 0]
def r_Z44_1 : List GI:=[gf 6 2 0,gl 7 6,gt 8 7,⟨.fad 9 3 0,some 9,some (8,true),false⟩,⟨.lod 10 9 none,some 10,some (8,true),false⟩,gi 11 (.pick 11 (.t 8) (.t 10) (.k (.v (.bool false)))),gt 5 11]
def r_Z44_2 : List GI:=[gk 4 0]
def r_Z44_3 : List GI:=[gf 13 2 0,gl 14 13,gt 12 14]
def r_Z44_4 : List GI:=[gi 4 (.mov 4 (.k (.v (.int .i64 (-1)))))]
def r_Z44_5 : List GI:=[gf 16 3 0,gl 17 16,gt 15 17]
def r_Z44_6 : List GI:=[gk 4 1]
def r_Z44_7 : List GI:=[gf 18 2 1,gl 19 18,gf 20 3 1,gl 21 20,gc 22 207 [.t 19,.t 21],gt 4 22]
def dc_Z44 : DC:=.seq (.z r_Z44_0) (.seq (.block 0 (.seq (.z r_Z44_1) (.cond (.t 5) (.seq (.z r_Z44_2) .ret) (.seq (.z r_Z44_3) (.cond (.t 12) (.seq (.z r_Z44_4) .ret) (.seq (.z r_Z44_5) (.cond (.t 15) (.seq (.z r_Z44_6) .ret) .skip))))))) (.seq (.z r_Z44_7) .ret))
theorem c_Z44 : cfun Tryz.prog [] 159 = some (23,dc_Z44,[(Res.tmp 4)]):=by kernel_rfl
def r_Z51_0 : List GI:=[gi 2 (.box 2 2000002 (.t 0) (some 2)),gi 3 (.box 3 2000003 (.t 1) (some 2)),gk 4 0]
def r_Z51_1 : List GI:=[gs 6 2 2,gs 7 3 2,gi 8 (.eqs 8 false [false,true] (.t 6) (.t 7)),gt 5 8]
def r_Z51_2 : List GI:=[gk 4 0]
def r_Z51_3 : List GI:=[gf 10 2 0,gl 11 10,gt 12 11,⟨.fad 13 3 0,some 13,some (12,false),false⟩,⟨.lod 14 13 none,some 14,some (12,false),false⟩,⟨.un 15 UnOp.not (.t 14),some 15,some (12,false),false⟩,⟨.mov 16 (.t 15),some 16,some (12,false),false⟩,⟨.fad 17 2 1,some 17,some (16,true),false⟩,⟨.lod 18 17 none,some 18,some (16,true),false⟩,⟨.fad 19 3 1,some 19,some (16,true),false⟩,⟨.lod 20 19 none,some 20,some (16,true),false⟩,⟨.bin 21 .lss (.t 18) (.t 20),some 21,some (16,true),false⟩,⟨.pick 22 (.t 16) (.t 21) (.k (.v (.bool false))),some 22,some (12,false),false⟩,gi 23 (.pick 23 (.t 12) (.k (.v (.bool true))) (.t 22)),gt 9 23]
def r_Z51_4 : List GI:=[gi 4 (.mov 4 (.k (.v (.int .i64 (-1)))))]
def r_Z51_5 : List GI:=[gk 4 1]
def dc_Z51 : DC:=.seq (.z r_Z51_0) (.seq (.block 0 (.seq (.z r_Z51_1) (.cond (.t 5) (.seq (.z r_Z51_2) .ret) (.seq (.z r_Z51_3) (.cond (.t 9) (.seq (.z r_Z51_4) .ret) .skip))))) (.seq (.z r_Z51_5) .ret))
theorem c_Z51 : cfun Tryz.prog [] 170 = some (24,dc_Z51,[(Res.tmp 4)]):=by kernel_rfl
def r_Z69_0 : List GI:=[gk 4 0]
def r_Z69_1 : List GI:=[gt 7 0,gn 8 7,gk 9 0]
def r_Z69_2 : List GI:=[gb 10 .lss 9 8]
def r_Z69_3 : List GI:=[gt 11 9,gt 5 11]
def r_Z69_4 : List GI:=[gt 12 0,gt 13 5,ga 14 12 13 2,gs 15 14 2,gt 16 1,gt 17 5,ga 18 16 17 2,gs 19 18 2,gc 20 159 [.t 15,.t 19],gt 6 20]
def r_Z69_5 : List GI:=[gt 21 6,gd 22 .neq 21 0]
def r_Z69_6 : List GI:=[gt 23 6,gt 4 23]
def r_Z69_7 : List GI:=[gd 24 .add 9 1,gt 9 24]
def r_Z69_8 : List GI:=[gk 4 0]
def dc_Z69 : DC:=.seq (.z r_Z69_0) (.seq (.seq (.z r_Z69_1) (.block 0 (.loop (.seq (.z r_Z69_2) (.seq (.cond (.t 10) .skip (.exit 0)) (.seq (.block 1 (.seq (.z r_Z69_3) (.seq (.reg r_Z69_4 (some [0,0,3,7,0,0,48,112,255,511])) (.seq (.z r_Z69_5) (.cond (.t 22) (.seq (.z r_Z69_6) .ret) .skip))))) (.z r_Z69_7))))))) (.seq (.z r_Z69_8) .ret))
theorem c_Z69 : cfun Tryz.prog [] 96 = some (25,dc_Z69,[(Res.tmp 4)]):=by kernel_rfl
def r_Z78_0 : List GI:=[gk 4 0]
def r_Z78_1 : List GI:=[gk 5 0]
def r_Z78_2 : List GI:=[gt 7 5,gt 8 0,gn 9 8,gb 10 .lss 7 9,gt 11 10,⟨.mov 12 (.t 5),some 12,some (11,true),false⟩,⟨.mov 13 (.t 1),some 13,some (11,true),false⟩,⟨.len 14 (.t 13),some 14,some (11,true),false⟩,⟨.bin 15 .lss (.t 12) (.t 14),some 15,some (11,true),false⟩,gi 16 (.pick 16 (.t 11) (.t 15) (.k (.v (.bool false))))]
def r_Z78_3 : List GI:=[gt 19 0,gt 20 5,ga 21 19 20 2,gs 22 21 2,gt 23 1,gt 24 5,ga 25 23 24 2,gs 26 25 2,gc 27 170 [.t 22,.t 26],gt 6 27]
def r_Z78_4 : List GI:=[gt 28 6,gd 29 .neq 28 0]
def r_Z78_5 : List GI:=[gt 30 6,gt 4 30]
def r_Z78_6 : List GI:=[gt 17 5,gd 18 .add 17 1,gt 5 18]
def r_Z78_7 : List GI:=[gt 31 0,gn 32 31,gt 33 1,gn 34 33,gb 35 .sub 32 34,gt 4 35]
def dc_Z78 : DC:=.seq (.z r_Z78_0) (.seq (.seq (.z r_Z78_1) (.block 0 (.loop (.seq (.seq (.z r_Z78_2) (.cond (.t 16) .skip (.exit 0))) (.seq (.block 1 (.seq (.reg r_Z78_3 (some [0,0,3,7,0,0,48,112,255,511])) (.seq (.z r_Z78_4) (.cond (.t 29) (.seq (.z r_Z78_5) .ret) .skip)))) (.z r_Z78_6)))))) (.seq (.z r_Z78_7) .ret))
theorem c_Z78 : cfun Tryz.prog [] 129 = some (36,dc_Z78,[(Res.tmp 4)]):=by kernel_rfl
def r_Z99_0 : List GI:=[gi 4 (.mov 4 (.k (.v (.bool false))))]
def r_Z99_1 : List GI:=[gt 7 1,gc 8 132 [.t 7],gi 9 (.un 9 UnOp.not (.t 8)),gt 10 9,⟨.mov 11 (.t 0),some 11,some (10,false),false⟩,⟨.len 12 (.t 11),some 12,some (10,false),false⟩,⟨.bin 13 .gtr (.t 12) (.k (I 400)),some 13,some (10,false),false⟩,gi 14 (.pick 14 (.t 10) (.k (.v (.bool true))) (.t 13))]
def r_Z99_2 : List GI:=[gi 4 (.mov 4 (.k (.v (.bool false))))]
def r_Z99_3 : List GI:=[gt 15 0,gn 16 15,gk 17 0]
def r_Z99_4 : List GI:=[gb 18 .lss 17 16]
def r_Z99_5 : List GI:=[ga 19 15 17 1,gl 20 19,gt 6 20]
def r_Z99_6 : List GI:=[gt 21 6,gn 22 21,gt 23 1,gb 24 .neq 22 23,gt 25 24,⟨.mov 26 (.t 6),some 26,some (25,false),false⟩,⟨.call 27 167 [.t 26],some 27,some (25,false),true⟩,⟨.un 28 UnOp.not (.t 27),some 28,some (25,false),false⟩,gi 29 (.pick 29 (.t 25) (.k (.v (.bool true))) (.t 28))]
def r_Z99_7 : List GI:=[gi 4 (.mov 4 (.k (.v (.bool false))))]
def r_Z99_8 : List GI:=[gd 30 .add 17 1,gt 17 30]
def r_Z99_9 : List GI:=[gi 4 (.mov 4 (.k (.v (.bool true))))]
def dc_Z99 : DC:=.seq (.z r_Z99_0) (.seq (.seq (.z r_Z99_1) (.cond (.t 14) (.seq (.z r_Z99_2) .ret) .skip)) (.seq (.seq (.z r_Z99_3) (.block 0 (.loop (.seq (.z r_Z99_4) (.seq (.cond (.t 18) .skip (.exit 0)) (.seq (.block 1 (.seq (.z r_Z99_5) (.seq (.z r_Z99_6) (.cond (.t 29) (.seq (.z r_Z99_7) .ret) .skip)))) (.z r_Z99_8))))))) (.seq (.z r_Z99_9) .ret)))
theorem c_Z99 : cfun Tryz.prog [] 117 = some (31,dc_Z99,[(Res.tmp 4)]):=by kernel_rfl
def r_Z92_0 : List GI:=[gi 1 (.box 1 2000001 (.t 0) (some 2)),gi 2 (.mov 2 (.k (.v (.bool false))))]
def r_Z92_1 : List GI:=[gk 3 0]
def r_Z92_2 : List GI:=[gt 4 3,gf 5 1 1,gl 6 5,gn 7 6,gb 8 .lss 4 7]
def r_Z92_3 : List GI:=[gf 11 1 1,gl 12 11,gt 13 3,ga 14 12 13 1,gl 15 14,gc 16 128 [.t 15],gi 17 (.un 17 UnOp.not (.t 16)),gt 18 17,⟨.fad 19 1 1,some 19,some (18,false),false⟩,⟨.lod 20 19 none,some 20,some (18,false),false⟩,⟨.mov 21 (.t 3),some 21,some (18,false),false⟩,⟨.iad 22 20 (.t 21) 1,some 22,some (18,false),false⟩,⟨.lod 23 22 none,some 23,some (18,false),false⟩,⟨.len 24 (.t 23),some 24,some (18,false),false⟩,⟨.fad 25 1 0,some 25,some (18,false),false⟩,⟨.lod 26 25 none,some 26,some (18,false),false⟩,⟨.bin 27 .neq (.t 24) (.t 26),some 27,some (18,false),false⟩,gi 28 (.pick 28 (.t 18) (.k (.v (.bool true))) (.t 27)),gt 29 28,⟨.mov 30 (.t 3),some 30,some (29,false),false⟩,⟨.bin 31 .gtr (.t 30) (.k (I 0)),some 31,some (29,false),false⟩,⟨.mov 32 (.t 31),some 32,some (29,false),false⟩,⟨.fad 33 1 1,some 33,some (32,true),false⟩,⟨.lod 34 33 none,some 34,some (32,true),false⟩,⟨.mov 35 (.t 3),some 35,some (32,true),false⟩,⟨.bin 36 .sub (.t 35) (.k (I 1)),some 36,some (32,true),false⟩,⟨.iad 37 34 (.t 36) 1,some 37,some (32,true),false⟩,⟨.lod 38 37 none,some 38,some (32,true),false⟩,⟨.fad 39 1 1,some 39,some (32,true),false⟩,⟨.lod 40 39 none,some 40,some (32,true),false⟩,⟨.mov 41 (.t 3),some 41,some (32,true),false⟩,⟨.iad 42 40 (.t 41) 1,some 42,some (32,true),false⟩,⟨.lod 43 42 none,some 43,some (32,true),false⟩,⟨.call 44 129 [.t 38,.t 43],some 44,some (32,true),true⟩,⟨.bin 45 .gtr (.t 44) (.k (I 0)),some 45,some (32,true),false⟩,⟨.pick 46 (.t 32) (.t 45) (.k (.v (.bool false))),some 46,some (29,false),false⟩,gi 47 (.pick 47 (.t 29) (.k (.v (.bool true))) (.t 46))]
def r_Z92_4 : List GI:=[gi 2 (.mov 2 (.k (.v (.bool false))))]
def r_Z92_5 : List GI:=[gt 9 3,gd 10 .add 9 1,gt 3 10]
def r_Z92_6 : List GI:=[gf 48 1 0,gl 49 48,gc 50 67 [.t 49,.k (I 1),.k (I 6)],gt 51 50,⟨.fad 52 1 1,some 52,some (51,true),false⟩,⟨.lod 53 52 none,some 53,some (51,true),false⟩,⟨.len 54 (.t 53),some 54,some (51,true),false⟩,⟨.bin 55 .leq (.t 54) (.k (I 400)),some 55,some (51,true),false⟩,gi 56 (.pick 56 (.t 51) (.t 55) (.k (.v (.bool false)))),gt 2 56]
def dc_Z92 : DC:=.seq (.z r_Z92_0) (.seq (.seq (.z r_Z92_1) (.block 0 (.loop (.seq (.seq (.z r_Z92_2) (.cond (.t 8) .skip (.exit 0))) (.seq (.block 1 (.seq (.reg r_Z92_3 (some [0,1,0,7,15,31,63,127,255,511,255,2047,4095,8191,255,16639,65535,131071,262143,524287,1048575,2097151,4194303,8388607,4194303,20971519,67108863,134217727,4194303,272629759,4194303,1883242495,4030726143,8589934591,17179869183,34359738367,68719476735])) (.cond (.t 47) (.seq (.z r_Z92_4) .ret) .skip))) (.z r_Z92_5)))))) (.seq (.z r_Z92_6) .ret))
theorem c_Z92 : cfun Tryz.prog [] 78 = some (57,dc_Z92,[(Res.tmp 2)]):=by kernel_rfl
def r_Z81_0 : List GI:=[gi 1 (.box 1 2000001 (.t 0) (some 2)),gi 2 (.mov 2 (.k (.v (.bool false))))]
def r_Z81_1 : List GI:=[gf 3 1 1,gl 4 3,gf 5 1 0,gl 6 5,gc 7 117 [.t 4,.t 6],gt 8 7,⟨.fad 9 1 1,some 9,some (8,true),false⟩,⟨.lod 10 9 none,some 10,some (8,true),false⟩,⟨.call 11 118 [.t 10,.k (.fn 96 [])],some 11,some (8,true),true⟩,gi 12 (.pick 12 (.t 8) (.t 11) (.k (.v (.bool false)))),gt 2 12]
def dc_Z81 : DC:=.seq (.z r_Z81_0) (.seq (.z r_Z81_1) .ret)
theorem c_Z81 : cfun Tryz.prog [] 69 = some (13,dc_Z81,[(Res.tmp 2)]):=by kernel_rfl
def r_Z0_0 : List GI:=[gi 4 (.mov 4 (.k (.v (.bool false))))]
def r_Z0_1 : List GI:=[gt 6 0,gn 7 6,gd 8 .sub 7 1,gt 5 8]
def r_Z0_2 : List GI:=[gt 9 5,gd 10 .gtr 9 0]
def r_Z0_3 : List GI:=[gt 13 1,gt 14 0,gt 15 5,ga 16 14 15 1,gl 17 16,gt 18 0,gt 19 5,gd 20 .sub 19 1,ga 21 18 20 1,gl 22 21,⟨.cal 23 (.t 13) [.t 17,.t 22],some 23,none,true⟩,gd 24 .lss 23 0]
def r_Z0_4 : List GI:=[gi 4 (.mov 4 (.k (.v (.bool false))))]
def r_Z0_5 : List GI:=[gt 11 5,gd 12 .sub 11 1,gt 5 12]
def r_Z0_6 : List GI:=[gi 4 (.mov 4 (.k (.v (.bool true))))]
def dc_Z0 : DC:=.seq (.z r_Z0_0) (.seq (.seq (.z r_Z0_1) (.block 0 (.loop (.seq (.seq (.z r_Z0_2) (.cond (.t 10) .skip (.exit 0))) (.seq (.block 1 (.seq (.reg r_Z0_3 (some [0,0,0,6,14,0,0,64,224,480,1023,2047])) (.cond (.t 24) (.seq (.z r_Z0_4) .ret) .skip))) (.z r_Z0_5)))))) (.seq (.z r_Z0_6) .ret))
theorem c_Z0 : cfun Tryz.prog [] 118 = some (25,dc_Z0,[(Res.tmp 4)]):=by kernel_rfl
def r_Z8_0 : List GI:=[gi 2 (.mov 2 (.k .nul))]
def r_Z8_1 : List GI:=[gt 3 0,gi 4 (.isn 4 false (.t 3))]
def r_Z8_2 : List GI:=[gi 2 (.mov 2 (.k .nul))]
def r_Z8_3 : List GI:=[gi 5 (.mov 5 (.k .nul)),gt 6 0,gi 7 (.app 7 2000007 (.t 5) (.t 6) 2 16),gt 2 7]
def dc_Z8 : DC:=.seq (.z r_Z8_0) (.seq (.seq (.z r_Z8_1) (.cond (.t 4) (.seq (.z r_Z8_2) .ret) .skip)) (.seq (.z r_Z8_3) .ret))
theorem c_Z8 : cfun Tryz.prog [] 97 = some (8,dc_Z8,[(Res.tmp 2)]):=by kernel_rfl
def r_Z1_0 : List GI:=[gi 2 (.box 2 2000002 (.t 0) none),gi 4 (.mov 4 (.k .nul))]
def r_Z1_1 : List GI:=[gt 6 1]
def r_Z1_2 : List GI:=[gt 5 7]
def r_Z1_3 : List GI:=[gl 8 2,gt 9 5,gi 10 (.bsl 10 1 none [.nul] [(0,.t 9)]),gi 11 (.app 11 2000011 (.t 8) (.t 10) 1 24),g0 (.sto 2 (.t 11) none)]
def r_Z1_4 : List GI:=[gl 12 2,gt 4 12]
def dc_Z1 : DC:=.seq (.z r_Z1_0) (.seq (.seq (.z r_Z1_1) (.block 0 (.rng (.t 6) [7] (.z r_Z1_2) (.block 1 (.z r_Z1_3))))) (.seq (.z r_Z1_4) .ret))
theorem c_Z1 : cfun Tryz.prog [] 245 = some (13,dc_Z1,[(Res.tmp 4)]):=by kernel_rfl
def r_Z16_0 : List GI:=[gi 2 (.mov 2 (.k .nul))]
def r_Z16_1 : List GI:=[gt 3 0,gc 4 245 [.k .nul,.t 3],gt 2 4]
def dc_Z16 : DC:=.seq (.z r_Z16_0) (.seq (.z r_Z16_1) .ret)
theorem c_Z16 : cfun Tryz.prog [] 241 = some (5,dc_Z16,[(Res.tmp 2)]):=by kernel_rfl
def r_Z4_0 : List GI:=[gi 1 (.box 1 2000001 (.t 0) none),gi 2 (.mov 2 (.k (.v .nilFunc)))]
def r_Z4_1 : List GI:=[gi 3 (.mkf 3 189 [.t 1]),gt 2 3]
def dc_Z4 : DC:=.seq (.z r_Z4_0) (.seq (.z r_Z4_1) .ret)
theorem c_Z4 : cfun Tryz.prog [] 152 = some (4,dc_Z4,[(Res.tmp 2)]):=by kernel_rfl
def r_Z2_0 : List GI:=[gl 5 1,gn 6 5,gk 7 0]
def r_Z2_1 : List GI:=[gb 8 .lss 7 6]
def r_Z2_2 : List GI:=[ga 9 5 7 1,gl 10 9,gt 4 10]
def r_Z2_3 : List GI:=[gt 11 0,gt 12 4,⟨.cal 13 (.t 11) [.t 12],some 13,none,true⟩,gi 14 (.un 14 UnOp.not (.t 13))]
def r_Z2_4 : List GI:=[gd 15 .add 7 1,gt 7 15]
def dc_Z2 : DC:=.seq (.z r_Z2_0) (.block 0 (.loop (.seq (.z r_Z2_1) (.seq (.cond (.t 8) .skip (.exit 0)) (.seq (.block 1 (.seq (.z r_Z2_2) (.seq (.z r_Z2_3) (.cond (.t 14) .ret .skip)))) (.z r_Z2_4))))))
theorem c_Z2 : cfun Tryz.prog [] 189 = some (16,dc_Z2,[]):=by kernel_rfl
end
end Go.Proofs.YtjngffbghkafaaaGreat
