/-
  Functions of the program read as code on plain data. Closed facts of the program alone.
-/
import Derived.KernelRfl
import Derived.Test.YtgpdmgaemhelgaaGreatRows
import Derived.Test.YtgpdmgaemhelgaaGreatJSVBox
import Derived.Test.YtgpdmgaemhelgaaGreatJSVYld
namespace Go.Proofs.YtgpdmgaemhelgaaGreat
open Go.RowKit
noncomputable section
theorem mixed : Tryz.prog.follows .mixedOrders = true:=by kernel_rfl
def r_Z50_0 : List GI:=[gi 1 (.box 1 2000001 (.t 0) (some 2)),gi 2 (.mov 2 (.k (.v (.bool false))))]
def r_Z50_1 : List GI:=[gf 3 1 0,gl 4 3]
def r_Z50_2 : List GI:=[gf 5 1 1,gl 6 5,gd 7 .eql 6 0,gt 2 7]
def r_Z50_3 : List GI:=[gf 8 1 1,gl 9 8,gi 10 (.bin 10 .leq (.k (.v (.int .i64 (-9999)))) (.t 9)),gt 11 10,⟨.fad 12 1 1,some 12,some (11,true),false⟩,⟨.lod 13 12 none,some 13,some (11,true),false⟩,⟨.bin 14 .leq (.t 13) (.k (I 9999)),some 14,some (11,true),false⟩,gi 15 (.pick 15 (.t 11) (.t 14) (.k (.v (.bool false)))),gt 2 15]
def dc_Z50 : DC:=.seq (.z r_Z50_0) (.seq (.seq (.z r_Z50_1) (.cond (.t 4) (.seq (.z r_Z50_2) .ret) .skip)) (.seq (.z r_Z50_3) .ret))
theorem c_Z50 : cfun Tryz.prog [] 191 = some (16,dc_Z50,[(Res.tmp 2)]):=by kernel_rfl
def r_Z112_0 : List GI:=[gi 4 (.mov 4 (.k (.v (.bool false))))]
def r_Z112_1 : List GI:=[gt 5 0,gi 6 (.bin 6 .leq (.k (I 0)) (.t 5)),gt 7 6,⟨.mov 8 (.t 0),some 8,some (7,true),false⟩,⟨.mov 9 (.t 1),some 9,some (7,true),false⟩,⟨.bin 10 .lss (.t 8) (.t 9),some 10,some (7,true),false⟩,gi 11 (.pick 11 (.t 7) (.t 10) (.k (.v (.bool false)))),gt 4 11]
def dc_Z112 : DC:=.seq (.z r_Z112_0) (.seq (.z r_Z112_1) .ret)
theorem c_Z112 : cfun Tryz.prog [] 190 = some (12,dc_Z112,[(Res.tmp 4)]):=by kernel_rfl
def r_Z74_0 : List GI:=[gi 2 (.mov 2 (.k (.v (.bool false))))]
def r_Z74_1 : List GI:=[gt 3 0,gi 4 (.bin 4 .leq (.k (I 1)) (.t 3)),gt 5 4,⟨.mov 6 (.t 0),some 6,some (5,true),false⟩,⟨.bin 7 .leq (.t 6) (.k (I 6)),some 7,some (5,true),false⟩,gi 8 (.pick 8 (.t 5) (.t 7) (.k (.v (.bool false)))),gt 2 8]
def dc_Z74 : DC:=.seq (.z r_Z74_0) (.seq (.z r_Z74_1) .ret)
theorem c_Z74 : cfun Tryz.prog [] 99 = some (9,dc_Z74,[(Res.tmp 2)]):=by kernel_rfl
def r_Z136_0 : List GI:=[gi 6 (.mov 6 (.k (.v (.bool false))))]
def r_Z136_1 : List GI:=[gt 7 0,gt 8 1,gb 9 .geq 7 8,gt 10 9,⟨.mov 11 (.t 0),some 11,some (10,true),false⟩,⟨.mov 12 (.t 2),some 12,some (10,true),false⟩,⟨.bin 13 .leq (.t 11) (.t 12),some 13,some (10,true),false⟩,gi 14 (.pick 14 (.t 10) (.t 13) (.k (.v (.bool false)))),gt 6 14]
def dc_Z136 : DC:=.seq (.z r_Z136_0) (.seq (.z r_Z136_1) .ret)
theorem c_Z136 : cfun Tryz.prog [] 136 = some (15,dc_Z136,[(Res.tmp 6)]):=by kernel_rfl
def r_Z144_0 : List GI:=[gi 2 (.alloc 2 2000002 [.v (.bool false),I 0])]
def r_Z144_1 : List GI:=[gt 3 0,gc 4 136 [.t 3,.k (.v (.int .i64 (-9999))),.k (I 9999)],gi 5 (.un 5 UnOp.not (.t 4))]
def r_Z144_2 : List GI:=[gi 6 (.build 6 [.v (.bool false),I 0] [(0,(none,.k (.v (.bool true))))]),g0 (.sto 2 (.t 6) (some 2))]
def r_Z144_3 : List GI:=[gt 7 0,gi 8 (.build 8 [.v (.bool false),I 0] [(1,(none,.t 7))]),g0 (.sto 2 (.t 8) (some 2))]
def dc_Z144 : DC:=.seq (.z r_Z144_0) (.seq (.seq (.z r_Z144_1) (.cond (.t 5) (.seq (.z r_Z144_2) .ret) .skip)) (.seq (.z r_Z144_3) .ret))
theorem c_Z144 : cfun Tryz.prog [] 215 = some (9,dc_Z144,[(Res.cell 2 (some 2))]):=by kernel_rfl
def r_Z85_0 : List GI:=[gi 1 (.box 1 2000001 (.t 0) (some 2)),gi 2 (.mov 2 (.k (.v (.bool false))))]
def r_Z85_1 : List GI:=[gf 3 1 1,gl 4 3,gc 5 136 [.t 4,.k (.v (.int .i64 (-9999))),.k (I 9999)],gt 6 5,⟨.fad 7 1 0,some 7,some (6,true),false⟩,⟨.lod 8 7 none,some 8,some (6,true),false⟩,⟨.un 9 UnOp.not (.t 8),some 9,some (6,true),false⟩,⟨.mov 10 (.t 9),some 10,some (6,true),false⟩,⟨.fad 11 1 1,some 11,some (10,false),false⟩,⟨.lod 12 11 none,some 12,some (10,false),false⟩,⟨.bin 13 .eql (.t 12) (.k (I 0)),some 13,some (10,false),false⟩,⟨.pick 14 (.t 10) (.k (.v (.bool true))) (.t 13),some 14,some (6,true),false⟩,gi 15 (.pick 15 (.t 6) (.t 14) (.k (.v (.bool false)))),gt 2 15]
def dc_Z85 : DC:=.seq (.z r_Z85_0) (.seq (.z r_Z85_1) .ret)
theorem c_Z85 : cfun Tryz.prog [] 185 = some (16,dc_Z85,[(Res.tmp 2)]):=by kernel_rfl
def r_Z89_0 : List GI:=[gi 2 (.box 2 2000002 (.t 0) (some 5)),gi 4 (.mov 4 (.k (.v (.bool false))))]
def r_Z89_1 : List GI:=[gt 5 1,gc 6 99 [.t 5],gt 7 6,⟨.lod 8 2 (some 5),some 8,some (7,true),false⟩,⟨.mov 9 (.t 1),some 9,some (7,true),false⟩,⟨.call 10 176 [.t 8,.t 9,.k (I 8)],some 10,some (7,true),true⟩,gi 11 (.pick 11 (.t 7) (.t 10) (.k (.v (.bool false)))),gt 4 11]
def dc_Z89 : DC:=.seq (.z r_Z89_0) (.seq (.z r_Z89_1) .ret)
theorem c_Z89 : cfun Tryz.prog [] 146 = some (12,dc_Z89,[(Res.tmp 4)]):=by kernel_rfl
def r_Z113_0 : List GI:=[gk 2 0]
def r_Z113_1 : List GI:=[gt 4 0,gd 5 .eql 4 1,gt 6 5,⟨.mov 7 (.t 0),some 7,some (6,false),false⟩,⟨.bin 8 .eql (.t 7) (.k (I 2)),some 8,some (6,false),false⟩,gi 9 (.pick 9 (.t 6) (.k (.v (.bool true))) (.t 8)),gt 3 9]
def r_Z113_2 : List GI:=[gk 2 0]
def r_Z113_3 : List GI:=[gt 11 0,gd 12 .eql 11 10,gt 13 12,⟨.mov 14 (.t 0),some 14,some (13,false),false⟩,⟨.bin 15 .eql (.t 14) (.k (I 11)),some 15,some (13,false),false⟩,gi 16 (.pick 16 (.t 13) (.k (.v (.bool true))) (.t 15)),gt 10 16]
def r_Z113_4 : List GI:=[gk 2 1]
def r_Z113_5 : List GI:=[gt 18 0,gi 19 (.bin 19 .leq (.k (I 3)) (.t 18)),gt 20 19,⟨.mov 21 (.t 0),some 21,some (20,true),false⟩,⟨.bin 22 .leq (.t 21) (.k (I 9)),some 22,some (20,true),false⟩,gi 23 (.pick 23 (.t 20) (.t 22) (.k (.v (.bool false)))),gt 17 23]
def r_Z113_6 : List GI:=[gk 2 2]
def r_Z113_7 : List GI:=[gi 2 (.mov 2 (.k (.v (.int .i64 (-1)))))]
def dc_Z113 : DC:=.seq (.z r_Z113_0) (.seq (.block 0 (.seq (.z r_Z113_1) (.cond (.t 3) (.seq (.z r_Z113_2) .ret) (.seq (.z r_Z113_3) (.cond (.t 10) (.seq (.z r_Z113_4) .ret) (.seq (.z r_Z113_5) (.cond (.t 17) (.seq (.z r_Z113_6) .ret) .skip))))))) (.seq (.z r_Z113_7) .ret))
theorem c_Z113 : cfun Tryz.prog [] 189 = some (24,dc_Z113,[(Res.tmp 2)]):=by kernel_rfl
def r_Z63_0 : List GI:=[gi 3 (.box 3 2000003 (.t 0) (some 5)),gi 6 (.mov 6 (.k (.v (.bool false))))]
def r_Z63_1 : List GI:=[gt 9 2,gd 10 .lss 9 0,gt 11 10,⟨.fad 12 3 4,some 12,some (11,false),false⟩,⟨.lod 13 12 none,some 13,some (11,false),false⟩,⟨.len 14 (.t 13),some 14,some (11,false),false⟩,⟨.fad 15 3 0,some 15,some (11,false),false⟩,⟨.lod 16 15 none,some 16,some (11,false),false⟩,⟨.call 17 189 [.t 16],some 17,some (11,false),true⟩,⟨.bin 18 .neq (.t 14) (.t 17),some 18,some (11,false),false⟩,gi 19 (.pick 19 (.t 11) (.k (.v (.bool true))) (.t 18))]
def r_Z63_2 : List GI:=[gi 6 (.mov 6 (.k (.v (.bool false))))]
def r_Z63_3 : List GI:=[gf 20 3 0,gl 21 20]
def r_Z63_4 : List GI:=[gd 23 .eql 21 1,gt 22 23]
def r_Z63_5 : List GI:=[gf 24 3 1,gl 25 24,gt 26 1,gc 27 190 [.t 25,.t 26],gt 28 27,⟨.fad 29 3 2,some 29,some (28,true),false⟩,⟨.lod 30 29 (some 2),some 30,some (28,true),false⟩,⟨.build 31 [.v (.bool false),I 0] [],some 31,some (28,true),false⟩,⟨.eqs 32 false [false,true] (.t 30) (.t 31),some 32,some (28,true),false⟩,gi 33 (.pick 33 (.t 28) (.t 32) (.k (.v (.bool false)))),gt 6 33]
def r_Z63_6 : List GI:=[gd 35 .eql 21 2,gt 34 35]
def r_Z63_7 : List GI:=[gf 36 3 1,gl 37 36,gd 38 .eql 37 0,gt 39 38,⟨.fad 40 3 2,some 40,some (39,true),false⟩,⟨.lod 41 40 (some 2),some 41,some (39,true),false⟩,⟨.call 42 191 [.t 41],some 42,some (39,true),true⟩,gi 43 (.pick 43 (.t 39) (.t 42) (.k (.v (.bool false)))),gt 6 43]
def r_Z63_8 : List GI:=[gf 44 3 1,gl 45 44,gd 46 .neq 45 0,gt 47 46,⟨.fad 48 3 2,some 48,some (47,false),false⟩,⟨.lod 49 48 (some 2),some 49,some (47,false),false⟩,⟨.build 50 [.v (.bool false),I 0] [],some 50,some (47,false),false⟩,⟨.eqs 51 true [false,true] (.t 49) (.t 50),some 51,some (47,false),false⟩,gi 52 (.pick 52 (.t 47) (.k (.v (.bool true))) (.t 51))]
def r_Z63_9 : List GI:=[gi 6 (.mov 6 (.k (.v (.bool false))))]
def r_Z63_10 : List GI:=[gf 53 3 4,gl 54 53,gn 55 54,gk 56 0]
def r_Z63_11 : List GI:=[gb 57 .lss 56 55]
def r_Z63_12 : List GI:=[ga 58 54 56 5,gs 59 58 5,gi 8 (.alloc 8 2000008 [I 0,I 0,.v (.bool false),I 0,.nul]),g0 (.sto 8 (.t 59) (some 5))]
def r_Z63_13 : List GI:=[gs 60 8 5,gt 61 1,gt 62 2,gd 63 .sub 62 1,gc 64 176 [.t 60,.t 61,.t 63],gi 65 (.un 65 UnOp.not (.t 64))]
def r_Z63_14 : List GI:=[gi 6 (.mov 6 (.k (.v (.bool false))))]
def r_Z63_15 : List GI:=[gd 66 .add 56 1,gt 56 66]
def r_Z63_16 : List GI:=[gi 6 (.mov 6 (.k (.v (.bool true))))]
def dc_Z63 : DC:=.seq (.z r_Z63_0) (.seq (.seq (.reg r_Z63_1 (some [0,1,3,7,15,31,7,71,199,511,1023])) (.cond (.t 19) (.seq (.z r_Z63_2) .ret) .skip)) (.seq (.seq (.z r_Z63_3) (.block 0 (.seq (.z r_Z63_4) (.cond (.t 22) (.seq (.z r_Z63_5) .ret) (.seq (.z r_Z63_6) (.cond (.t 34) (.seq (.z r_Z63_7) .ret) .skip)))))) (.seq (.seq (.z r_Z63_8) (.cond (.t 52) (.seq (.z r_Z63_9) .ret) .skip)) (.seq (.seq (.z r_Z63_10) (.block 1 (.loop (.seq (.z r_Z63_11) (.seq (.cond (.t 57) .skip (.exit 1)) (.seq (.block 2 (.seq (.z r_Z63_12) (.seq (.z r_Z63_13) (.cond (.t 65) (.seq (.z r_Z63_14) .ret) .skip)))) (.z r_Z63_15))))))) (.seq (.z r_Z63_16) .ret)))))
theorem c_Z63 : cfun Tryz.prog [] 176 = some (67,dc_Z63,[(Res.tmp 6)]):=by kernel_rfl
def r_Z143_0 : List GI:=[gk 2 0]
def r_Z143_1 : List GI:=[gt 3 0]
def r_Z143_2 : List GI:=[gd 5 .eql 3 1,gt 4 5]
def r_Z143_3 : List GI:=[gd 6 .eql 3 2,gt 4 6]
def r_Z143_4 : List GI:=[gk 2 0]
def r_Z143_5 : List GI:=[gd 8 .eql 3 10,gt 7 8]
def r_Z143_6 : List GI:=[gd 9 .eql 3 11,gt 7 9]
def r_Z143_7 : List GI:=[gk 2 1]
def r_Z143_8 : List GI:=[gd 11 .eql 3 3,gt 10 11]
def r_Z143_9 : List GI:=[gd 12 .eql 3 4,gt 10 12]
def r_Z143_10 : List GI:=[gd 13 .eql 3 5,gt 10 13]
def r_Z143_11 : List GI:=[gd 14 .eql 3 6,gt 10 14]
def r_Z143_12 : List GI:=[gd 15 .eql 3 7,gt 10 15]
def r_Z143_13 : List GI:=[gd 16 .eql 3 8,gt 10 16]
def r_Z143_14 : List GI:=[gd 17 .eql 3 9,gt 10 17]
def r_Z143_15 : List GI:=[gk 2 2]
def r_Z143_16 : List GI:=[gi 2 (.mov 2 (.k (.v (.int .i64 (-1)))))]
def dc_Z143 : DC:=.seq (.z r_Z143_0) (.seq (.seq (.z r_Z143_1) (.block 0 (.seq (.seq (.z r_Z143_2) (.cond (.t 4) .skip (.z r_Z143_3))) (.cond (.t 4) (.seq (.z r_Z143_4) .ret) (.seq (.seq (.z r_Z143_5) (.cond (.t 7) .skip (.z r_Z143_6))) (.cond (.t 7) (.seq (.z r_Z143_7) .ret) (.seq (.seq (.z r_Z143_8) (.cond (.t 10) .skip (.seq (.z r_Z143_9) (.cond (.t 10) .skip (.seq (.z r_Z143_10) (.cond (.t 10) .skip (.seq (.z r_Z143_11) (.cond (.t 10) .skip (.seq (.z r_Z143_12) (.cond (.t 10) .skip (.seq (.z r_Z143_13) (.cond (.t 10) .skip (.z r_Z143_14))))))))))))) (.cond (.t 10) (.seq (.z r_Z143_15) .ret) .skip)))))))) (.seq (.z r_Z143_16) .ret))
theorem c_Z143 : cfun Tryz.prog [] 181 = some (18,dc_Z143,[(Res.tmp 2)]):=by kernel_rfl
def r_Z148_0 : List GI:=[gk 2 0]
def r_Z148_1 : List GI:=[gt 3 0]
def r_Z148_2 : List GI:=[gk 2 1]
def r_Z148_3 : List GI:=[gk 2 0]
def dc_Z148 : DC:=.seq (.z r_Z148_0) (.seq (.seq (.z r_Z148_1) (.cond (.t 3) (.seq (.z r_Z148_2) .ret) .skip)) (.seq (.z r_Z148_3) .ret))
theorem c_Z148 : cfun Tryz.prog [] 216 = some (4,dc_Z148,[(Res.tmp 2)]):=by kernel_rfl
def r_Z98_0 : List GI:=[gi 2 (.box 2 2000002 (.t 0) (some 5)),gi 4 (.mov 4 (.k (.v (.bool false))))]
def r_Z98_1 : List GI:=[gt 5 1,gc 6 136 [.t 5,.k (I 1),.k (I 6)],gt 7 6,⟨.lod 8 2 (some 5),some 8,some (7,true),false⟩,⟨.mov 9 (.t 1),some 9,some (7,true),false⟩,⟨.call 10 172 [.t 8,.t 9,.k (I 8)],some 10,some (7,true),true⟩,gi 11 (.pick 11 (.t 7) (.t 10) (.k (.v (.bool false)))),gt 4 11]
def dc_Z98 : DC:=.seq (.z r_Z98_0) (.seq (.z r_Z98_1) .ret)
theorem c_Z98 : cfun Tryz.prog [] 138 = some (12,dc_Z98,[(Res.tmp 4)]):=by kernel_rfl
def r_Z107_0 : List GI:=[gi 3 (.box 3 2000003 (.t 0) (some 5)),gi 6 (.mov 6 (.k (.v (.bool false))))]
def r_Z107_1 : List GI:=[gf 8 3 4,gl 9 8,gn 10 9,gf 11 3 0,gl 12 11,gc 13 181 [.t 12],gb 14 .neq 10 13,gt 15 14,⟨.fad 16 3 4,some 16,some (15,false),false⟩,⟨.lod 17 16 none,some 17,some (15,false),false⟩,⟨.len 18 (.t 17),some 18,some (15,false),false⟩,⟨.bin 19 .gtr (.t 18) (.k (I 0)),some 19,some (15,false),false⟩,⟨.mov 20 (.t 19),some 20,some (15,false),false⟩,⟨.mov 21 (.t 2),some 21,some (20,true),false⟩,⟨.bin 22 .eql (.t 21) (.k (I 0)),some 22,some (20,true),false⟩,⟨.pick 23 (.t 20) (.t 22) (.k (.v (.bool false))),some 23,some (15,false),false⟩,gi 24 (.pick 24 (.t 15) (.k (.v (.bool true))) (.t 23))]
def r_Z107_2 : List GI:=[gi 6 (.mov 6 (.k (.v (.bool false))))]
def r_Z107_3 : List GI:=[gk 7 0]
def r_Z107_4 : List GI:=[gt 25 7,gf 26 3 4,gl 27 26,gn 28 27,gb 29 .lss 25 28]
def r_Z107_5 : List GI:=[gf 32 3 4,gl 33 32,gt 34 7,ga 35 33 34 5,gs 36 35 5,gt 37 1,gt 38 2,gd 39 .sub 38 1,gc 40 172 [.t 36,.t 37,.t 39],gi 41 (.un 41 UnOp.not (.t 40))]
def r_Z107_6 : List GI:=[gi 6 (.mov 6 (.k (.v (.bool false))))]
def r_Z107_7 : List GI:=[gt 30 7,gd 31 .add 30 1,gt 7 31]
def r_Z107_8 : List GI:=[gf 42 3 0,gl 43 42]
def r_Z107_9 : List GI:=[gd 45 .eql 43 1,gt 44 45]
def r_Z107_10 : List GI:=[gf 46 3 1,gl 47 46,gt 48 1,gd 49 .sub 48 1,gc 50 136 [.t 47,.k (I 0),.t 49],gt 51 50,⟨.fad 52 3 2,some 52,some (51,true),false⟩,⟨.lod 53 52 (some 2),some 53,some (51,true),false⟩,⟨.build 54 [.v (.bool false),I 0] [],some 54,some (51,true),false⟩,⟨.eqs 55 false [false,true] (.t 53) (.t 54),some 55,some (51,true),false⟩,gi 56 (.pick 56 (.t 51) (.t 55) (.k (.v (.bool false)))),gt 6 56]
def r_Z107_11 : List GI:=[gd 58 .eql 43 2,gt 57 58]
def r_Z107_12 : List GI:=[gf 59 3 1,gl 60 59,gd 61 .eql 60 0,gt 62 61,⟨.fad 63 3 2,some 63,some (62,true),false⟩,⟨.lod 64 63 (some 2),some 64,some (62,true),false⟩,⟨.call 65 185 [.t 64],some 65,some (62,true),true⟩,gi 66 (.pick 66 (.t 62) (.t 65) (.k (.v (.bool false)))),gt 6 66]
def r_Z107_13 : List GI:=[gf 67 3 1,gl 68 67,gd 69 .eql 68 0,gt 70 69,⟨.fad 71 3 2,some 71,some (70,true),false⟩,⟨.lod 72 71 (some 2),some 72,some (70,true),false⟩,⟨.build 73 [.v (.bool false),I 0] [],some 73,some (70,true),false⟩,⟨.eqs 74 false [false,true] (.t 72) (.t 73),some 74,some (70,true),false⟩,gi 75 (.pick 75 (.t 70) (.t 74) (.k (.v (.bool false)))),gt 6 75]
def dc_Z107 : DC:=.seq (.z r_Z107_0) (.seq (.seq (.reg r_Z107_1 (some [0,1,3,0,8,24,63,127,255,511,1023,2047,4095,8191,16383,32767,65535])) (.cond (.t 24) (.seq (.z r_Z107_2) .ret) .skip)) (.seq (.seq (.z r_Z107_3) (.block 0 (.loop (.seq (.seq (.z r_Z107_4) (.cond (.t 29) .skip (.exit 0))) (.seq (.block 1 (.seq (.z r_Z107_5) (.cond (.t 41) (.seq (.z r_Z107_6) .ret) .skip))) (.z r_Z107_7)))))) (.seq (.seq (.z r_Z107_8) (.block 2 (.seq (.z r_Z107_9) (.cond (.t 44) (.seq (.z r_Z107_10) .ret) (.seq (.z r_Z107_11) (.cond (.t 57) (.seq (.z r_Z107_12) .ret) .skip)))))) (.seq (.z r_Z107_13) .ret))))
theorem c_Z107 : cfun Tryz.prog [] 172 = some (76,dc_Z107,[(Res.tmp 6)]):=by kernel_rfl
def r_Z119_0 : List GI:=[gk 4 0]
def r_Z119_1 : List GI:=[gt 6 0,gd 7 .eql 6 0,gt 8 7,⟨.mov 9 (.t 1),some 9,some (8,false),false⟩,⟨.bin 10 .eql (.t 9) (.k (I 0)),some 10,some (8,false),false⟩,gi 11 (.pick 11 (.t 8) (.k (.v (.bool true))) (.t 10)),gt 5 11]
def r_Z119_2 : List GI:=[gk 4 0]
def r_Z119_3 : List GI:=[gt 13 0,gd 14 .eql 13 1,gt 15 14,⟨.mov 16 (.t 1),some 16,some (15,true),false⟩,⟨.bin 17 .eql (.t 16) (.k (I 1)),some 17,some (15,true),false⟩,gi 18 (.pick 18 (.t 15) (.t 17) (.k (.v (.bool false)))),gt 12 18]
def r_Z119_4 : List GI:=[gk 4 1]
def r_Z119_5 : List GI:=[gk 4 2]
def dc_Z119 : DC:=.seq (.z r_Z119_0) (.seq (.block 0 (.seq (.z r_Z119_1) (.cond (.t 5) (.seq (.z r_Z119_2) .ret) (.seq (.z r_Z119_3) (.cond (.t 12) (.seq (.z r_Z119_4) .ret) .skip))))) (.seq (.z r_Z119_5) .ret))
theorem c_Z119 : cfun Tryz.prog [] 212 = some (19,dc_Z119,[(Res.tmp 4)]):=by kernel_rfl
def r_Z135_0 : List GI:=[gi 4 (.box 4 2000004 (.t 1) (some 2)),gi 5 (.box 5 2000005 (.t 2) (some 2)),gi 6 (.alloc 6 2000006 [.v (.bool false),I 0])]
def r_Z135_1 : List GI:=[gt 7 0]
def r_Z135_2 : List GI:=[gd 9 .eql 7 8,gt 8 9]
def r_Z135_3 : List GI:=[gs 10 4 2,gc 11 213 [.t 10],gs 12 5 2,gc 13 213 [.t 12],gc 14 212 [.t 11,.t 13],gc 15 211 [.t 14],g0 (.sto 6 (.t 15) (some 2))]
def r_Z135_4 : List GI:=[gd 17 .eql 7 9,gt 16 17]
def r_Z135_5 : List GI:=[gs 18 4 2,gc 19 213 [.t 18],gc 20 214 [.t 19],gs 21 5 2,gc 22 213 [.t 21],gc 23 214 [.t 22],gc 24 212 [.t 20,.t 23],gc 25 214 [.t 24],gc 26 211 [.t 25],g0 (.sto 6 (.t 26) (some 2))]
def r_Z135_6 : List GI:=[gf 27 4 0,gl 28 27,gt 29 28,⟨.fad 30 5 0,some 30,some (29,false),false⟩,⟨.lod 31 30 none,some 31,some (29,false),false⟩,gi 32 (.pick 32 (.t 29) (.k (.v (.bool true))) (.t 31))]
def r_Z135_7 : List GI:=[gi 33 (.build 33 [.v (.bool false),I 0] [(0,(none,.k (.v (.bool true))))]),g0 (.sto 6 (.t 33) (some 2))]
def r_Z135_8 : List GI:=[gt 34 0]
def r_Z135_9 : List GI:=[gd 36 .eql 34 3,gt 35 36]
def r_Z135_10 : List GI:=[gf 37 4 1,gl 38 37,gf 39 5 1,gl 40 39,gb 41 .add 38 40,gc 42 215 [.t 41],g0 (.sto 6 (.t 42) (some 2))]
def r_Z135_11 : List GI:=[gd 44 .eql 34 4,gt 43 44]
def r_Z135_12 : List GI:=[gf 45 4 1,gl 46 45,gf 47 5 1,gl 48 47,gb 49 .sub 46 48,gc 50 215 [.t 49],g0 (.sto 6 (.t 50) (some 2))]
def r_Z135_13 : List GI:=[gd 52 .eql 34 5,gt 51 52]
def r_Z135_14 : List GI:=[gf 53 4 1,gl 54 53,gf 55 5 1,gl 56 55,gb 57 .mul 54 56,gc 58 215 [.t 57],g0 (.sto 6 (.t 58) (some 2))]
def r_Z135_15 : List GI:=[gd 60 .eql 34 6,gt 59 60]
def r_Z135_16 : List GI:=[gf 61 4 1,gl 62 61,gf 63 5 1,gl 64 63,gb 65 .eql 62 64,gc 66 216 [.t 65],gi 67 (.build 67 [.v (.bool false),I 0] [(1,(none,.t 66))]),g0 (.sto 6 (.t 67) (some 2))]
def r_Z135_17 : List GI:=[gf 68 4 1,gl 69 68,gf 70 5 1,gl 71 70,gb 72 .lss 69 71,gc 73 216 [.t 72],gi 74 (.build 74 [.v (.bool false),I 0] [(1,(none,.t 73))]),g0 (.sto 6 (.t 74) (some 2))]
def dc_Z135 : DC:=.seq (.z r_Z135_0) (.seq (.seq (.z r_Z135_1) (.block 0 (.seq (.z r_Z135_2) (.cond (.t 8) (.seq (.reg r_Z135_3 (some [0,1,0,7,15,31,63])) .ret) (.seq (.z r_Z135_4) (.cond (.t 16) (.seq (.reg r_Z135_5 (some [0,1,3,0,15,31,63,127,255,511])) .ret) .skip)))))) (.seq (.seq (.z r_Z135_6) (.cond (.t 32) (.seq (.z r_Z135_7) .ret) .skip)) (.seq (.seq (.z r_Z135_8) (.block 1 (.seq (.z r_Z135_9) (.cond (.t 35) (.seq (.z r_Z135_10) .ret) (.seq (.z r_Z135_11) (.cond (.t 43) (.seq (.z r_Z135_12) .ret) (.seq (.z r_Z135_13) (.cond (.t 51) (.seq (.z r_Z135_14) .ret) (.seq (.z r_Z135_15) (.cond (.t 59) (.seq (.z r_Z135_16) .ret) .skip)))))))))) (.seq (.z r_Z135_17) .ret))))
theorem c_Z135 : cfun Tryz.prog [] 209 = some (75,dc_Z135,[(Res.cell 6 (some 2))]):=by kernel_rfl
def r_Z125_0 : List GI:=[gk 2 0]
def r_Z125_1 : List GI:=[gt 3 0,gd 4 .eql 3 2]
def r_Z125_2 : List GI:=[gk 2 2]
def r_Z125_3 : List GI:=[gt 5 0,gi 6 (.bin 6 .sub (.k (I 1)) (.t 5)),gt 2 6]
def dc_Z125 : DC:=.seq (.z r_Z125_0) (.seq (.seq (.z r_Z125_1) (.cond (.t 4) (.seq (.z r_Z125_2) .ret) .skip)) (.seq (.z r_Z125_3) .ret))
theorem c_Z125 : cfun Tryz.prog [] 214 = some (7,dc_Z125,[(Res.tmp 2)]):=by kernel_rfl
def r_Z137_0 : List GI:=[gi 2 (.alloc 2 2000002 [.v (.bool false),I 0])]
def r_Z137_1 : List GI:=[gt 3 0,gd 4 .eql 3 2]
def r_Z137_2 : List GI:=[gi 5 (.build 5 [.v (.bool false),I 0] [(0,(none,.k (.v (.bool true))))]),g0 (.sto 2 (.t 5) (some 2))]
def r_Z137_3 : List GI:=[gt 6 0,gi 7 (.build 7 [.v (.bool false),I 0] [(1,(none,.t 6))]),g0 (.sto 2 (.t 7) (some 2))]
def dc_Z137 : DC:=.seq (.z r_Z137_0) (.seq (.seq (.z r_Z137_1) (.cond (.t 4) (.seq (.z r_Z137_2) .ret) .skip)) (.seq (.z r_Z137_3) .ret))
theorem c_Z137 : cfun Tryz.prog [] 211 = some (8,dc_Z137,[(Res.cell 2 (some 2))]):=by kernel_rfl
def r_Z149_0 : List GI:=[gi 1 (.box 1 2000001 (.t 0) (some 2)),gk 2 0]
def r_Z149_1 : List GI:=[gf 4 1 0,gl 5 4,gt 3 5]
def r_Z149_2 : List GI:=[gk 2 2]
def r_Z149_3 : List GI:=[gf 7 1 1,gl 8 7,gd 9 .eql 8 0,gt 6 9]
def r_Z149_4 : List GI:=[gk 2 0]
def r_Z149_5 : List GI:=[gk 2 1]
def dc_Z149 : DC:=.seq (.z r_Z149_0) (.seq (.block 0 (.seq (.z r_Z149_1) (.cond (.t 3) (.seq (.z r_Z149_2) .ret) (.seq (.z r_Z149_3) (.cond (.t 6) (.seq (.z r_Z149_4) .ret) .skip))))) (.seq (.z r_Z149_5) .ret))
theorem c_Z149 : cfun Tryz.prog [] 213 = some (10,dc_Z149,[(Res.tmp 2)]):=by kernel_rfl
def r_Z49_0 : List GI:=[gi 1 (.box 1 2000001 (.t 0) (some 2)),gk 2 0]
def r_Z49_1 : List GI:=[gf 4 1 0,gl 5 4,gt 3 5]
def r_Z49_2 : List GI:=[gk 2 1]
def r_Z49_3 : List GI:=[gf 7 1 1,gl 8 7,gd 9 .eql 8 0,gt 6 9]
def r_Z49_4 : List GI:=[gk 2 0]
def r_Z49_5 : List GI:=[gk 2 2]
def dc_Z49 : DC:=.seq (.z r_Z49_0) (.seq (.block 0 (.seq (.z r_Z49_1) (.cond (.t 3) (.seq (.z r_Z49_2) .ret) (.seq (.z r_Z49_3) (.cond (.t 6) (.seq (.z r_Z49_4) .ret) .skip))))) (.seq (.z r_Z49_5) .ret))
theorem c_Z49 : cfun Tryz.prog [] 205 = some (10,dc_Z49,[(Res.tmp 2)]):=by kernel_rfl
def r_Z95_0 : List GI:=[gk 2 0]
def r_Z95_1 : List GI:=[gt 3 0,gi 4 (.bin 4 .sub (.k (I 2)) (.t 3)),gt 2 4]
def dc_Z95 : DC:=.seq (.z r_Z95_0) (.seq (.z r_Z95_1) .ret)
theorem c_Z95 : cfun Tryz.prog [] 207 = some (5,dc_Z95,[(Res.tmp 2)]):=by kernel_rfl
def r_Z60_0 : List GI:=[gi 2 (.alloc 2 2000002 [.v (.bool false),I 0])]
def r_Z60_1 : List GI:=[gt 3 0]
def r_Z60_2 : List GI:=[gd 5 .eql 3 0,gt 4 5]
def r_Z60_3 : List GI:=[gi 6 (.build 6 [.v (.bool false),I 0] [(1,(none,.k (I 0)))]),g0 (.sto 2 (.t 6) (some 2))]
def r_Z60_4 : List GI:=[gd 8 .eql 3 2,gt 7 8]
def r_Z60_5 : List GI:=[gi 9 (.build 9 [.v (.bool false),I 0] [(1,(none,.k (I 1)))]),g0 (.sto 2 (.t 9) (some 2))]
def r_Z60_6 : List GI:=[gi 10 (.build 10 [.v (.bool false),I 0] [(0,(none,.k (.v (.bool true))))]),g0 (.sto 2 (.t 10) (some 2))]
def dc_Z60 : DC:=.seq (.z r_Z60_0) (.seq (.seq (.z r_Z60_1) (.block 0 (.seq (.z r_Z60_2) (.cond (.t 4) (.seq (.z r_Z60_3) .ret) (.seq (.z r_Z60_4) (.cond (.t 7) (.seq (.z r_Z60_5) .ret) .skip)))))) (.seq (.z r_Z60_6) .ret))
theorem c_Z60 : cfun Tryz.prog [] 208 = some (11,dc_Z60,[(Res.cell 2 (some 2))]):=by kernel_rfl
def r_Z30_0 : List GI:=[gk 2 0]
def r_Z30_1 : List GI:=[gk 3 0]
def r_Z30_2 : List GI:=[gt 6 0,gc 7 206 [.t 6],gn 8 7,gk 9 0]
def r_Z30_3 : List GI:=[gb 10 .lss 9 8]
def r_Z30_4 : List GI:=[ga 11 7 9 1,gl 12 11,gt 5 12]
def r_Z30_5 : List GI:=[gt 13 3,gt 14 5,gc 15 207 [.t 14],gc 16 208 [.t 15],gc 17 193 [.t 16],gb 18 .or 13 17,gt 3 18]
def r_Z30_6 : List GI:=[gd 19 .add 9 1,gt 9 19]
def r_Z30_7 : List GI:=[gt 20 3,gt 2 20]
def dc_Z30 : DC:=.seq (.z r_Z30_0) (.seq (.z r_Z30_1) (.seq (.seq (.z r_Z30_2) (.block 0 (.loop (.seq (.z r_Z30_3) (.seq (.cond (.t 10) .skip (.exit 0)) (.seq (.block 1 (.seq (.z r_Z30_4) (.z r_Z30_5))) (.z r_Z30_6))))))) (.seq (.z r_Z30_7) .ret)))
theorem c_Z30 : cfun Tryz.prog [] 194 = some (21,dc_Z30,[(Res.tmp 2)]):=by kernel_rfl
def r_Z132_0 : List GI:=[gi 1 (.box 1 2000001 (.t 0) (some 2)),gk 2 0]
def r_Z132_1 : List GI:=[gs 3 1 2,gc 4 205 [.t 3]]
def r_Z132_2 : List GI:=[gd 6 .eql 4 0,gt 5 6]
def r_Z132_3 : List GI:=[gk 2 1]
def r_Z132_4 : List GI:=[gd 8 .eql 4 2,gt 7 8]
def r_Z132_5 : List GI:=[gk 2 2]
def r_Z132_6 : List GI:=[gk 2 4]
def dc_Z132 : DC:=.seq (.z r_Z132_0) (.seq (.seq (.z r_Z132_1) (.block 0 (.seq (.z r_Z132_2) (.cond (.t 5) (.seq (.z r_Z132_3) .ret) (.seq (.z r_Z132_4) (.cond (.t 7) (.seq (.z r_Z132_5) .ret) .skip)))))) (.seq (.z r_Z132_6) .ret))
theorem c_Z132 : cfun Tryz.prog [] 193 = some (9,dc_Z132,[(Res.tmp 2)]):=by kernel_rfl
end
end Go.Proofs.YtgpdmgaemhelgaaGreat
