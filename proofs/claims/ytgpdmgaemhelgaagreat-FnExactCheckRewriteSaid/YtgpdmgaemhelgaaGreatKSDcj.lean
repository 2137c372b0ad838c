/-
  Functions of the program read as code on plain data. Closed facts of the program alone.
-/
import Derived.KernelRfl
import Derived.Test.YtgpdmgaemhelgaaGreatRows
import Derived.Test.YtgpdmgaemhelgaaGreatJSVGo
import Derived.Test.YtgpdmgaemhelgaaGreatJSVFrzB
namespace Go.Proofs.YtgpdmgaemhelgaaGreat
open Go.RowKit
noncomputable section
def r_Z0_0 : List GI:=[gi 6 (.mov 6 (.k (.v (.bool false))))]
def r_Z0_1 : List GI:=[gt 10 0,gn 11 10,gt 12 1,gn 13 12,gb 14 .neq 11 13]
def r_Z0_2 : List GI:=[gi 6 (.mov 6 (.k (.v (.bool false))))]
def r_Z0_3 : List GI:=[gt 15 0,gn 16 15,gk 17 0]
def r_Z0_4 : List GI:=[gb 18 .lss 17 16]
def r_Z0_5 : List GI:=[gt 19 17,ga 20 15 17 5,gs 21 20 5,gi 8 (.alloc 8 2000008 [I 0,I 0,.v (.bool false),I 0,.nul]),gt 7 19,g0 (.sto 8 (.t 21) (some 5))]
def r_Z0_6 : List GI:=[gt 22 1,gt 23 7,ga 24 22 23 5,gs 25 24 5,gi 9 (.alloc 9 2000009 [I 0,I 0,.v (.bool false),I 0,.nul]),g0 (.sto 9 (.t 25) (some 5))]
def r_Z0_7 : List GI:=[gt 26 2,gs 27 8 5,gs 28 9 5,⟨.cal 29 (.t 26) [.t 27,.t 28],some 29,none,true⟩,gi 30 (.un 30 UnOp.not (.t 29))]
def r_Z0_8 : List GI:=[gi 6 (.mov 6 (.k (.v (.bool false))))]
def r_Z0_9 : List GI:=[gd 31 .add 17 1,gt 17 31]
def r_Z0_10 : List GI:=[gi 6 (.mov 6 (.k (.v (.bool true))))]
def dc_Z0 : DC:=.seq (.z r_Z0_0) (.seq (.seq (.z r_Z0_1) (.cond (.t 14) (.seq (.z r_Z0_2) .ret) .skip)) (.seq (.seq (.z r_Z0_3) (.block 0 (.loop (.seq (.z r_Z0_4) (.seq (.cond (.t 18) .skip (.exit 0)) (.seq (.block 1 (.seq (.z r_Z0_5) (.seq (.z r_Z0_6) (.seq (.z r_Z0_7) (.cond (.t 30) (.seq (.z r_Z0_8) .ret) .skip))))) (.z r_Z0_9))))))) (.seq (.z r_Z0_10) .ret)))
theorem c_Z0 : cfun Tryz.prog [] 112 = some (32,dc_Z0,[(Res.tmp 6)]):=by kernel_rfl
def r_Z1_0 : List GI:=[gi 6 (.mov 6 (.k (.v (.bool false))))]
def r_Z1_1 : List GI:=[gt 10 0,gn 11 10,gt 12 1,gn 13 12,gb 14 .neq 11 13]
def r_Z1_2 : List GI:=[gi 6 (.mov 6 (.k (.v (.bool false))))]
def r_Z1_3 : List GI:=[gt 15 0,gn 16 15,gk 17 0]
def r_Z1_4 : List GI:=[gb 18 .lss 17 16]
def r_Z1_5 : List GI:=[gt 19 17,ga 20 15 17 5,gs 21 20 5,gi 8 (.alloc 8 2000008 [I 0,I 0,.nul,.nul,.nul]),gt 7 19,g0 (.sto 8 (.t 21) (some 5))]
def r_Z1_6 : List GI:=[gt 22 1,gt 23 7,ga 24 22 23 5,gs 25 24 5,gi 9 (.alloc 9 2000009 [I 0,I 0,.nul,.nul,.nul]),g0 (.sto 9 (.t 25) (some 5))]
def r_Z1_7 : List GI:=[gt 26 2,gs 27 8 5,gs 28 9 5,⟨.cal 29 (.t 26) [.t 27,.t 28],some 29,none,true⟩,gi 30 (.un 30 UnOp.not (.t 29))]
def r_Z1_8 : List GI:=[gi 6 (.mov 6 (.k (.v (.bool false))))]
def r_Z1_9 : List GI:=[gd 31 .add 17 1,gt 17 31]
def r_Z1_10 : List GI:=[gi 6 (.mov 6 (.k (.v (.bool true))))]
def dc_Z1 : DC:=.seq (.z r_Z1_0) (.seq (.seq (.z r_Z1_1) (.cond (.t 14) (.seq (.z r_Z1_2) .ret) .skip)) (.seq (.seq (.z r_Z1_3) (.block 0 (.loop (.seq (.z r_Z1_4) (.seq (.cond (.t 18) .skip (.exit 0)) (.seq (.block 1 (.seq (.z r_Z1_5) (.seq (.z r_Z1_6) (.seq (.z r_Z1_7) (.cond (.t 30) (.seq (.z r_Z1_8) .ret) .skip))))) (.z r_Z1_9))))))) (.seq (.z r_Z1_10) .ret)))
theorem c_Z1 : cfun Tryz.prog [] 114 = some (32,dc_Z1,[(Res.tmp 6)]):=by kernel_rfl
def r_Z14_0 : List GI:=[gi 4 (.mov 4 (.k (.v (.bool false))))]
def r_Z14_1 : List GI:=[gt 6 0,gn 7 6,gt 8 1,gn 9 8,gb 10 .neq 7 9]
def r_Z14_2 : List GI:=[gi 4 (.mov 4 (.k (.v (.bool false))))]
def r_Z14_3 : List GI:=[gt 11 0,gn 12 11,gk 13 0]
def r_Z14_4 : List GI:=[gb 14 .lss 13 12]
def r_Z14_5 : List GI:=[gt 15 13,gt 5 15]
def r_Z14_6 : List GI:=[gt 16 0,gt 17 5,ga 18 16 17 1,gl 19 18,gt 20 1,gt 21 5,ga 22 20 21 1,gl 23 22,gb 24 .neq 19 23]
def r_Z14_7 : List GI:=[gi 4 (.mov 4 (.k (.v (.bool false))))]
def r_Z14_8 : List GI:=[gd 25 .add 13 1,gt 13 25]
def r_Z14_9 : List GI:=[gi 4 (.mov 4 (.k (.v (.bool true))))]
def dc_Z14 : DC:=.seq (.z r_Z14_0) (.seq (.seq (.z r_Z14_1) (.cond (.t 10) (.seq (.z r_Z14_2) .ret) .skip)) (.seq (.seq (.z r_Z14_3) (.block 0 (.loop (.seq (.z r_Z14_4) (.seq (.cond (.t 14) .skip (.exit 0)) (.seq (.block 1 (.seq (.z r_Z14_5) (.seq (.reg r_Z14_6 (some [0,0,3,7,0,0,48,112,255])) (.cond (.t 24) (.seq (.z r_Z14_7) .ret) .skip)))) (.z r_Z14_8))))))) (.seq (.z r_Z14_9) .ret)))
theorem c_Z14 : cfun Tryz.prog [] 111 = some (26,dc_Z14,[(Res.tmp 4)]):=by kernel_rfl
def r_Z73_0 : List GI:=[gi 2 (.box 2 2000002 (.t 0) (some 5)),gi 3 (.box 3 2000003 (.t 1) (some 5)),gi 4 (.mov 4 (.k (.v (.bool false))))]
def r_Z73_1 : List GI:=[gf 6 2 0,gl 7 6,gf 8 3 0,gl 9 8,gb 10 .neq 7 9,gt 11 10,⟨.fad 12 2 1,some 12,some (11,false),false⟩,⟨.lod 13 12 none,some 13,some (11,false),false⟩,⟨.fad 14 3 1,some 14,some (11,false),false⟩,⟨.lod 15 14 none,some 15,some (11,false),false⟩,⟨.bin 16 .neq (.t 13) (.t 15),some 16,some (11,false),false⟩,gi 17 (.pick 17 (.t 11) (.k (.v (.bool true))) (.t 16)),gt 18 17,⟨.fad 19 2 2,some 19,some (18,false),false⟩,⟨.lod 20 19 (some 2),some 20,some (18,false),false⟩,⟨.fad 21 3 2,some 21,some (18,false),false⟩,⟨.lod 22 21 (some 2),some 22,some (18,false),false⟩,⟨.eqs 23 true [false,true] (.t 20) (.t 22),some 23,some (18,false),false⟩,gi 24 (.pick 24 (.t 18) (.k (.v (.bool true))) (.t 23)),gt 25 24,⟨.fad 26 2 4,some 26,some (25,false),false⟩,⟨.lod 27 26 none,some 27,some (25,false),false⟩,⟨.len 28 (.t 27),some 28,some (25,false),false⟩,⟨.fad 29 3 4,some 29,some (25,false),false⟩,⟨.lod 30 29 none,some 30,some (25,false),false⟩,⟨.len 31 (.t 30),some 31,some (25,false),false⟩,⟨.bin 32 .neq (.t 28) (.t 31),some 32,some (25,false),false⟩,gi 33 (.pick 33 (.t 25) (.k (.v (.bool true))) (.t 32))]
def r_Z73_2 : List GI:=[gi 4 (.mov 4 (.k (.v (.bool false))))]
def r_Z73_3 : List GI:=[gk 5 0]
def r_Z73_4 : List GI:=[gt 34 5,gf 35 2 4,gl 36 35,gn 37 36,gb 38 .lss 34 37]
def r_Z73_5 : List GI:=[gf 41 2 4,gl 42 41,gt 43 5,ga 44 42 43 5,gs 45 44 5,gf 46 3 4,gl 47 46,gt 48 5,ga 49 47 48 5,gs 50 49 5,gc 51 115 [.t 45,.t 50],gi 52 (.un 52 UnOp.not (.t 51))]
def r_Z73_6 : List GI:=[gi 4 (.mov 4 (.k (.v (.bool false))))]
def r_Z73_7 : List GI:=[gt 39 5,gd 40 .add 39 1,gt 5 40]
def r_Z73_8 : List GI:=[gi 4 (.mov 4 (.k (.v (.bool true))))]
def dc_Z73 : DC:=.seq (.z r_Z73_0) (.seq (.seq (.z r_Z73_1) (.cond (.t 33) (.seq (.z r_Z73_2) .ret) .skip)) (.seq (.seq (.z r_Z73_3) (.block 0 (.loop (.seq (.seq (.z r_Z73_4) (.cond (.t 38) .skip (.exit 0))) (.seq (.block 1 (.seq (.reg r_Z73_5 (some [0,1,0,7,15,0,32,0,224,480,1023,2047])) (.cond (.t 52) (.seq (.z r_Z73_6) .ret) .skip))) (.z r_Z73_7)))))) (.seq (.z r_Z73_8) .ret)))
theorem c_Z73 : cfun Tryz.prog [] 115 = some (53,dc_Z73,[(Res.tmp 4)]):=by kernel_rfl
def r_Z74_0 : List GI:=[gi 2 (.box 2 2000002 (.t 0) (some 5)),gi 3 (.box 3 2000003 (.t 1) (some 5)),gi 4 (.mov 4 (.k (.v (.bool false))))]
def r_Z74_1 : List GI:=[gf 8 2 0,gl 9 8,gf 10 3 0,gl 11 10,gb 12 .neq 9 11,gt 13 12,⟨.fad 14 2 1,some 14,some (13,false),false⟩,⟨.lod 15 14 none,some 15,some (13,false),false⟩,⟨.fad 16 3 1,some 16,some (13,false),false⟩,⟨.lod 17 16 none,some 17,some (13,false),false⟩,⟨.bin 18 .neq (.t 15) (.t 17),some 18,some (13,false),false⟩,gi 19 (.pick 19 (.t 13) (.k (.v (.bool true))) (.t 18)),gt 20 19,⟨.fad 21 2 2,some 21,some (20,false),false⟩,⟨.lod 22 21 none,some 22,some (20,false),false⟩,⟨.len 23 (.t 22),some 23,some (20,false),false⟩,⟨.fad 24 3 2,some 24,some (20,false),false⟩,⟨.lod 25 24 none,some 25,some (20,false),false⟩,⟨.len 26 (.t 25),some 26,some (20,false),false⟩,⟨.bin 27 .neq (.t 23) (.t 26),some 27,some (20,false),false⟩,gi 28 (.pick 28 (.t 20) (.k (.v (.bool true))) (.t 27)),gt 29 28,⟨.fad 30 2 3,some 30,some (29,false),false⟩,⟨.lod 31 30 none,some 31,some (29,false),false⟩,⟨.len 32 (.t 31),some 32,some (29,false),false⟩,⟨.fad 33 3 3,some 33,some (29,false),false⟩,⟨.lod 34 33 none,some 34,some (29,false),false⟩,⟨.len 35 (.t 34),some 35,some (29,false),false⟩,⟨.bin 36 .neq (.t 32) (.t 35),some 36,some (29,false),false⟩,gi 37 (.pick 37 (.t 29) (.k (.v (.bool true))) (.t 36)),gt 38 37,⟨.fad 39 2 4,some 39,some (38,false),false⟩,⟨.lod 40 39 none,some 40,some (38,false),false⟩,⟨.len 41 (.t 40),some 41,some (38,false),false⟩,⟨.fad 42 3 4,some 42,some (38,false),false⟩,⟨.lod 43 42 none,some 43,some (38,false),false⟩,⟨.len 44 (.t 43),some 44,some (38,false),false⟩,⟨.bin 45 .neq (.t 41) (.t 44),some 45,some (38,false),false⟩,gi 46 (.pick 46 (.t 38) (.k (.v (.bool true))) (.t 45))]
def r_Z74_2 : List GI:=[gi 4 (.mov 4 (.k (.v (.bool false))))]
def r_Z74_3 : List GI:=[gk 5 0]
def r_Z74_4 : List GI:=[gt 47 5,gf 48 2 2,gl 49 48,gn 50 49,gb 51 .lss 47 50]
def r_Z74_5 : List GI:=[gf 54 2 2,gl 55 54,gt 56 5,ga 57 55 56 5,gs 58 57 5,gf 59 3 2,gl 60 59,gt 61 5,ga 62 60 61 5,gs 63 62 5,gc 64 115 [.t 58,.t 63],gi 65 (.un 65 UnOp.not (.t 64))]
def r_Z74_6 : List GI:=[gi 4 (.mov 4 (.k (.v (.bool false))))]
def r_Z74_7 : List GI:=[gt 52 5,gd 53 .add 52 1,gt 5 53]
def r_Z74_8 : List GI:=[gk 6 0]
def r_Z74_9 : List GI:=[gt 66 6,gf 67 2 3,gl 68 67,gn 69 68,gb 70 .lss 66 69]
def r_Z74_10 : List GI:=[gf 73 2 3,gl 74 73,gt 75 6,ga 76 74 75 1,gl 77 76,gf 78 3 3,gl 79 78,gt 80 6,ga 81 79 80 1,gl 82 81,gb 83 .neq 77 82]
def r_Z74_11 : List GI:=[gi 4 (.mov 4 (.k (.v (.bool false))))]
def r_Z74_12 : List GI:=[gt 71 6,gd 72 .add 71 1,gt 6 72]
def r_Z74_13 : List GI:=[gk 7 0]
def r_Z74_14 : List GI:=[gt 84 7,gf 85 2 4,gl 86 85,gn 87 86,gb 88 .lss 84 87]
def r_Z74_15 : List GI:=[gf 91 2 4,gl 92 91,gt 93 7,ga 94 92 93 5,gs 95 94 5,gf 96 3 4,gl 97 96,gt 98 7,ga 99 97 98 5,gs 100 99 5,gc 101 67 [.t 95,.t 100],gi 102 (.un 102 UnOp.not (.t 101))]
def r_Z74_16 : List GI:=[gi 4 (.mov 4 (.k (.v (.bool false))))]
def r_Z74_17 : List GI:=[gt 89 7,gd 90 .add 89 1,gt 7 90]
def r_Z74_18 : List GI:=[gi 4 (.mov 4 (.k (.v (.bool true))))]
def dc_Z74 : DC:=.seq (.z r_Z74_0) (.seq (.seq (.z r_Z74_1) (.cond (.t 46) (.seq (.z r_Z74_2) .ret) .skip)) (.seq (.seq (.z r_Z74_3) (.block 0 (.loop (.seq (.seq (.z r_Z74_4) (.cond (.t 51) .skip (.exit 0))) (.seq (.block 1 (.seq (.reg r_Z74_5 (some [0,1,0,7,15,0,32,0,224,480,1023,2047])) (.cond (.t 65) (.seq (.z r_Z74_6) .ret) .skip))) (.z r_Z74_7)))))) (.seq (.seq (.z r_Z74_8) (.block 2 (.loop (.seq (.seq (.z r_Z74_9) (.cond (.t 70) .skip (.exit 2))) (.seq (.block 3 (.seq (.reg r_Z74_10 (some [0,1,0,7,15,0,32,0,224,480,1023])) (.cond (.t 83) (.seq (.z r_Z74_11) .ret) .skip))) (.z r_Z74_12)))))) (.seq (.seq (.z r_Z74_13) (.block 4 (.loop (.seq (.seq (.z r_Z74_14) (.cond (.t 88) .skip (.exit 4))) (.seq (.block 5 (.seq (.reg r_Z74_15 (some [0,1,0,7,15,0,32,0,224,480,1023,2047])) (.cond (.t 102) (.seq (.z r_Z74_16) .ret) .skip))) (.z r_Z74_17)))))) (.seq (.z r_Z74_18) .ret)))))
theorem c_Z74 : cfun Tryz.prog [] 67 = some (103,dc_Z74,[(Res.tmp 4)]):=by kernel_rfl
def r_Z35_0 : List GI:=[gi 4 (.box 4 2000004 (.t 0) (some 5)),gi 5 (.box 5 2000005 (.t 1) (some 5)),gi 8 (.mov 8 (.k (.v (.bool false))))]
def r_Z35_1 : List GI:=[gt 12 3,gs 13 4 5,gt 14 2,gc 15 63 [.t 12,.t 13,.t 14],gt 11 15,gi 16 (.ext 16 11 0),gi 17 (.ext 17 11 1),gi 9 (.alloc 9 2000009 [I 0,I 0,.nul,.nul,.nul]),g0 (.sto 9 (.t 16) (some 5)),gt 10 17]
def r_Z35_2 : List GI:=[gt 18 10,gt 19 18,⟨.lod 20 9 (some 5),some 20,some (19,true),false⟩,⟨.lod 21 5 (some 5),some 21,some (19,true),false⟩,⟨.call 22 66 [.t 20,.t 21],some 22,some (19,true),true⟩,gi 23 (.pick 23 (.t 19) (.t 22) (.k (.v (.bool false)))),gt 8 23]
def dc_Z35 : DC:=.seq (.z r_Z35_0) (.seq (.z r_Z35_1) (.seq (.z r_Z35_2) .ret))
theorem c_Z35 : cfun Tryz.prog [] 32 = some (24,dc_Z35,[(Res.tmp 8)]):=by kernel_rfl
def r_Z44_0 : List GI:=[gi 4 (.box 4 2000004 (.t 0) (some 5)),gi 5 (.box 5 2000005 (.t 1) (some 5)),gi 8 (.mov 8 (.k (.v (.bool false))))]
def r_Z44_1 : List GI:=[gs 12 4 5,gt 13 2,gt 14 3,gc 15 30 [.t 12,.t 13,.t 14],gt 11 15,gi 16 (.ext 16 11 0),gi 17 (.ext 17 11 1),gi 9 (.alloc 9 2000009 [I 0,I 0,.nul,.nul,.nul]),g0 (.sto 9 (.t 16) (some 5)),gt 10 17]
def r_Z44_2 : List GI:=[gt 18 10,gt 19 18,⟨.lod 20 9 (some 5),some 20,some (19,true),false⟩,⟨.lod 21 5 (some 5),some 21,some (19,true),false⟩,⟨.call 22 67 [.t 20,.t 21],some 22,some (19,true),true⟩,gi 23 (.pick 23 (.t 19) (.t 22) (.k (.v (.bool false)))),gt 8 23]
def dc_Z44 : DC:=.seq (.z r_Z44_0) (.seq (.z r_Z44_1) (.seq (.z r_Z44_2) .ret))
theorem c_Z44 : cfun Tryz.prog [] 33 = some (24,dc_Z44,[(Res.tmp 8)]):=by kernel_rfl
def r_Z139_0 : List GI:=[gi 4 (.mov 4 (.k (.v (.bool false))))]
def r_Z139_1 : List GI:=[gt 6 0,gn 7 6,gt 8 1,gn 9 8,gb 10 .neq 7 9]
def r_Z139_2 : List GI:=[gi 4 (.mov 4 (.k (.v (.bool false))))]
def r_Z139_3 : List GI:=[gk 5 0]
def r_Z139_4 : List GI:=[gt 11 5,gt 12 0,gn 13 12,gb 14 .lss 11 13]
def r_Z139_5 : List GI:=[gt 17 0,gt 18 5,ga 19 17 18 1,gl 20 19,gt 21 1,gt 22 5,ga 23 21 22 1,gl 24 23,gb 25 .neq 20 24]
def r_Z139_6 : List GI:=[gi 4 (.mov 4 (.k (.v (.bool false))))]
def r_Z139_7 : List GI:=[gt 15 5,gd 16 .add 15 1,gt 5 16]
def r_Z139_8 : List GI:=[gi 4 (.mov 4 (.k (.v (.bool true))))]
def dc_Z139 : DC:=.seq (.z r_Z139_0) (.seq (.seq (.z r_Z139_1) (.cond (.t 10) (.seq (.z r_Z139_2) .ret) .skip)) (.seq (.seq (.z r_Z139_3) (.block 0 (.loop (.seq (.seq (.z r_Z139_4) (.cond (.t 14) .skip (.exit 0))) (.seq (.block 1 (.seq (.reg r_Z139_5 (some [0,0,3,7,0,0,48,112,255])) (.cond (.t 25) (.seq (.z r_Z139_6) .ret) .skip))) (.z r_Z139_7)))))) (.seq (.z r_Z139_8) .ret)))
theorem c_Z139 : cfun Tryz.prog [] 46 = some (26,dc_Z139,[(Res.tmp 4)]):=by kernel_rfl
def r_Z143_0 : List GI:=[gk 4 0]
def r_Z143_1 : List GI:=[gt 5 1,gt 6 0,gn 7 6,gb 8 .sub 5 7,gt 1 8]
def r_Z143_2 : List GI:=[gt 9 1,gd 10 .lss 9 0]
def r_Z143_3 : List GI:=[gi 4 (.mov 4 (.k (.v (.int .i64 (-1)))))]
def r_Z143_4 : List GI:=[gt 11 1,gt 4 11]
def dc_Z143 : DC:=.seq (.z r_Z143_0) (.seq (.z r_Z143_1) (.seq (.seq (.z r_Z143_2) (.cond (.t 10) (.seq (.z r_Z143_3) .ret) .skip)) (.seq (.z r_Z143_4) .ret)))
theorem c_Z143 : cfun Tryz.prog [] 71 = some (12,dc_Z143,[(Res.tmp 4)]):=by kernel_rfl
def r_Z147_0 : List GI:=[gi 2 (.mov 2 (.k .nul))]
def r_Z147_1 : List GI:=[gt 5 0,gn 6 5,gi 7 (.mks 7 2000007 (.t 6) 1 8 (I 0)),gt 3 7]
def r_Z147_2 : List GI:=[gk 4 0]
def r_Z147_3 : List GI:=[gt 8 4,gt 9 0,gn 10 9,gb 11 .lss 8 10]
def r_Z147_4 : List GI:=[gt 14 3,gt 15 4,gt 16 0,gt 17 4,ga 18 16 17 1,gl 19 18,ga 20 14 15 1,g0 (.sto 20 (.t 19) none)]
def r_Z147_5 : List GI:=[gt 12 4,gd 13 .add 12 1,gt 4 13]
def r_Z147_6 : List GI:=[gt 21 3,gt 2 21]
def dc_Z147 : DC:=.seq (.z r_Z147_0) (.seq (.z r_Z147_1) (.seq (.seq (.z r_Z147_2) (.block 0 (.loop (.seq (.seq (.z r_Z147_3) (.cond (.t 11) .skip (.exit 0))) (.seq (.block 1 (.z r_Z147_4)) (.z r_Z147_5)))))) (.seq (.z r_Z147_6) .ret)))
theorem c_Z147 : cfun Tryz.prog [] 43 = some (22,dc_Z147,[(Res.tmp 2)]):=by kernel_rfl
def r_Z141_0 : List GI:=[gi 2 (.box 2 2000002 (.t 0) (some 2)),gi 3 (.box 3 2000003 (.t 1) (some 2)),gi 4 (.mov 4 (.k (.v (.bool false))))]
def r_Z141_1 : List GI:=[gf 5 2 0,gl 6 5,gf 7 3 0,gl 8 7,gb 9 .neq 6 8]
def r_Z141_2 : List GI:=[gi 4 (.mov 4 (.k (.v (.bool false))))]
def r_Z141_3 : List GI:=[gf 10 2 1,gl 11 10,gf 12 3 1,gl 13 12,gc 14 46 [.t 11,.t 13],gi 15 (.un 15 UnOp.not (.t 14))]
def r_Z141_4 : List GI:=[gi 4 (.mov 4 (.k (.v (.bool false))))]
def r_Z141_5 : List GI:=[gi 4 (.mov 4 (.k (.v (.bool true))))]
def dc_Z141 : DC:=.seq (.z r_Z141_0) (.seq (.seq (.z r_Z141_1) (.cond (.t 9) (.seq (.z r_Z141_2) .ret) .skip)) (.seq (.seq (.z r_Z141_3) (.cond (.t 15) (.seq (.z r_Z141_4) .ret) .skip)) (.seq (.z r_Z141_5) .ret)))
theorem c_Z141 : cfun Tryz.prog [] 79 = some (16,dc_Z141,[(Res.tmp 4)]):=by kernel_rfl
def r_Z121_0 : List GI:=[gi 4 (.mov 4 (.k (.v (.bool false))))]
def r_Z121_1 : List GI:=[gt 6 0,gn 7 6,gt 8 1,gn 9 8,gb 10 .neq 7 9]
def r_Z121_2 : List GI:=[gi 4 (.mov 4 (.k (.v (.bool false))))]
def r_Z121_3 : List GI:=[gk 5 0]
def r_Z121_4 : List GI:=[gt 11 5,gt 12 0,gn 13 12,gb 14 .lss 11 13]
def r_Z121_5 : List GI:=[gt 17 0,gt 18 5,ga 19 17 18 2,gs 20 19 2,gt 21 1,gt 22 5,ga 23 21 22 2,gs 24 23 2,gc 25 79 [.t 20,.t 24],gi 26 (.un 26 UnOp.not (.t 25))]
def r_Z121_6 : List GI:=[gi 4 (.mov 4 (.k (.v (.bool false))))]
def r_Z121_7 : List GI:=[gt 15 5,gd 16 .add 15 1,gt 5 16]
def r_Z121_8 : List GI:=[gi 4 (.mov 4 (.k (.v (.bool true))))]
def dc_Z121 : DC:=.seq (.z r_Z121_0) (.seq (.seq (.z r_Z121_1) (.cond (.t 10) (.seq (.z r_Z121_2) .ret) .skip)) (.seq (.seq (.z r_Z121_3) (.block 0 (.loop (.seq (.seq (.z r_Z121_4) (.cond (.t 14) .skip (.exit 0))) (.seq (.block 1 (.seq (.reg r_Z121_5 (some [0,0,3,7,0,0,48,112,255,511])) (.cond (.t 26) (.seq (.z r_Z121_6) .ret) .skip))) (.z r_Z121_7)))))) (.seq (.z r_Z121_8) .ret)))
theorem c_Z121 : cfun Tryz.prog [] 47 = some (27,dc_Z121,[(Res.tmp 4)]):=by kernel_rfl
def r_Z145_0 : List GI:=[gi 2 (.box 2 2000002 (.t 0) (some 2)),gk 4 0]
def r_Z145_1 : List GI:=[gf 5 2 1,gl 6 5,gt 7 1,gc 8 71 [.t 6,.t 7],gt 1 8]
def r_Z145_2 : List GI:=[gt 9 1,gd 10 .lss 9 0]
def r_Z145_3 : List GI:=[gi 4 (.mov 4 (.k (.v (.int .i64 (-1)))))]
def r_Z145_4 : List GI:=[gt 11 1,gt 4 11]
def dc_Z145 : DC:=.seq (.z r_Z145_0) (.seq (.z r_Z145_1) (.seq (.seq (.z r_Z145_2) (.cond (.t 10) (.seq (.z r_Z145_3) .ret) .skip)) (.seq (.z r_Z145_4) .ret)))
theorem c_Z145 : cfun Tryz.prog [] 73 = some (12,dc_Z145,[(Res.tmp 4)]):=by kernel_rfl
end
end Go.Proofs.YtgpdmgaemhelgaaGreat
