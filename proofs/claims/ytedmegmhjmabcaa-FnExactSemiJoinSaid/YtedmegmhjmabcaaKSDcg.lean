/-
  Functions of the program read as code on plain data. Closed facts of the program alone.
-/
import Derived.KernelRfl
import Derived.Test.YtedmegmhjmabcaaRows
import Derived.Test.YtedmegmhjmabcaaJSVLib
import Derived.Test.YtedmegmhjmabcaaJSVGi
namespace Go.Proofs.Ytedmegmhjmabcaa
open Go.RowKit
noncomputable section
def name_impl_keeps : String:=match Try.prog.info? 105 with
 | some i=>((i.methods.toList[1]?).map (fun m=>m.name)).getD default
 | none=>default
def r_Z6_0 : List GI:=[gi 2 (.box 2 2000002 (.t 0) (some 2)),gi 4 (.mov 4 (.k (.v (.bool false))))]
def r_Z6_1 : List GI:=[gf 5 2 0,gs 6 5 2,gt 7 1,gc 8 198 [.t 6,.t 7],gi 9 (.un 9 UnOp.not (.t 8)),gt 4 9]
def dc_Z6 : DC:=.seq (.z r_Z6_0) (.seq (.z r_Z6_1) .ret)
theorem c_Z6 : cfun Try.prog [] 200 = some (10,dc_Z6,[(Res.tmp 4)]):=by kernel_rfl
def r_Z4_0 : List GI:=[gi 2 (.box 2 2000002 (.t 0) (some 2)),gi 4 (.mov 4 (.k (.v (.bool false))))]
def r_Z4_1 : List GI:=[gf 8 2 1,gl 9 8,gt 10 1,gf 11 2 0,gl 12 11,ga 13 10 12 2,gs 14 13 2,⟨.call 15 199 [.t 9,.t 14,.k (.fn 62 [])],some 15,none,true⟩,gt 7 15,gi 16 (.ext 16 7 0),gi 17 (.ext 17 7 1),gt 5 16,gt 6 17]
def r_Z4_2 : List GI:=[gt 18 6,gt 19 18,⟨.mov 20 (.t 1),some 20,some (19,true),false⟩,⟨.fad 21 2 0,some 21,some (19,true),false⟩,⟨.lod 22 21 none,some 22,some (19,true),false⟩,⟨.iad 23 20 (.t 22) 2,some 23,some (19,true),false⟩,⟨.fad 24 23 0,some 24,some (19,true),false⟩,⟨.lod 25 24 none,some 25,some (19,true),false⟩,⟨.un 26 UnOp.not (.t 25),some 26,some (19,true),false⟩,gi 27 (.pick 27 (.t 19) (.t 26) (.k (.v (.bool false)))),gt 4 27]
def dc_Z4 : DC:=.seq (.z r_Z4_0) (.seq (.reg r_Z4_1 (some [0,1,0,0,8,28,60,127,255,511,511,1023,4095])) (.seq (.z r_Z4_2) .ret))
theorem c_Z4 : cfun Try.prog [] 198 = some (28,dc_Z4,[(Res.tmp 4)]):=by kernel_rfl
def r_Z7_0 : List GI:=[gi 2 (.box 2 2000002 (.t 0) (some 2)),gi 4 (.mov 4 (.k (.v (.bool false))))]
def r_Z7_1 : List GI:=[gf 5 2 0,gs 6 5 2,gt 7 1,gc 8 198 [.t 6,.t 7],gt 4 8]
def dc_Z7 : DC:=.seq (.z r_Z7_0) (.seq (.z r_Z7_1) .ret)
theorem c_Z7 : cfun Try.prog [] 197 = some (9,dc_Z7,[(Res.tmp 4)]):=by kernel_rfl
def r_Z0_0 : List GI:=[gi 4 (.box 4 2000004 (.t 1) (some 2)),gk 6 0,gi 7 (.mov 7 (.k (.v (.bool false))))]
def r_Z0_1 : List GI:=[gt 12 0,gn 13 12,gt 8 13]
def r_Z0_2 : List GI:=[gt 14 8,gk 9 0,gt 10 14]
def r_Z0_3 : List GI:=[gt 15 9,gt 16 10,gb 17 .lss 15 16]
def r_Z0_4 : List GI:=[gt 18 9,gt 19 10,gb 20 .add 18 19,gi 21 (.cvt 21 .u64 (.t 20)),gi 22 (.bin 22 .shr (.t 21) (.k (.v (.int .u64 1)))),gi 23 (.cvt 23 .i64 (.t 22)),gt 11 23]
def r_Z0_5 : List GI:=[gt 24 2,gt 25 0,gt 26 11,ga 27 25 26 2,gs 28 27 2,gs 29 4 2,⟨.cal 30 (.t 24) [.t 28,.t 29],some 30,none,true⟩,gd 31 .lss 30 0]
def r_Z0_6 : List GI:=[gt 32 11,gd 33 .add 32 1,gt 9 33]
def r_Z0_7 : List GI:=[gt 34 11,gt 10 34]
def r_Z0_8 : List GI:=[gt 35 9,gt 36 9,gt 37 8,gb 38 .lss 36 37,gt 39 38,⟨.mov 40 (.t 2),some 40,some (39,true),false⟩,⟨.mov 41 (.t 0),some 41,some (39,true),false⟩,⟨.mov 42 (.t 9),some 42,some (39,true),false⟩,⟨.iad 43 41 (.t 42) 2,some 43,some (39,true),false⟩,⟨.lod 44 43 (some 2),some 44,some (39,true),false⟩,⟨.lod 45 4 (some 2),some 45,some (39,true),false⟩,⟨.cal 46 (.t 40) [.t 44,.t 45],some 46,some (39,true),true⟩,⟨.bin 47 .eql (.t 46) (.k (I 0)),some 47,some (39,true),false⟩,gi 48 (.pick 48 (.t 39) (.t 47) (.k (.v (.bool false)))),gt 6 35,gt 7 48]
def dc_Z0 : DC:=.seq (.z r_Z0_0) (.seq (.z r_Z0_1) (.seq (.z r_Z0_2) (.seq (.block 0 (.loop (.seq (.seq (.z r_Z0_3) (.cond (.t 17) .skip (.exit 0))) (.block 1 (.seq (.z r_Z0_4) (.seq (.reg r_Z0_5 (some [0,0,0,6,14,0,63,127])) (.cond (.t 31) (.z r_Z0_6) (.z r_Z0_7)))))))) (.seq (.reg r_Z0_8 (some [0,0,0,6,14,30,30,30,222,478,30,2046,4094,8190,4095,32767])) .ret))))
theorem c_Z0 : cfun Try.prog [] 199 = some (49,dc_Z0,[(Res.tmp 6),(Res.tmp 7)]):=by kernel_rfl
def r_Z42_0 : List GI:=[gi 4 (.box 4 2000004 (.t 0) (some 2)),gi 5 (.box 5 2000005 (.t 1) (some 2)),gi 8 (.alloc 8 2000008 [I 0,.nul]),gi 9 (.mov 9 (.k (.v (.bool false))))]
def r_Z42_1 : List GI:=[gs 10 4 2,gs 11 5 2,gt 12 2,gt 13 3,gc 14 82 [.t 10,.t 11,.t 12,.t 13],gi 15 (.un 15 UnOp.not (.t 14))]
def r_Z42_2 : List GI:=[gi 16 (.build 16 [I 0,.nul] []),g0 (.sto 8 (.t 16) (some 2)),gi 9 (.mov 9 (.k (.v (.bool false))))]
def r_Z42_3 : List GI:=[gs 17 4 2,gs 18 5 2,gt 19 2,gt 20 3,gc 21 84 [.t 18,.t 19,.t 20],gi 22 (.build 22 [I 0,.nul] [(0,(some 2,.t 21))]),gi 23 (.ifc 23 106 (.t 22)),gc 24 83 [.t 17,.t 23],g0 (.sto 8 (.t 24) (some 2)),gi 9 (.mov 9 (.k (.v (.bool true))))]
def dc_Z42 : DC:=.seq (.z r_Z42_0) (.seq (.seq (.z r_Z42_1) (.cond (.t 15) (.seq (.z r_Z42_2) .ret) .skip)) (.seq (.reg r_Z42_3 (some [0,0,0,0,14,30,62,127,255,511])) .ret))
theorem c_Z42 : cfun Try.prog [] 42 = some (25,dc_Z42,[(Res.cell 8 (some 2)),(Res.tmp 9)]):=by kernel_rfl
def r_Z43_0 : List GI:=[gi 4 (.box 4 2000004 (.t 0) (some 2)),gi 5 (.box 5 2000005 (.t 1) (some 2)),gi 8 (.alloc 8 2000008 [I 0,.nul]),gi 9 (.mov 9 (.k (.v (.bool false))))]
def r_Z43_1 : List GI:=[gs 10 4 2,gs 11 5 2,gt 12 2,gt 13 3,gc 14 82 [.t 10,.t 11,.t 12,.t 13],gi 15 (.un 15 UnOp.not (.t 14))]
def r_Z43_2 : List GI:=[gi 16 (.build 16 [I 0,.nul] []),g0 (.sto 8 (.t 16) (some 2)),gi 9 (.mov 9 (.k (.v (.bool false))))]
def r_Z43_3 : List GI:=[gs 17 4 2,gs 18 5 2,gt 19 2,gt 20 3,gc 21 84 [.t 18,.t 19,.t 20],gi 22 (.build 22 [I 0,.nul] [(0,(some 2,.t 21))]),gi 23 (.ifc 23 105 (.t 22)),gc 24 83 [.t 17,.t 23],g0 (.sto 8 (.t 24) (some 2)),gi 9 (.mov 9 (.k (.v (.bool true))))]
def dc_Z43 : DC:=.seq (.z r_Z43_0) (.seq (.seq (.z r_Z43_1) (.cond (.t 15) (.seq (.z r_Z43_2) .ret) .skip)) (.seq (.reg r_Z43_3 (some [0,0,0,0,14,30,62,127,255,511])) .ret))
theorem c_Z43 : cfun Try.prog [] 40 = some (25,dc_Z43,[(Res.cell 8 (some 2)),(Res.tmp 9)]):=by kernel_rfl
def r_Z13_0 : List GI:=[gi 4 (.mov 4 (.k .nul))]
def r_Z13_1 : List GI:=[gi 5 (.mov 5 (.k .nul))]
def r_Z13_2 : List GI:=[gt 8 0,gn 9 8,gk 10 0]
def r_Z13_3 : List GI:=[gb 11 .lss 10 9]
def r_Z13_4 : List GI:=[ga 12 8 10 1,gl 13 12,gt 7 13]
def r_Z13_5 : List GI:=[gt 14 5,gt 15 7,gt 16 1,ga 17 15 16 2,gs 18 17 2,gi 19 (.bsl 19 2 (some 2) [.agg [.v (.bool false),I 0]] [(0,.t 18)]),gi 20 (.app 20 2000020 (.t 14) (.t 19) 2 16),gt 5 20]
def r_Z13_6 : List GI:=[gd 21 .add 10 1,gt 10 21]
def r_Z13_7 : List GI:=[gt 22 5,gt 4 22]
def dc_Z13 : DC:=.seq (.z r_Z13_0) (.seq (.z r_Z13_1) (.seq (.seq (.z r_Z13_2) (.block 0 (.loop (.seq (.z r_Z13_3) (.seq (.cond (.t 11) .skip (.exit 0)) (.seq (.block 1 (.seq (.z r_Z13_4) (.z r_Z13_5))) (.z r_Z13_6))))))) (.seq (.z r_Z13_7) .ret)))
theorem c_Z13 : cfun Try.prog [] 118 = some (23,dc_Z13,[(Res.tmp 4)]):=by kernel_rfl
def r_Z18_0 : List GI:=[gi 4 (.box 4 2000004 (.t 0) (some 2)),gi 5 (.box 5 2000005 (.t 1) (some 2)),gi 8 (.mov 8 (.k (.v (.bool false))))]
def r_Z18_1 : List GI:=[gs 9 4 2,gt 10 2,gc 11 59 [.t 9,.t 10],gt 12 11,⟨.lod 13 5 (some 2),some 13,some (12,true),false⟩,⟨.mov 14 (.t 3),some 14,some (12,true),false⟩,⟨.call 15 59 [.t 13,.t 14],some 15,some (12,true),true⟩,gi 16 (.pick 16 (.t 12) (.t 15) (.k (.v (.bool false)))),gt 8 16]
def dc_Z18 : DC:=.seq (.z r_Z18_0) (.seq (.z r_Z18_1) .ret)
theorem c_Z18 : cfun Try.prog [] 82 = some (17,dc_Z18,[(Res.tmp 8)]):=by kernel_rfl
def r_Z45_0 : List GI:=[gi 2 (.box 2 2000002 (.t 0) (some 2)),gi 4 (.alloc 4 2000004 [I 0,.nul])]
def r_Z45_1 : List GI:=[gf 5 2 0,gl 6 5,gf 7 2 1,gl 8 7,gt 9 1,gi 10 (.nilc 10 9),gi 11 (.mkb 11 name_impl_keeps (.t 10)),gc 12 64 [.t 8,.t 11],gc 13 67 [.t 12],gi 14 (.build 14 [I 0,.nul] [(0,(none,.t 6)),(1,(none,.t 13))]),g0 (.sto 4 (.t 14) (some 2))]
def dc_Z45 : DC:=.seq (.z r_Z45_0) (.seq (.reg r_Z45_1 (some [0,1,0,4,0,16,48,124,252,511,1023])) .ret)
theorem c_Z45 : cfun Try.prog [] 83 = some (15,dc_Z45,[(Res.cell 4 (some 2))]):=by kernel_rfl
def r_Z25_0 : List GI:=[gi 3 (.box 3 2000003 (.t 0) (some 2)),gi 6 (.alloc 6 2000006 [I 0,.nul])]
def r_Z25_1 : List GI:=[gf 8 3 1,gl 9 8,gt 10 2,gc 11 118 [.t 9,.t 10],gt 7 11]
def r_Z25_2 : List GI:=[gt 12 7,⟨.call 13 119 [.t 12,.k (.fn 62 [])],some 13,none,true⟩]
def r_Z25_3 : List GI:=[gt 14 1,gt 15 7,gi 16 (.build 16 [I 0,.nul] [(0,(none,.t 14)),(1,(none,.t 15))]),g0 (.sto 6 (.t 16) (some 2))]
def dc_Z25 : DC:=.seq (.z r_Z25_0) (.seq (.z r_Z25_1) (.seq (.z r_Z25_2) (.seq (.z r_Z25_3) .ret)))
theorem c_Z25 : cfun Try.prog [] 84 = some (17,dc_Z25,[(Res.cell 6 (some 2))]):=by kernel_rfl
def r_Z52_0 : List GI:=[gi 5 (.box 5 2000005 (.t 0) (some 2)),gi 6 (.box 6 2000006 (.t 1) (some 2)),gi 10 (.alloc 10 2000010 [I 0,.nul])]
def r_Z52_1 : List GI:=[gi 13 (.mov 13 (.k .nul)),gt 11 13]
def r_Z52_2 : List GI:=[gk 12 0]
def r_Z52_3 : List GI:=[gt 14 12,gf 15 5 1,gl 16 15,gn 17 16,gb 18 .lss 14 17]
def r_Z52_4 : List GI:=[gs 21 6 2,gt 22 3,gf 23 5 1,gl 24 23,gt 25 12,ga 26 24 25 1,gl 27 26,gt 28 2,ga 29 27 28 2,gs 30 29 2,gc 31 86 [.t 21,.t 22,.t 30],gt 32 4,gi 33 (.beq 33 false (.t 31) (.t 32))]
def r_Z52_5 : List GI:=[gt 34 11,gf 35 5 1,gl 36 35,gt 37 12,ga 38 36 37 1,gl 39 38,gi 40 (.bsl 40 1 none [.nul] [(0,.t 39)]),gi 41 (.app 41 2000041 (.t 34) (.t 40) 1 24),gt 11 41]
def r_Z52_6 : List GI:=[gt 19 12,gd 20 .add 19 1,gt 12 20]
def r_Z52_7 : List GI:=[gf 42 5 0,gl 43 42,gt 44 11,gc 45 63 [.t 43,.t 44],g0 (.sto 10 (.t 45) (some 2))]
def dc_Z52 : DC:=.seq (.z r_Z52_0) (.seq (.z r_Z52_1) (.seq (.seq (.z r_Z52_2) (.block 0 (.loop (.seq (.seq (.z r_Z52_3) (.cond (.t 18) .skip (.exit 0))) (.seq (.block 1 (.seq (.reg r_Z52_4 (some [0,0,0,4,0,28,60,0,252,508,1023,0,4095])) (.cond (.t 33) (.z r_Z52_5) .skip))) (.z r_Z52_6)))))) (.seq (.z r_Z52_7) .ret)))
theorem c_Z52 : cfun Try.prog [] 81 = some (46,dc_Z52,[(Res.cell 10 (some 2))]):=by kernel_rfl
def r_Z62_0 : List GI:=[gi 3 (.box 3 2000003 (.t 0) (some 2)),gi 5 (.box 5 2000005 (.t 2) (some 2)),gi 6 (.mov 6 (.k (.v (.bool false))))]
def r_Z62_1 : List GI:=[gk 7 0]
def r_Z62_2 : List GI:=[gt 8 7,gf 9 3 1,gl 10 9,gn 11 10,gb 12 .lss 8 11]
def r_Z62_3 : List GI:=[gf 15 5 0,gl 16 15,gi 17 (.un 17 UnOp.not (.t 16)),gt 18 17,⟨.fad 19 3 1,some 19,some (18,true),false⟩,⟨.lod 20 19 none,some 20,some (18,true),false⟩,⟨.mov 21 (.t 7),some 21,some (18,true),false⟩,⟨.iad 22 20 (.t 21) 1,some 22,some (18,true),false⟩,⟨.lod 23 22 none,some 23,some (18,true),false⟩,⟨.mov 24 (.t 1),some 24,some (18,true),false⟩,⟨.iad 25 23 (.t 24) 2,some 25,some (18,true),false⟩,⟨.lod 26 25 (some 2),some 26,some (18,true),false⟩,⟨.lod 27 5 (some 2),some 27,some (18,true),false⟩,⟨.eqs 28 false [false,true] (.t 26) (.t 27),some 28,some (18,true),false⟩,gi 29 (.pick 29 (.t 18) (.t 28) (.k (.v (.bool false))))]
def r_Z62_4 : List GI:=[gi 6 (.mov 6 (.k (.v (.bool true))))]
def r_Z62_5 : List GI:=[gt 13 7,gd 14 .add 13 1,gt 7 14]
def r_Z62_6 : List GI:=[gi 6 (.mov 6 (.k (.v (.bool false))))]
def dc_Z62 : DC:=.seq (.z r_Z62_0) (.seq (.seq (.z r_Z62_1) (.block 0 (.loop (.seq (.seq (.z r_Z62_2) (.cond (.t 12) .skip (.exit 0))) (.seq (.block 1 (.seq (.reg r_Z62_3 (some [0,1,3,7,15,31,15,127,255,15,1023,2047,15,8191,16383])) (.cond (.t 29) (.seq (.z r_Z62_4) .ret) .skip))) (.z r_Z62_5)))))) (.seq (.z r_Z62_6) .ret))
theorem c_Z62 : cfun Try.prog [] 86 = some (30,dc_Z62,[(Res.tmp 6)]):=by kernel_rfl
def r_Z41_0 : List GI:=[gi 4 (.box 4 2000004 (.t 0) (some 2)),gi 5 (.box 5 2000005 (.t 1) (some 2)),gi 8 (.mov 8 (.k (.v (.bool false))))]
def r_Z41_1 : List GI:=[gs 9 4 2,gc 10 57 [.t 9],gt 11 10,⟨.lod 12 5 (some 2),some 12,some (11,true),false⟩,⟨.call 13 57 [.t 12],some 13,some (11,true),true⟩,gi 14 (.pick 14 (.t 11) (.t 13) (.k (.v (.bool false)))),gt 15 14,⟨.mov 16 (.t 2),some 16,some (15,true),false⟩,⟨.fad 17 4 0,some 17,some (15,true),false⟩,⟨.lod 18 17 none,some 18,some (15,true),false⟩,⟨.bin 19 .sub (.t 18) (.k (I 1)),some 19,some (15,true),false⟩,⟨.call 20 58 [.t 16,.k (I 0),.t 19],some 20,some (15,true),true⟩,gi 21 (.pick 21 (.t 15) (.t 20) (.k (.v (.bool false)))),gt 22 21,⟨.mov 23 (.t 3),some 23,some (22,true),false⟩,⟨.fad 24 5 0,some 24,some (22,true),false⟩,⟨.lod 25 24 none,some 25,some (22,true),false⟩,⟨.bin 26 .sub (.t 25) (.k (I 1)),some 26,some (22,true),false⟩,⟨.call 27 58 [.t 23,.k (I 0),.t 26],some 27,some (22,true),true⟩,gi 28 (.pick 28 (.t 22) (.t 27) (.k (.v (.bool false)))),gt 8 28]
def dc_Z41 : DC:=.seq (.z r_Z41_0) (.seq (.z r_Z41_1) .ret)
theorem c_Z41 : cfun Try.prog [] 80 = some (29,dc_Z41,[(Res.tmp 8)]):=by kernel_rfl
def r_Z3_0 : List GI:=[gi 1 (.box 1 2000001 (.t 0) (some 2)),gi 2 (.mov 2 (.k (.v (.bool false))))]
def r_Z3_1 : List GI:=[gf 3 1 1,gl 4 3,gn 5 4,gd 6 .gtr 5 0,gt 7 6,⟨.fad 8 1 1,some 8,some (7,true),false⟩,⟨.lod 9 8 none,some 9,some (7,true),false⟩,⟨.iad 10 9 (.k (I 0)) 2,some 10,some (7,true),false⟩,⟨.fad 11 10 0,some 11,some (7,true),false⟩,⟨.lod 12 11 none,some 12,some (7,true),false⟩,gi 13 (.pick 13 (.t 7) (.t 12) (.k (.v (.bool false)))),gt 2 13]
def dc_Z3 : DC:=.seq (.z r_Z3_0) (.seq (.z r_Z3_1) .ret)
theorem c_Z3 : cfun Try.prog [] 196 = some (14,dc_Z3,[(Res.tmp 2)]):=by kernel_rfl
def r_Z8_0 : List GI:=[gi 2 (.box 2 2000002 (.t 0) (some 2)),gi 4 (.mov 4 (.k (.v (.bool false))))]
def r_Z8_1 : List GI:=[gf 5 2 0,gf 6 5 1,gl 7 6,gn 8 7,gd 9 .eql 8 0]
def r_Z8_2 : List GI:=[gi 4 (.mov 4 (.k (.v (.bool true))))]
def r_Z8_3 : List GI:=[gf 10 2 0,gs 11 10 2,gc 12 196 [.t 11],gi 13 (.un 13 UnOp.not (.t 12)),gt 14 13,⟨.mov 15 (.t 1),some 15,some (14,true),false⟩,⟨.fad 16 2 0,some 16,some (14,true),false⟩,⟨.fad 17 16 0,some 17,some (14,true),false⟩,⟨.lod 18 17 none,some 18,some (14,true),false⟩,⟨.iad 19 15 (.t 18) 2,some 19,some (14,true),false⟩,⟨.fad 20 19 0,some 20,some (14,true),false⟩,⟨.lod 21 20 none,some 21,some (14,true),false⟩,⟨.un 22 UnOp.not (.t 21),some 22,some (14,true),false⟩,gi 23 (.pick 23 (.t 14) (.t 22) (.k (.v (.bool false)))),gt 24 23,⟨.fad 25 2 0,some 25,some (24,true),false⟩,⟨.lod 26 25 (some 2),some 26,some (24,true),false⟩,⟨.mov 27 (.t 1),some 27,some (24,true),false⟩,⟨.call 28 198 [.t 26,.t 27],some 28,some (24,true),true⟩,⟨.un 29 UnOp.not (.t 28),some 29,some (24,true),false⟩,gi 30 (.pick 30 (.t 24) (.t 29) (.k (.v (.bool false)))),gt 4 30]
def dc_Z8 : DC:=.seq (.z r_Z8_0) (.seq (.seq (.z r_Z8_1) (.cond (.t 9) (.seq (.z r_Z8_2) .ret) .skip)) (.seq (.z r_Z8_3) .ret))
theorem c_Z8 : cfun Try.prog [] 201 = some (31,dc_Z8,[(Res.tmp 4)]):=by kernel_rfl
def r_Z64_0 : List GI:=[gi 4 (.box 4 2000004 (.t 0) (some 2)),gi 5 (.box 5 2000005 (.t 1) (some 2)),gi 8 (.alloc 8 2000008 [I 0,.nul]),gi 9 (.mov 9 (.k (.v (.bool false))))]
def r_Z64_1 : List GI:=[gs 10 4 2,gs 11 5 2,gt 12 2,gt 13 3,gc 14 82 [.t 10,.t 11,.t 12,.t 13],gi 15 (.un 15 UnOp.not (.t 14))]
def r_Z64_2 : List GI:=[gi 16 (.build 16 [I 0,.nul] []),g0 (.sto 8 (.t 16) (some 2)),gi 9 (.mov 9 (.k (.v (.bool false))))]
def r_Z64_3 : List GI:=[gs 17 4 2,gs 18 5 2,gt 19 2,gt 20 3,gc 21 84 [.t 18,.t 19,.t 20],gi 22 (.build 22 [I 0,.nul] [(0,(some 2,.t 21))]),gi 23 (.ifc 23 108 (.t 22)),gc 24 83 [.t 17,.t 23],g0 (.sto 8 (.t 24) (some 2)),gi 9 (.mov 9 (.k (.v (.bool true))))]
def dc_Z64 : DC:=.seq (.z r_Z64_0) (.seq (.seq (.z r_Z64_1) (.cond (.t 15) (.seq (.z r_Z64_2) .ret) .skip)) (.seq (.reg r_Z64_3 (some [0,0,0,0,14,30,62,127,255,511])) .ret))
theorem c_Z64 : cfun Try.prog [] 44 = some (25,dc_Z64,[(Res.cell 8 (some 2)),(Res.tmp 9)]):=by kernel_rfl
def r_Z65_0 : List GI:=[gi 4 (.box 4 2000004 (.t 0) (some 2)),gi 5 (.box 5 2000005 (.t 1) (some 2)),gi 8 (.alloc 8 2000008 [I 0,.nul]),gi 9 (.mov 9 (.k (.v (.bool false))))]
def r_Z65_1 : List GI:=[gs 12 4 2,gs 13 5 2,gt 14 2,gt 15 3,gc 16 80 [.t 12,.t 13,.t 14,.t 15],gi 17 (.un 17 UnOp.not (.t 16))]
def r_Z65_2 : List GI:=[gi 18 (.build 18 [I 0,.nul] []),g0 (.sto 8 (.t 18) (some 2)),gi 9 (.mov 9 (.k (.v (.bool false))))]
def r_Z65_3 : List GI:=[gf 19 5 1,gl 20 19,gn 21 20,gd 22 .eql 21 0]
def r_Z65_4 : List GI:=[gf 23 4 0,gl 24 23,gf 25 4 1,gl 26 25,gc 27 63 [.t 24,.t 26],g0 (.sto 8 (.t 27) (some 2)),gi 9 (.mov 9 (.k (.v (.bool true))))]
def r_Z65_5 : List GI:=[gi 28 (.mov 28 (.k .nul)),gt 10 28]
def r_Z65_6 : List GI:=[gk 11 0]
def r_Z65_7 : List GI:=[gt 29 11,gf 30 4 1,gl 31 30,gn 32 31,gb 33 .lss 29 32]
def r_Z65_8 : List GI:=[gs 36 5 2,gt 37 3,gc 38 85 [.t 36,.t 37],gi 39 (.un 39 UnOp.not (.t 38)),gt 40 39,⟨.fad 41 4 1,some 41,some (40,true),false⟩,⟨.lod 42 41 none,some 42,some (40,true),false⟩,⟨.mov 43 (.t 11),some 43,some (40,true),false⟩,⟨.iad 44 42 (.t 43) 1,some 44,some (40,true),false⟩,⟨.lod 45 44 none,some 45,some (40,true),false⟩,⟨.mov 46 (.t 2),some 46,some (40,true),false⟩,⟨.iad 47 45 (.t 46) 2,some 47,some (40,true),false⟩,⟨.fad 48 47 0,some 48,some (40,true),false⟩,⟨.lod 49 48 none,some 49,some (40,true),false⟩,⟨.un 50 UnOp.not (.t 49),some 50,some (40,true),false⟩,gi 51 (.pick 51 (.t 40) (.t 50) (.k (.v (.bool false)))),gt 52 51,⟨.lod 53 5 (some 2),some 53,some (52,true),false⟩,⟨.mov 54 (.t 3),some 54,some (52,true),false⟩,⟨.fad 55 4 1,some 55,some (52,true),false⟩,⟨.lod 56 55 none,some 56,some (52,true),false⟩,⟨.mov 57 (.t 11),some 57,some (52,true),false⟩,⟨.iad 58 56 (.t 57) 1,some 58,some (52,true),false⟩,⟨.lod 59 58 none,some 59,some (52,true),false⟩,⟨.mov 60 (.t 2),some 60,some (52,true),false⟩,⟨.iad 61 59 (.t 60) 2,some 61,some (52,true),false⟩,⟨.lod 62 61 (some 2),some 62,some (52,true),false⟩,⟨.call 63 86 [.t 53,.t 54,.t 62],some 63,some (52,true),true⟩,⟨.un 64 UnOp.not (.t 63),some 64,some (52,true),false⟩,gi 65 (.pick 65 (.t 52) (.t 64) (.k (.v (.bool false))))]
def r_Z65_9 : List GI:=[gt 66 10,gf 67 4 1,gl 68 67,gt 69 11,ga 70 68 69 1,gl 71 70,gi 72 (.bsl 72 1 none [.nul] [(0,.t 71)]),gi 73 (.app 73 2000073 (.t 66) (.t 72) 1 24),gt 10 73]
def r_Z65_10 : List GI:=[gt 34 11,gd 35 .add 34 1,gt 11 35]
def r_Z65_11 : List GI:=[gf 74 4 0,gl 75 74,gt 76 10,gc 77 63 [.t 75,.t 76],g0 (.sto 8 (.t 77) (some 2)),gi 9 (.mov 9 (.k (.v (.bool true))))]
def dc_Z65 : DC:=.seq (.z r_Z65_0) (.seq (.seq (.z r_Z65_1) (.cond (.t 17) (.seq (.z r_Z65_2) .ret) .skip)) (.seq (.seq (.z r_Z65_3) (.cond (.t 22) (.seq (.z r_Z65_4) .ret) .skip)) (.seq (.z r_Z65_5) (.seq (.seq (.z r_Z65_6) (.block 0 (.loop (.seq (.seq (.z r_Z65_7) (.cond (.t 33) .skip (.exit 0))) (.seq (.block 1 (.seq (.reg r_Z65_8 (some [0,0,3,7,15,31,63,31,255,511,31,2047,4095,8191,16383,32767,65535,131071,131071,131071,655359,131071,3801087,7995391,131071,33161215,66715647,134217727,268435455,536870911])) (.cond (.t 65) (.z r_Z65_9) .skip))) (.z r_Z65_10)))))) (.seq (.z r_Z65_11) .ret)))))
theorem c_Z65 : cfun Try.prog [] 43 = some (78,dc_Z65,[(Res.cell 8 (some 2)),(Res.tmp 9)]):=by kernel_rfl
def r_Z60_0 : List GI:=[gi 2 (.box 2 2000002 (.t 0) (some 2)),gi 4 (.mov 4 (.k (.v (.bool false))))]
def r_Z60_1 : List GI:=[gk 5 0]
def r_Z60_2 : List GI:=[gt 6 5,gf 7 2 1,gl 8 7,gn 9 8,gb 10 .lss 6 9]
def r_Z60_3 : List GI:=[gf 13 2 1,gl 14 13,gt 15 5,ga 16 14 15 1,gl 17 16,gt 18 1,ga 19 17 18 2,gf 20 19 0,gl 21 20]
def r_Z60_4 : List GI:=[gi 4 (.mov 4 (.k (.v (.bool true))))]
def r_Z60_5 : List GI:=[gt 11 5,gd 12 .add 11 1,gt 5 12]
def r_Z60_6 : List GI:=[gi 4 (.mov 4 (.k (.v (.bool false))))]
def dc_Z60 : DC:=.seq (.z r_Z60_0) (.seq (.seq (.z r_Z60_1) (.block 0 (.loop (.seq (.seq (.z r_Z60_2) (.cond (.t 10) .skip (.exit 0))) (.seq (.block 1 (.seq (.z r_Z60_3) (.cond (.t 21) (.seq (.z r_Z60_4) .ret) .skip))) (.z r_Z60_5)))))) (.seq (.z r_Z60_6) .ret))
theorem c_Z60 : cfun Try.prog [] 85 = some (22,dc_Z60,[(Res.tmp 4)]):=by kernel_rfl
end
end Go.Proofs.Ytedmegmhjmabcaa
