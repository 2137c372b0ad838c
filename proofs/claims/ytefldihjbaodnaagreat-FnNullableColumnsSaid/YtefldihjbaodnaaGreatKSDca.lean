/-
  Functions of the program read as code on plain data. Closed facts of the program alone.
-/
import Derived.KernelRfl
import Derived.Test.YtefldihjbaodnaaGreatRows
import Derived.Test.YtefldihjbaodnaaGreatJSVGo
import Derived.Test.YtefldihjbaodnaaGreatJSVTbD
namespace Go.Proofs.YtefldihjbaodnaaGreat
open Go.RowKit
noncomputable section
theorem mixed : Tryz.prog.follows .mixedOrders = true:=by kernel_rfl
def r_Z92_0 : List GI:=[gk 4 0]
def r_Z92_1 : List GI:=[gt 7 0,gc 8 208 [.t 7],gt 5 8]
def r_Z92_2 : List GI:=[gt 9 1,gc 10 208 [.t 9],gt 6 10]
def r_Z92_3 : List GI:=[gt 11 5]
def r_Z92_4 : List GI:=[gt 12 6]
def r_Z92_5 : List GI:=[gk 4 0]
def r_Z92_6 : List GI:=[gi 4 (.mov 4 (.k (.v (.int .i64 (-1)))))]
def r_Z92_7 : List GI:=[gt 13 6]
def r_Z92_8 : List GI:=[gk 4 1]
def r_Z92_9 : List GI:=[gt 14 0,gt 15 1,gb 16 .lss 14 15]
def r_Z92_10 : List GI:=[gi 4 (.mov 4 (.k (.v (.int .i64 (-1)))))]
def r_Z92_11 : List GI:=[gt 17 0,gt 18 1,gb 19 .gtr 17 18]
def r_Z92_12 : List GI:=[gk 4 1]
def r_Z92_13 : List GI:=[gk 4 0]
def dc_Z92 : DC:=.seq (.z r_Z92_0) (.seq (.z r_Z92_1) (.seq (.z r_Z92_2) (.seq (.seq (.z r_Z92_3) (.cond (.t 11) (.seq (.seq (.z r_Z92_4) (.cond (.t 12) (.seq (.z r_Z92_5) .ret) .skip)) (.seq (.z r_Z92_6) .ret)) .skip)) (.seq (.seq (.z r_Z92_7) (.cond (.t 13) (.seq (.z r_Z92_8) .ret) .skip)) (.seq (.seq (.z r_Z92_9) (.cond (.t 16) (.seq (.z r_Z92_10) .ret) .skip)) (.seq (.seq (.z r_Z92_11) (.cond (.t 19) (.seq (.z r_Z92_12) .ret) .skip)) (.seq (.z r_Z92_13) .ret)))))))
theorem c_Z92 : cfun Tryz.prog [] 182 = some (20,dc_Z92,[(Res.tmp 4)]):=by kernel_rfl
def r_Z132_0 : List GI:=[gi 2 (.mov 2 (.k (.v (.bool false))))]
def r_Z132_1 : List GI:=[gt 3 0,gt 4 0,gb 5 .neq 3 4,gt 2 5]
def dc_Z132 : DC:=.seq (.z r_Z132_0) (.seq (.z r_Z132_1) .ret)
theorem c_Z132 : cfun Tryz.prog [] 208 = some (6,dc_Z132,[(Res.tmp 2)]):=by kernel_rfl
def r_Z94_0 : List GI:=[gi 1 (.box 1 2000001 (.t 0) (some 2)),gi 2 (.mov 2 (.k (.v (.bool false))))]
def r_Z94_1 : List GI:=[gf 3 1 0,gl 4 3]
def r_Z94_2 : List GI:=[gf 5 1 1,gl 6 5,gd 7 .eql 6 0,gt 2 7]
def r_Z94_3 : List GI:=[gf 8 1 1,gl 9 8,gi 10 (.bin 10 .leq (.k (.v (.int .i64 (-9999)))) (.t 9)),gt 11 10,⟨.fad 12 1 1,some 12,some (11,true),false⟩,⟨.lod 13 12 none,some 13,some (11,true),false⟩,⟨.bin 14 .leq (.t 13) (.k (I 9999)),some 14,some (11,true),false⟩,gi 15 (.pick 15 (.t 11) (.t 14) (.k (.v (.bool false)))),gt 2 15]
def dc_Z94 : DC:=.seq (.z r_Z94_0) (.seq (.seq (.z r_Z94_1) (.cond (.t 4) (.seq (.z r_Z94_2) .ret) .skip)) (.seq (.z r_Z94_3) .ret))
theorem c_Z94 : cfun Tryz.prog [] 214 = some (16,dc_Z94,[(Res.tmp 2)]):=by kernel_rfl
def r_Z154_0 : List GI:=[gi 4 (.mov 4 (.k (.v (.bool false))))]
def r_Z154_1 : List GI:=[gt 5 0,gi 6 (.bin 6 .leq (.k (I 0)) (.t 5)),gt 7 6,⟨.mov 8 (.t 0),some 8,some (7,true),false⟩,⟨.mov 9 (.t 1),some 9,some (7,true),false⟩,⟨.bin 10 .lss (.t 8) (.t 9),some 10,some (7,true),false⟩,gi 11 (.pick 11 (.t 7) (.t 10) (.k (.v (.bool false)))),gt 4 11]
def dc_Z154 : DC:=.seq (.z r_Z154_0) (.seq (.z r_Z154_1) .ret)
theorem c_Z154 : cfun Tryz.prog [] 213 = some (12,dc_Z154,[(Res.tmp 4)]):=by kernel_rfl
def r_Z81_0 : List GI:=[gi 2 (.alloc 2 2000002 [.v (.bool false),I 0])]
def r_Z81_1 : List GI:=[gt 4 0,gi 5 (.build 5 [.v (.bool false),I 0] [(1,(none,.t 4))]),gi 3 (.alloc 3 2000003 [.v (.bool false),I 0]),g0 (.sto 3 (.t 5) (some 2))]
def r_Z81_2 : List GI:=[gs 6 3 2,gc 7 214 [.t 6]]
def r_Z81_3 : List GI:=[gs 8 3 2,g0 (.sto 2 (.t 8) (some 2))]
def r_Z81_4 : List GI:=[gi 9 (.build 9 [.v (.bool false),I 0] [(0,(none,.k (.v (.bool true))))]),g0 (.sto 2 (.t 9) (some 2))]
def dc_Z81 : DC:=.seq (.z r_Z81_0) (.seq (.seq (.z r_Z81_1) (.seq (.z r_Z81_2) (.cond (.t 7) (.seq (.z r_Z81_3) .ret) .skip))) (.seq (.z r_Z81_4) .ret))
theorem c_Z81 : cfun Tryz.prog [] 272 = some (10,dc_Z81,[(Res.cell 2 (some 2))]):=by kernel_rfl
def r_Z161_0 : List GI:=[gi 2 (.mov 2 (.k (.v (.bool false))))]
def r_Z161_1 : List GI:=[gt 3 0,gn 4 3,gc 5 104 [.t 4],gt 6 5,⟨.mov 7 (.t 0),some 7,some (6,true),false⟩,⟨.call 8 197 [.t 7],some 8,some (6,true),true⟩,gi 9 (.pick 9 (.t 6) (.t 8) (.k (.v (.bool false)))),gt 2 9]
def dc_Z161 : DC:=.seq (.z r_Z161_0) (.seq (.z r_Z161_1) .ret)
theorem c_Z161 : cfun Tryz.prog [] 154 = some (10,dc_Z161,[(Res.tmp 2)]):=by kernel_rfl
def r_Z104_0 : List GI:=[gi 2 (.mov 2 (.k (.v (.bool false))))]
def r_Z104_1 : List GI:=[gt 5 0,gn 6 5,gk 7 0]
def r_Z104_2 : List GI:=[gb 8 .lss 7 6]
def r_Z104_3 : List GI:=[ga 9 5 7 2,gs 10 9 2,gi 4 (.alloc 4 2000004 [.v (.bool false),I 0]),g0 (.sto 4 (.t 10) (some 2))]
def r_Z104_4 : List GI:=[gs 11 4 2,gc 12 214 [.t 11],gi 13 (.un 13 UnOp.not (.t 12))]
def r_Z104_5 : List GI:=[gi 2 (.mov 2 (.k (.v (.bool false))))]
def r_Z104_6 : List GI:=[gd 14 .add 7 1,gt 7 14]
def r_Z104_7 : List GI:=[gi 2 (.mov 2 (.k (.v (.bool true))))]
def dc_Z104 : DC:=.seq (.z r_Z104_0) (.seq (.seq (.z r_Z104_1) (.block 0 (.loop (.seq (.z r_Z104_2) (.seq (.cond (.t 8) .skip (.exit 0)) (.seq (.block 1 (.seq (.z r_Z104_3) (.seq (.z r_Z104_4) (.cond (.t 13) (.seq (.z r_Z104_5) .ret) .skip)))) (.z r_Z104_6))))))) (.seq (.z r_Z104_7) .ret))
theorem c_Z104 : cfun Tryz.prog [] 197 = some (15,dc_Z104,[(Res.tmp 2)]):=by kernel_rfl
def r_Z123_0 : List GI:=[gi 2 (.mov 2 (.k (.v (.bool false))))]
def r_Z123_1 : List GI:=[gt 3 0,gi 4 (.bin 4 .leq (.k (I 1)) (.t 3)),gt 5 4,⟨.mov 6 (.t 0),some 6,some (5,true),false⟩,⟨.bin 7 .leq (.t 6) (.k (I 6)),some 7,some (5,true),false⟩,gi 8 (.pick 8 (.t 5) (.t 7) (.k (.v (.bool false)))),gt 2 8]
def dc_Z123 : DC:=.seq (.z r_Z123_0) (.seq (.z r_Z123_1) .ret)
theorem c_Z123 : cfun Tryz.prog [] 104 = some (9,dc_Z123,[(Res.tmp 2)]):=by kernel_rfl
def r_Z187_0 : List GI:=[gi 6 (.mov 6 (.k (.v (.bool false))))]
def r_Z187_1 : List GI:=[gt 7 0,gt 8 1,gb 9 .geq 7 8,gt 10 9,⟨.mov 11 (.t 0),some 11,some (10,true),false⟩,⟨.mov 12 (.t 2),some 12,some (10,true),false⟩,⟨.bin 13 .leq (.t 11) (.t 12),some 13,some (10,true),false⟩,gi 14 (.pick 14 (.t 10) (.t 13) (.k (.v (.bool false)))),gt 6 14]
def dc_Z187 : DC:=.seq (.z r_Z187_0) (.seq (.z r_Z187_1) .ret)
theorem c_Z187 : cfun Tryz.prog [] 126 = some (15,dc_Z187,[(Res.tmp 6)]):=by kernel_rfl
def r_Z195_0 : List GI:=[gi 2 (.alloc 2 2000002 [.v (.bool false),I 0])]
def r_Z195_1 : List GI:=[gt 3 0,gc 4 126 [.t 3,.k (.v (.int .i64 (-9999))),.k (I 9999)],gi 5 (.un 5 UnOp.not (.t 4))]
def r_Z195_2 : List GI:=[gi 6 (.build 6 [.v (.bool false),I 0] [(0,(none,.k (.v (.bool true))))]),g0 (.sto 2 (.t 6) (some 2))]
def r_Z195_3 : List GI:=[gt 7 0,gi 8 (.build 8 [.v (.bool false),I 0] [(1,(none,.t 7))]),g0 (.sto 2 (.t 8) (some 2))]
def dc_Z195 : DC:=.seq (.z r_Z195_0) (.seq (.seq (.z r_Z195_1) (.cond (.t 5) (.seq (.z r_Z195_2) .ret) .skip)) (.seq (.z r_Z195_3) .ret))
theorem c_Z195 : cfun Tryz.prog [] 210 = some (9,dc_Z195,[(Res.cell 2 (some 2))]):=by kernel_rfl
def r_Z177_0 : List GI:=[gi 2 (.mov 2 (.k (.v (.bool false))))]
def r_Z177_1 : List GI:=[gk 3 0]
def r_Z177_2 : List GI:=[gt 4 3,gt 5 0,gn 6 5,gb 7 .lss 4 6]
def r_Z177_3 : List GI:=[gt 10 0,gt 11 3,ga 12 10 11 2,gs 13 12 2,gc 14 184 [.t 13],gi 15 (.un 15 UnOp.not (.t 14))]
def r_Z177_4 : List GI:=[gi 2 (.mov 2 (.k (.v (.bool false))))]
def r_Z177_5 : List GI:=[gt 8 3,gd 9 .add 8 1,gt 3 9]
def r_Z177_6 : List GI:=[gt 16 0,gn 17 16,gc 18 126 [.t 17,.k (I 1),.k (I 6)],gt 2 18]
def dc_Z177 : DC:=.seq (.z r_Z177_0) (.seq (.seq (.z r_Z177_1) (.block 0 (.loop (.seq (.seq (.z r_Z177_2) (.cond (.t 7) .skip (.exit 0))) (.seq (.block 1 (.seq (.z r_Z177_3) (.cond (.t 15) (.seq (.z r_Z177_4) .ret) .skip))) (.z r_Z177_5)))))) (.seq (.z r_Z177_6) .ret))
theorem c_Z177 : cfun Tryz.prog [] 131 = some (19,dc_Z177,[(Res.tmp 2)]):=by kernel_rfl
def r_Z131_0 : List GI:=[gi 1 (.box 1 2000001 (.t 0) (some 2)),gi 2 (.mov 2 (.k (.v (.bool false))))]
def r_Z131_1 : List GI:=[gf 3 1 1,gl 4 3,gc 5 126 [.t 4,.k (.v (.int .i64 (-9999))),.k (I 9999)],gt 6 5,⟨.fad 7 1 0,some 7,some (6,true),false⟩,⟨.lod 8 7 none,some 8,some (6,true),false⟩,⟨.un 9 UnOp.not (.t 8),some 9,some (6,true),false⟩,⟨.mov 10 (.t 9),some 10,some (6,true),false⟩,⟨.fad 11 1 1,some 11,some (10,false),false⟩,⟨.lod 12 11 none,some 12,some (10,false),false⟩,⟨.bin 13 .eql (.t 12) (.k (I 0)),some 13,some (10,false),false⟩,⟨.pick 14 (.t 10) (.k (.v (.bool true))) (.t 13),some 14,some (6,true),false⟩,gi 15 (.pick 15 (.t 6) (.t 14) (.k (.v (.bool false)))),gt 2 15]
def dc_Z131 : DC:=.seq (.z r_Z131_0) (.seq (.z r_Z131_1) .ret)
theorem c_Z131 : cfun Tryz.prog [] 184 = some (16,dc_Z131,[(Res.tmp 2)]):=by kernel_rfl
def r_Z66_0 : List GI:=[gi 2 (.box 2 2000002 (.t 0) (some 2)),gi 3 (.box 3 2000003 (.t 1) (some 2)),gk 4 0]
def r_Z66_1 : List GI:=[gf 6 2 0,gl 7 6,gt 8 7,⟨.fad 9 3 0,some 9,some (8,true),false⟩,⟨.lod 10 9 none,some 10,some (8,true),false⟩,gi 11 (.pick 11 (.t 8) (.t 10) (.k (.v (.bool false)))),gt 5 11]
def r_Z66_2 : List GI:=[gk 4 0]
def r_Z66_3 : List GI:=[gf 13 2 0,gl 14 13,gt 12 14]
def r_Z66_4 : List GI:=[gi 4 (.mov 4 (.k (.v (.int .i64 (-1)))))]
def r_Z66_5 : List GI:=[gf 16 3 0,gl 17 16,gt 15 17]
def r_Z66_6 : List GI:=[gk 4 1]
def r_Z66_7 : List GI:=[gf 18 2 1,gl 19 18,gf 20 3 1,gl 21 20,gc 22 182 [.t 19,.t 21],gt 4 22]
def dc_Z66 : DC:=.seq (.z r_Z66_0) (.seq (.block 0 (.seq (.z r_Z66_1) (.cond (.t 5) (.seq (.z r_Z66_2) .ret) (.seq (.z r_Z66_3) (.cond (.t 12) (.seq (.z r_Z66_4) .ret) (.seq (.z r_Z66_5) (.cond (.t 15) (.seq (.z r_Z66_6) .ret) .skip))))))) (.seq (.z r_Z66_7) .ret))
theorem c_Z66 : cfun Tryz.prog [] 125 = some (23,dc_Z66,[(Res.tmp 4)]):=by kernel_rfl
def r_Z74_0 : List GI:=[gi 2 (.box 2 2000002 (.t 0) (some 2)),gi 3 (.box 3 2000003 (.t 1) (some 2)),gk 4 0]
def r_Z74_1 : List GI:=[gs 6 2 2,gs 7 3 2,gi 8 (.eqs 8 false [false,true] (.t 6) (.t 7)),gt 5 8]
def r_Z74_2 : List GI:=[gk 4 0]
def r_Z74_3 : List GI:=[gf 10 2 0,gl 11 10,gt 12 11,⟨.fad 13 3 0,some 13,some (12,false),false⟩,⟨.lod 14 13 none,some 14,some (12,false),false⟩,⟨.un 15 UnOp.not (.t 14),some 15,some (12,false),false⟩,⟨.mov 16 (.t 15),some 16,some (12,false),false⟩,⟨.fad 17 2 1,some 17,some (16,true),false⟩,⟨.lod 18 17 none,some 18,some (16,true),false⟩,⟨.fad 19 3 1,some 19,some (16,true),false⟩,⟨.lod 20 19 none,some 20,some (16,true),false⟩,⟨.bin 21 .lss (.t 18) (.t 20),some 21,some (16,true),false⟩,⟨.pick 22 (.t 16) (.t 21) (.k (.v (.bool false))),some 22,some (12,false),false⟩,gi 23 (.pick 23 (.t 12) (.k (.v (.bool true))) (.t 22)),gt 9 23]
def r_Z74_4 : List GI:=[gi 4 (.mov 4 (.k (.v (.int .i64 (-1)))))]
def r_Z74_5 : List GI:=[gk 4 1]
def dc_Z74 : DC:=.seq (.z r_Z74_0) (.seq (.block 0 (.seq (.z r_Z74_1) (.cond (.t 5) (.seq (.z r_Z74_2) .ret) (.seq (.z r_Z74_3) (.cond (.t 9) (.seq (.z r_Z74_4) .ret) .skip))))) (.seq (.z r_Z74_5) .ret))
theorem c_Z74 : cfun Tryz.prog [] 185 = some (24,dc_Z74,[(Res.tmp 4)]):=by kernel_rfl
def r_Z96_0 : List GI:=[gk 4 0]
def r_Z96_1 : List GI:=[gt 7 0,gn 8 7,gk 9 0]
def r_Z96_2 : List GI:=[gb 10 .lss 9 8]
def r_Z96_3 : List GI:=[gt 11 9,gt 5 11]
def r_Z96_4 : List GI:=[gt 12 0,gt 13 5,ga 14 12 13 2,gs 15 14 2,gt 16 1,gt 17 5,ga 18 16 17 2,gs 19 18 2,gc 20 125 [.t 15,.t 19],gt 6 20]
def r_Z96_5 : List GI:=[gt 21 6,gd 22 .neq 21 0]
def r_Z96_6 : List GI:=[gt 23 6,gt 4 23]
def r_Z96_7 : List GI:=[gd 24 .add 9 1,gt 9 24]
def r_Z96_8 : List GI:=[gk 4 0]
def dc_Z96 : DC:=.seq (.z r_Z96_0) (.seq (.seq (.z r_Z96_1) (.block 0 (.loop (.seq (.z r_Z96_2) (.seq (.cond (.t 10) .skip (.exit 0)) (.seq (.block 1 (.seq (.z r_Z96_3) (.seq (.reg r_Z96_4 (some [0,0,3,7,0,0,48,112,255,511])) (.seq (.z r_Z96_5) (.cond (.t 22) (.seq (.z r_Z96_6) .ret) .skip))))) (.z r_Z96_7))))))) (.seq (.z r_Z96_8) .ret))
theorem c_Z96 : cfun Tryz.prog [] 69 = some (25,dc_Z96,[(Res.tmp 4)]):=by kernel_rfl
def r_Z109_0 : List GI:=[gk 4 0]
def r_Z109_1 : List GI:=[gk 5 0]
def r_Z109_2 : List GI:=[gt 7 5,gt 8 0,gn 9 8,gb 10 .lss 7 9,gt 11 10,⟨.mov 12 (.t 5),some 12,some (11,true),false⟩,⟨.mov 13 (.t 1),some 13,some (11,true),false⟩,⟨.len 14 (.t 13),some 14,some (11,true),false⟩,⟨.bin 15 .lss (.t 12) (.t 14),some 15,some (11,true),false⟩,gi 16 (.pick 16 (.t 11) (.t 15) (.k (.v (.bool false))))]
def r_Z109_3 : List GI:=[gt 19 0,gt 20 5,ga 21 19 20 2,gs 22 21 2,gt 23 1,gt 24 5,ga 25 23 24 2,gs 26 25 2,gc 27 185 [.t 22,.t 26],gt 6 27]
def r_Z109_4 : List GI:=[gt 28 6,gd 29 .neq 28 0]
def r_Z109_5 : List GI:=[gt 30 6,gt 4 30]
def r_Z109_6 : List GI:=[gt 17 5,gd 18 .add 17 1,gt 5 18]
def r_Z109_7 : List GI:=[gt 31 0,gn 32 31,gt 33 1,gn 34 33,gb 35 .sub 32 34,gt 4 35]
def dc_Z109 : DC:=.seq (.z r_Z109_0) (.seq (.seq (.z r_Z109_1) (.block 0 (.loop (.seq (.seq (.z r_Z109_2) (.cond (.t 16) .skip (.exit 0))) (.seq (.block 1 (.seq (.reg r_Z109_3 (some [0,0,3,7,0,0,48,112,255,511])) (.seq (.z r_Z109_4) (.cond (.t 29) (.seq (.z r_Z109_5) .ret) .skip)))) (.z r_Z109_6)))))) (.seq (.z r_Z109_7) .ret))
theorem c_Z109 : cfun Tryz.prog [] 132 = some (36,dc_Z109,[(Res.tmp 4)]):=by kernel_rfl
def r_Z139_0 : List GI:=[gi 4 (.mov 4 (.k (.v (.bool false))))]
def r_Z139_1 : List GI:=[gt 7 1,gc 8 104 [.t 7],gi 9 (.un 9 UnOp.not (.t 8)),gt 10 9,⟨.mov 11 (.t 0),some 11,some (10,false),false⟩,⟨.len 12 (.t 11),some 12,some (10,false),false⟩,⟨.bin 13 .gtr (.t 12) (.k (I 400)),some 13,some (10,false),false⟩,gi 14 (.pick 14 (.t 10) (.k (.v (.bool true))) (.t 13))]
def r_Z139_2 : List GI:=[gi 4 (.mov 4 (.k (.v (.bool false))))]
def r_Z139_3 : List GI:=[gt 15 0,gn 16 15,gk 17 0]
def r_Z139_4 : List GI:=[gb 18 .lss 17 16]
def r_Z139_5 : List GI:=[ga 19 15 17 1,gl 20 19,gt 6 20]
def r_Z139_6 : List GI:=[gt 21 6,gn 22 21,gt 23 1,gb 24 .neq 22 23,gt 25 24,⟨.mov 26 (.t 6),some 26,some (25,false),false⟩,⟨.call 27 154 [.t 26],some 27,some (25,false),true⟩,⟨.un 28 UnOp.not (.t 27),some 28,some (25,false),false⟩,gi 29 (.pick 29 (.t 25) (.k (.v (.bool true))) (.t 28))]
def r_Z139_7 : List GI:=[gi 4 (.mov 4 (.k (.v (.bool false))))]
def r_Z139_8 : List GI:=[gd 30 .add 17 1,gt 17 30]
def r_Z139_9 : List GI:=[gi 4 (.mov 4 (.k (.v (.bool true))))]
def dc_Z139 : DC:=.seq (.z r_Z139_0) (.seq (.seq (.z r_Z139_1) (.cond (.t 14) (.seq (.z r_Z139_2) .ret) .skip)) (.seq (.seq (.z r_Z139_3) (.block 0 (.loop (.seq (.z r_Z139_4) (.seq (.cond (.t 18) .skip (.exit 0)) (.seq (.block 1 (.seq (.z r_Z139_5) (.seq (.z r_Z139_6) (.cond (.t 29) (.seq (.z r_Z139_7) .ret) .skip)))) (.z r_Z139_8))))))) (.seq (.z r_Z139_9) .ret)))
theorem c_Z139 : cfun Tryz.prog [] 107 = some (31,dc_Z139,[(Res.tmp 4)]):=by kernel_rfl
def r_Z130_0 : List GI:=[gi 1 (.box 1 2000001 (.t 0) (some 2)),gi 2 (.mov 2 (.k (.v (.bool false))))]
def r_Z130_1 : List GI:=[gk 3 0]
def r_Z130_2 : List GI:=[gt 4 3,gf 5 1 1,gl 6 5,gn 7 6,gb 8 .lss 4 7]
def r_Z130_3 : List GI:=[gf 11 1 1,gl 12 11,gt 13 3,ga 14 12 13 1,gl 15 14,gc 16 131 [.t 15],gi 17 (.un 17 UnOp.not (.t 16)),gt 18 17,⟨.fad 19 1 1,some 19,some (18,false),false⟩,⟨.lod 20 19 none,some 20,some (18,false),false⟩,⟨.mov 21 (.t 3),some 21,some (18,false),false⟩,⟨.iad 22 20 (.t 21) 1,some 22,some (18,false),false⟩,⟨.lod 23 22 none,some 23,some (18,false),false⟩,⟨.len 24 (.t 23),some 24,some (18,false),false⟩,⟨.fad 25 1 0,some 25,some (18,false),false⟩,⟨.lod 26 25 none,some 26,some (18,false),false⟩,⟨.bin 27 .neq (.t 24) (.t 26),some 27,some (18,false),false⟩,gi 28 (.pick 28 (.t 18) (.k (.v (.bool true))) (.t 27)),gt 29 28,⟨.mov 30 (.t 3),some 30,some (29,false),false⟩,⟨.bin 31 .gtr (.t 30) (.k (I 0)),some 31,some (29,false),false⟩,⟨.mov 32 (.t 31),some 32,some (29,false),false⟩,⟨.fad 33 1 1,some 33,some (32,true),false⟩,⟨.lod 34 33 none,some 34,some (32,true),false⟩,⟨.mov 35 (.t 3),some 35,some (32,true),false⟩,⟨.bin 36 .sub (.t 35) (.k (I 1)),some 36,some (32,true),false⟩,⟨.iad 37 34 (.t 36) 1,some 37,some (32,true),false⟩,⟨.lod 38 37 none,some 38,some (32,true),false⟩,⟨.fad 39 1 1,some 39,some (32,true),false⟩,⟨.lod 40 39 none,some 40,some (32,true),false⟩,⟨.mov 41 (.t 3),some 41,some (32,true),false⟩,⟨.iad 42 40 (.t 41) 1,some 42,some (32,true),false⟩,⟨.lod 43 42 none,some 43,some (32,true),false⟩,⟨.call 44 132 [.t 38,.t 43],some 44,some (32,true),true⟩,⟨.bin 45 .gtr (.t 44) (.k (I 0)),some 45,some (32,true),false⟩,⟨.pick 46 (.t 32) (.t 45) (.k (.v (.bool false))),some 46,some (29,false),false⟩,gi 47 (.pick 47 (.t 29) (.k (.v (.bool true))) (.t 46))]
def r_Z130_4 : List GI:=[gi 2 (.mov 2 (.k (.v (.bool false))))]
def r_Z130_5 : List GI:=[gt 9 3,gd 10 .add 9 1,gt 3 10]
def r_Z130_6 : List GI:=[gf 48 1 0,gl 49 48,gc 50 126 [.t 49,.k (I 1),.k (I 6)],gt 51 50,⟨.fad 52 1 1,some 52,some (51,true),false⟩,⟨.lod 53 52 none,some 53,some (51,true),false⟩,⟨.len 54 (.t 53),some 54,some (51,true),false⟩,⟨.bin 55 .leq (.t 54) (.k (I 400)),some 55,some (51,true),false⟩,gi 56 (.pick 56 (.t 51) (.t 55) (.k (.v (.bool false)))),gt 2 56]
def dc_Z130 : DC:=.seq (.z r_Z130_0) (.seq (.seq (.z r_Z130_1) (.block 0 (.loop (.seq (.seq (.z r_Z130_2) (.cond (.t 8) .skip (.exit 0))) (.seq (.block 1 (.seq (.reg r_Z130_3 (some [0,1,0,7,15,31,63,127,255,511,255,2047,4095,8191,255,16639,65535,131071,262143,524287,1048575,2097151,4194303,8388607,4194303,20971519,67108863,134217727,4194303,272629759,4194303,1883242495,4030726143,8589934591,17179869183,34359738367,68719476735])) (.cond (.t 47) (.seq (.z r_Z130_4) .ret) .skip))) (.z r_Z130_5)))))) (.seq (.z r_Z130_6) .ret))
theorem c_Z130 : cfun Tryz.prog [] 73 = some (57,dc_Z130,[(Res.tmp 2)]):=by kernel_rfl
def r_Z141_0 : List GI:=[gi 4 (.mov 4 (.k (.v (.bool false))))]
def r_Z141_1 : List GI:=[gt 6 0,gn 7 6,gt 8 1,gn 9 8,gb 10 .neq 7 9]
def r_Z141_2 : List GI:=[gi 4 (.mov 4 (.k (.v (.bool false))))]
def r_Z141_3 : List GI:=[gk 5 0]
def r_Z141_4 : List GI:=[gt 11 5,gt 12 0,gn 13 12,gb 14 .lss 11 13]
def r_Z141_5 : List GI:=[gt 17 0,gt 18 5,ga 19 17 18 1,gl 20 19,gt 21 1,gt 22 5,ga 23 21 22 1,gl 24 23,gc 25 81 [.t 20,.t 24],gi 26 (.un 26 UnOp.not (.t 25))]
def r_Z141_6 : List GI:=[gi 4 (.mov 4 (.k (.v (.bool false))))]
def r_Z141_7 : List GI:=[gt 15 5,gd 16 .add 15 1,gt 5 16]
def r_Z141_8 : List GI:=[gi 4 (.mov 4 (.k (.v (.bool true))))]
def dc_Z141 : DC:=.seq (.z r_Z141_0) (.seq (.seq (.z r_Z141_1) (.cond (.t 10) (.seq (.z r_Z141_2) .ret) .skip)) (.seq (.seq (.z r_Z141_3) (.block 0 (.loop (.seq (.seq (.z r_Z141_4) (.cond (.t 14) .skip (.exit 0))) (.seq (.block 1 (.seq (.reg r_Z141_5 (some [0,0,3,7,0,0,48,112,255,511])) (.cond (.t 26) (.seq (.z r_Z141_6) .ret) .skip))) (.z r_Z141_7)))))) (.seq (.z r_Z141_8) .ret)))
theorem c_Z141 : cfun Tryz.prog [] 36 = some (27,dc_Z141,[(Res.tmp 4)]):=by kernel_rfl
def r_Z108_0 : List GI:=[gi 2 (.box 2 2000002 (.t 0) (some 2)),gi 3 (.box 3 2000003 (.t 1) (some 2)),gi 4 (.mov 4 (.k (.v (.bool false))))]
def r_Z108_1 : List GI:=[gf 5 2 0,gl 6 5,gf 7 3 0,gl 8 7,gb 9 .eql 6 8,gt 10 9,⟨.fad 11 2 1,some 11,some (10,true),false⟩,⟨.lod 12 11 none,some 12,some (10,true),false⟩,⟨.fad 13 3 1,some 13,some (10,true),false⟩,⟨.lod 14 13 none,some 14,some (10,true),false⟩,⟨.call 15 36 [.t 12,.t 14],some 15,some (10,true),true⟩,gi 16 (.pick 16 (.t 10) (.t 15) (.k (.v (.bool false)))),gt 4 16]
def dc_Z108 : DC:=.seq (.z r_Z108_0) (.seq (.z r_Z108_1) .ret)
theorem c_Z108 : cfun Tryz.prog [] 9 = some (17,dc_Z108,[(Res.tmp 4)]):=by kernel_rfl
def r_Z116_0 : List GI:=[gi 1 (.box 1 2000001 (.t 0) (some 2)),gi 2 (.mov 2 (.k (.v (.bool false))))]
def r_Z116_1 : List GI:=[gf 3 1 1,gl 4 3,gf 5 1 0,gl 6 5,gc 7 107 [.t 4,.t 6],gt 8 7,⟨.fad 9 1 1,some 9,some (8,true),false⟩,⟨.lod 10 9 none,some 10,some (8,true),false⟩,⟨.call 11 108 [.t 10,.k (.fn 69 [])],some 11,some (8,true),true⟩,gi 12 (.pick 12 (.t 8) (.t 11) (.k (.v (.bool false)))),gt 2 12]
def dc_Z116 : DC:=.seq (.z r_Z116_0) (.seq (.z r_Z116_1) .ret)
theorem c_Z116 : cfun Tryz.prog [] 64 = some (13,dc_Z116,[(Res.tmp 2)]):=by kernel_rfl
def r_Z0_0 : List GI:=[gi 4 (.mov 4 (.k (.v (.bool false))))]
def r_Z0_1 : List GI:=[gt 6 0,gn 7 6,gd 8 .sub 7 1,gt 5 8]
def r_Z0_2 : List GI:=[gt 9 5,gd 10 .gtr 9 0]
def r_Z0_3 : List GI:=[gt 13 1,gt 14 0,gt 15 5,ga 16 14 15 1,gl 17 16,gt 18 0,gt 19 5,gd 20 .sub 19 1,ga 21 18 20 1,gl 22 21,⟨.cal 23 (.t 13) [.t 17,.t 22],some 23,none,true⟩,gd 24 .lss 23 0]
def r_Z0_4 : List GI:=[gi 4 (.mov 4 (.k (.v (.bool false))))]
def r_Z0_5 : List GI:=[gt 11 5,gd 12 .sub 11 1,gt 5 12]
def r_Z0_6 : List GI:=[gi 4 (.mov 4 (.k (.v (.bool true))))]
def dc_Z0 : DC:=.seq (.z r_Z0_0) (.seq (.seq (.z r_Z0_1) (.block 0 (.loop (.seq (.seq (.z r_Z0_2) (.cond (.t 10) .skip (.exit 0))) (.seq (.block 1 (.seq (.reg r_Z0_3 (some [0,0,0,6,14,0,0,64,224,480,1023,2047])) (.cond (.t 24) (.seq (.z r_Z0_4) .ret) .skip))) (.z r_Z0_5)))))) (.seq (.z r_Z0_6) .ret))
theorem c_Z0 : cfun Tryz.prog [] 108 = some (25,dc_Z0,[(Res.tmp 4)]):=by kernel_rfl
def r_Z135_0 : List GI:=[gi 2 (.mov 2 (.k .nul))]
def r_Z135_1 : List GI:=[gi 3 (.mov 3 (.k .nul))]
def r_Z135_2 : List GI:=[gt 6 0,gn 7 6,gk 8 0]
def r_Z135_3 : List GI:=[gb 9 .lss 8 7]
def r_Z135_4 : List GI:=[ga 10 6 8 1,gl 11 10,gt 5 11]
def r_Z135_5 : List GI:=[gt 12 3,gt 13 5,gc 14 70 [.t 13],gi 15 (.bsl 15 1 none [.nul] [(0,.t 14)]),gi 16 (.app 16 2000016 (.t 12) (.t 15) 1 24),gt 3 16]
def r_Z135_6 : List GI:=[gd 17 .add 8 1,gt 8 17]
def r_Z135_7 : List GI:=[gt 18 3,gt 2 18]
def dc_Z135 : DC:=.seq (.z r_Z135_0) (.seq (.z r_Z135_1) (.seq (.seq (.z r_Z135_2) (.block 0 (.loop (.seq (.z r_Z135_3) (.seq (.cond (.t 9) .skip (.exit 0)) (.seq (.block 1 (.seq (.z r_Z135_4) (.z r_Z135_5))) (.z r_Z135_6))))))) (.seq (.z r_Z135_7) .ret)))
theorem c_Z135 : cfun Tryz.prog [] 32 = some (19,dc_Z135,[(Res.tmp 2)]):=by kernel_rfl
def r_Z100_0 : List GI:=[gi 4 (.alloc 4 2000004 [I 0,.nul])]
def r_Z100_1 : List GI:=[gt 5 1,⟨.call 6 68 [.t 5,.k (.fn 69 [])],some 6,none,true⟩]
def r_Z100_2 : List GI:=[gt 7 0,gt 8 1,gi 9 (.build 9 [I 0,.nul] [(0,(none,.t 7)),(1,(none,.t 8))]),g0 (.sto 4 (.t 9) (some 2))]
def dc_Z100 : DC:=.seq (.z r_Z100_0) (.seq (.z r_Z100_1) (.seq (.z r_Z100_2) .ret))
theorem c_Z100 : cfun Tryz.prog [] 31 = some (10,dc_Z100,[(Res.cell 4 (some 2))]):=by kernel_rfl
def r_Z8_0 : List GI:=[gi 2 (.mov 2 (.k .nul))]
def r_Z8_1 : List GI:=[gt 3 0,gi 4 (.isn 4 false (.t 3))]
def r_Z8_2 : List GI:=[gi 2 (.mov 2 (.k .nul))]
def r_Z8_3 : List GI:=[gi 5 (.mov 5 (.k .nul)),gt 6 0,gi 7 (.app 7 2000007 (.t 5) (.t 6) 2 16),gt 2 7]
def dc_Z8 : DC:=.seq (.z r_Z8_0) (.seq (.seq (.z r_Z8_1) (.cond (.t 4) (.seq (.z r_Z8_2) .ret) .skip)) (.seq (.z r_Z8_3) .ret))
theorem c_Z8 : cfun Tryz.prog [] 70 = some (8,dc_Z8,[(Res.tmp 2)]):=by kernel_rfl
end
end Go.Proofs.YtefldihjbaodnaaGreat
