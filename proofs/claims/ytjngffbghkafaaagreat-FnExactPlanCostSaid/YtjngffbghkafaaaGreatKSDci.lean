/-
  Functions of the program read as code on plain data. Closed facts of the program alone.
-/
import Derived.KernelRfl
import Derived.Test.YtjngffbghkafaaaGreatRows
import Derived.Test.YtjngffbghkafaaaGreatJSVGo
import Derived.Test.YtjngffbghkafaaaGreatJSVGi
namespace Go.Proofs.YtjngffbghkafaaaGreat
open Go.RowKit
noncomputable section
def r_Z109_0 : List GI:=[gi 2 (.box 2 2000002 (.t 0) (some 5)),gk 4 0]
def r_Z109_1 : List GI:=[gs 5 2 5,gt 6 1,gc 7 45 [.t 6],gc 8 44 [.t 5,.t 7],gd 9 .eql 8 0]
def r_Z109_2 : List GI:=[gi 4 (.mov 4 (.k (.v (.int .i64 (-1)))))]
def r_Z109_3 : List GI:=[gs 10 2 5,gt 11 1,gc 12 47 [.t 11],gc 13 46 [.t 10,.t 12],gt 4 13]
def dc_Z109 : DC:=.seq (.z r_Z109_0) (.seq (.seq (.reg r_Z109_1 (some [0,0,2,7,15])) (.cond (.t 9) (.seq (.z r_Z109_2) .ret) .skip)) (.seq (.reg r_Z109_3 (some [0,0,2,7,15])) .ret))
theorem c_Z109 : cfun Tryz.prog [] 14 = some (14,dc_Z109,[(Res.tmp 4)]):=by kernel_rfl
def r_Z82_0 : List GI:=[gi 1 (.box 1 2000001 (.t 0) none),gi 2 (.mov 2 (.k (.v .nilFunc)))]
def r_Z82_1 : List GI:=[gi 3 (.mkf 3 84 [.t 1]),gt 2 3]
def dc_Z82 : DC:=.seq (.z r_Z82_0) (.seq (.z r_Z82_1) .ret)
theorem c_Z82 : cfun Tryz.prog [] 47 = some (4,dc_Z82,[(Res.tmp 2)]):=by kernel_rfl
def r_Z52_0 : List GI:=[gi 3 (.box 3 2000003 (.t 0) (some 5)),gi 5 (.alloc 5 2000005 [I 0,.nul]),gk 6 0]
def r_Z52_1 : List GI:=[gs 8 3 5,gt 9 1,gl 10 2,gc 11 56 [.t 8,.t 9,.t 10],gi 7 (.alloc 7 2000007 [I 0,.nul]),g0 (.sto 7 (.t 11) (some 2))]
def r_Z52_2 : List GI:=[gs 12 7 2,gf 13 7 1,gl 14 13,gn 15 14,g0 (.sto 5 (.t 12) (some 2)),gt 6 15]
def dc_Z52 : DC:=.seq (.z r_Z52_0) (.seq (.z r_Z52_1) (.seq (.reg r_Z52_2 (some [0,0,2,6,1,31])) .ret))
theorem c_Z52 : cfun Tryz.prog [] 84 = some (16,dc_Z52,[(Res.cell 5 (some 2)),(Res.tmp 6)]):=by kernel_rfl
def r_Z18_0 : List GI:=[gi 2 (.box 2 2000002 (.t 0) (some 5)),gi 3 (.box 3 2000003 (.t 1) none),gk 4 0]
def r_Z18_1 : List GI:=[gi 5 (.alloc 5 2000005 [I 0]),g0 (.sto 5 (.k (I 0)) none)]
def r_Z18_2 : List GI:=[gs 6 2 5,gi 7 (.mkf 7 83 [.t 3,.t 5]),gc 8 54 [.t 6,.t 7]]
def r_Z18_3 : List GI:=[gl 9 5,gt 4 9]
def dc_Z18 : DC:=.seq (.z r_Z18_0) (.seq (.z r_Z18_1) (.seq (.z r_Z18_2) (.seq (.z r_Z18_3) .ret)))
theorem c_Z18 : cfun Tryz.prog [] 46 = some (10,dc_Z18,[(Res.tmp 4)]):=by kernel_rfl
def r_Z15_0 : List GI:=[gi 4 (.box 4 2000004 (.t 0) (some 5)),gi 6 (.alloc 6 2000006 [I 0,.nul])]
def r_Z15_1 : List GI:=[gl 10 2,gs 11 4 5,gt 12 1,⟨.cal 13 (.t 10) [.t 11,.t 12],some 13,none,true⟩,gt 9 13,gi 14 (.ext 14 9 0),gi 15 (.ext 15 9 1),gi 7 (.alloc 7 2000007 [I 0,.nul]),g0 (.sto 7 (.t 14) (some 2)),gt 8 15]
def r_Z15_2 : List GI:=[gl 16 3,gt 17 8,gb 18 .add 16 17,g0 (.sto 3 (.t 18) none)]
def r_Z15_3 : List GI:=[gs 19 7 2,g0 (.sto 6 (.t 19) (some 2))]
def dc_Z15 : DC:=.seq (.z r_Z15_0) (.seq (.z r_Z15_1) (.seq (.z r_Z15_2) (.seq (.z r_Z15_3) .ret)))
theorem c_Z15 : cfun Tryz.prog [] 83 = some (20,dc_Z15,[(Res.cell 6 (some 2))]):=by kernel_rfl
def r_Z123_0 : List GI:=[gi 2 (.box 2 2000002 (.t 0) (some 5)),gk 4 0]
def r_Z123_1 : List GI:=[gs 5 2 5,gt 6 1,gc 7 38 [.t 6],gc 8 37 [.t 5,.t 7],gd 9 .eql 8 0]
def r_Z123_2 : List GI:=[gi 4 (.mov 4 (.k (.v (.int .i64 (-1)))))]
def r_Z123_3 : List GI:=[gs 10 2 5,gt 11 1,gc 12 39 [.t 10,.t 11],gt 4 12]
def dc_Z123 : DC:=.seq (.z r_Z123_0) (.seq (.seq (.reg r_Z123_1 (some [0,0,2,7,15])) (.cond (.t 9) (.seq (.z r_Z123_2) .ret) .skip)) (.seq (.z r_Z123_3) .ret))
theorem c_Z123 : cfun Tryz.prog [] 11 = some (13,dc_Z123,[(Res.tmp 4)]):=by kernel_rfl
def r_Z129_0 : List GI:=[gi 2 (.box 2 2000002 (.t 0) (some 5)),gk 4 0]
def r_Z129_1 : List GI:=[gs 7 2 5,gt 8 1,gc 9 59 [.t 7,.t 8],gi 10 (.fld 10 (.t 9) 1 none),gn 11 10,gt 5 11]
def r_Z129_2 : List GI:=[gk 6 0]
def r_Z129_3 : List GI:=[gt 12 6,gf 13 2 4,gl 14 13,gn 15 14,gb 16 .lss 12 15]
def r_Z129_4 : List GI:=[gt 19 5,gf 20 2 4,gl 21 20,gt 22 6,ga 23 21 22 5,gs 24 23 5,gt 25 1,gc 26 39 [.t 24,.t 25],gb 27 .add 19 26,gt 5 27]
def r_Z129_5 : List GI:=[gt 17 6,gd 18 .add 17 1,gt 6 18]
def r_Z129_6 : List GI:=[gt 28 5,gt 4 28]
def dc_Z129 : DC:=.seq (.z r_Z129_0) (.seq (.z r_Z129_1) (.seq (.seq (.z r_Z129_2) (.block 0 (.loop (.seq (.seq (.z r_Z129_3) (.cond (.t 16) .skip (.exit 0))) (.seq (.block 1 (.z r_Z129_4)) (.z r_Z129_5)))))) (.seq (.z r_Z129_6) .ret)))
theorem c_Z129 : cfun Tryz.prog [] 39 = some (29,dc_Z129,[(Res.tmp 4)]):=by kernel_rfl
def r_Z139_0 : List GI:=[gi 2 (.box 2 2000002 (.t 0) (some 2)),gi 3 (.box 3 2000003 (.t 1) (some 2)),gi 4 (.mov 4 (.k (.v (.bool false))))]
def r_Z139_1 : List GI:=[gf 5 2 0,gl 6 5,gf 7 3 0,gl 8 7,gi 9 (.beq 9 true (.t 6) (.t 8))]
def r_Z139_2 : List GI:=[gi 4 (.mov 4 (.k (.v (.bool false))))]
def r_Z139_3 : List GI:=[gf 10 2 1,gl 11 10,gf 12 3 1,gl 13 12,gb 14 .neq 11 13]
def r_Z139_4 : List GI:=[gi 4 (.mov 4 (.k (.v (.bool false))))]
def r_Z139_5 : List GI:=[gi 4 (.mov 4 (.k (.v (.bool true))))]
def dc_Z139 : DC:=.seq (.z r_Z139_0) (.seq (.seq (.z r_Z139_1) (.cond (.t 9) (.seq (.z r_Z139_2) .ret) .skip)) (.seq (.seq (.z r_Z139_3) (.cond (.t 14) (.seq (.z r_Z139_4) .ret) .skip)) (.seq (.z r_Z139_5) .ret)))
theorem c_Z139 : cfun Tryz.prog [] 135 = some (15,dc_Z139,[(Res.tmp 4)]):=by kernel_rfl
def r_Z146_0 : List GI:=[gi 1 (.box 1 2000001 (.t 0) (some 2)),gi 2 (.alloc 2 2000002 [.v (.bool false),I 0])]
def r_Z146_1 : List GI:=[gi 3 (.alloc 3 2000003 [.v (.bool false),I 0])]
def r_Z146_2 : List GI:=[gf 4 1 0,gl 5 4,gf 6 3 0,g0 (.sto 6 (.t 5) none)]
def r_Z146_3 : List GI:=[gf 7 1 1,gl 8 7,gf 9 3 1,g0 (.sto 9 (.t 8) none)]
def r_Z146_4 : List GI:=[gs 10 3 2,g0 (.sto 2 (.t 10) (some 2))]
def dc_Z146 : DC:=.seq (.z r_Z146_0) (.seq (.z r_Z146_1) (.seq (.z r_Z146_2) (.seq (.z r_Z146_3) (.seq (.z r_Z146_4) .ret))))
theorem c_Z146 : cfun Tryz.prog [] 130 = some (11,dc_Z146,[(Res.cell 2 (some 2))]):=by kernel_rfl
def r_Z138_0 : List GI:=[gi 2 (.box 2 2000002 (.t 0) (some 2)),gi 3 (.box 3 2000003 (.t 1) (some 2)),gi 4 (.mov 4 (.k (.v (.bool false))))]
def r_Z138_1 : List GI:=[gf 5 2 0,gl 6 5,gf 7 3 0,gl 8 7,gb 9 .neq 6 8]
def r_Z138_2 : List GI:=[gi 4 (.mov 4 (.k (.v (.bool false))))]
def r_Z138_3 : List GI:=[gf 10 2 1,gl 11 10,gf 12 3 1,gl 13 12,gc 14 86 [.t 11,.t 13],gi 15 (.un 15 UnOp.not (.t 14))]
def r_Z138_4 : List GI:=[gi 4 (.mov 4 (.k (.v (.bool false))))]
def r_Z138_5 : List GI:=[gi 4 (.mov 4 (.k (.v (.bool true))))]
def dc_Z138 : DC:=.seq (.z r_Z138_0) (.seq (.seq (.z r_Z138_1) (.cond (.t 9) (.seq (.z r_Z138_2) .ret) .skip)) (.seq (.seq (.z r_Z138_3) (.cond (.t 15) (.seq (.z r_Z138_4) .ret) .skip)) (.seq (.z r_Z138_5) .ret)))
theorem c_Z138 : cfun Tryz.prog [] 51 = some (16,dc_Z138,[(Res.tmp 4)]):=by kernel_rfl
def r_Z117_0 : List GI:=[gi 4 (.mov 4 (.k (.v (.bool false))))]
def r_Z117_1 : List GI:=[gt 6 0,gn 7 6,gt 8 1,gn 9 8,gb 10 .neq 7 9]
def r_Z117_2 : List GI:=[gi 4 (.mov 4 (.k (.v (.bool false))))]
def r_Z117_3 : List GI:=[gk 5 0]
def r_Z117_4 : List GI:=[gt 11 5,gt 12 0,gn 13 12,gb 14 .lss 11 13]
def r_Z117_5 : List GI:=[gt 17 0,gt 18 5,ga 19 17 18 2,gs 20 19 2,gt 21 1,gt 22 5,ga 23 21 22 2,gs 24 23 2,gc 25 135 [.t 20,.t 24],gi 26 (.un 26 UnOp.not (.t 25))]
def r_Z117_6 : List GI:=[gi 4 (.mov 4 (.k (.v (.bool false))))]
def r_Z117_7 : List GI:=[gt 15 5,gd 16 .add 15 1,gt 5 16]
def r_Z117_8 : List GI:=[gi 4 (.mov 4 (.k (.v (.bool true))))]
def dc_Z117 : DC:=.seq (.z r_Z117_0) (.seq (.seq (.z r_Z117_1) (.cond (.t 10) (.seq (.z r_Z117_2) .ret) .skip)) (.seq (.seq (.z r_Z117_3) (.block 0 (.loop (.seq (.seq (.z r_Z117_4) (.cond (.t 14) .skip (.exit 0))) (.seq (.block 1 (.seq (.reg r_Z117_5 (some [0,0,3,7,0,0,48,112,255,511])) (.cond (.t 26) (.seq (.z r_Z117_6) .ret) .skip))) (.z r_Z117_7)))))) (.seq (.z r_Z117_8) .ret)))
theorem c_Z117 : cfun Tryz.prog [] 136 = some (27,dc_Z117,[(Res.tmp 4)]):=by kernel_rfl
def r_Z101_0 : List GI:=[gi 4 (.mov 4 (.k (.v (.bool false))))]
def r_Z101_1 : List GI:=[gt 6 0,gn 7 6,gt 8 1,gn 9 8,gb 10 .neq 7 9]
def r_Z101_2 : List GI:=[gi 4 (.mov 4 (.k (.v (.bool false))))]
def r_Z101_3 : List GI:=[gk 5 0]
def r_Z101_4 : List GI:=[gt 11 5,gt 12 0,gn 13 12,gb 14 .lss 11 13]
def r_Z101_5 : List GI:=[gt 17 0,gt 18 5,ga 19 17 18 1,gl 20 19,gt 21 1,gt 22 5,ga 23 21 22 1,gl 24 23,gc 25 136 [.t 20,.t 24],gi 26 (.un 26 UnOp.not (.t 25))]
def r_Z101_6 : List GI:=[gi 4 (.mov 4 (.k (.v (.bool false))))]
def r_Z101_7 : List GI:=[gt 15 5,gd 16 .add 15 1,gt 5 16]
def r_Z101_8 : List GI:=[gi 4 (.mov 4 (.k (.v (.bool true))))]
def dc_Z101 : DC:=.seq (.z r_Z101_0) (.seq (.seq (.z r_Z101_1) (.cond (.t 10) (.seq (.z r_Z101_2) .ret) .skip)) (.seq (.seq (.z r_Z101_3) (.block 0 (.loop (.seq (.seq (.z r_Z101_4) (.cond (.t 14) .skip (.exit 0))) (.seq (.block 1 (.seq (.reg r_Z101_5 (some [0,0,3,7,0,0,48,112,255,511])) (.cond (.t 26) (.seq (.z r_Z101_6) .ret) .skip))) (.z r_Z101_7)))))) (.seq (.z r_Z101_8) .ret)))
theorem c_Z101 : cfun Tryz.prog [] 86 = some (27,dc_Z101,[(Res.tmp 4)]):=by kernel_rfl
def r_Z142_0 : List GI:=[gi 2 (.box 2 2000002 (.t 0) (some 2)),gk 4 0]
def r_Z142_1 : List GI:=[gf 5 2 1,gl 6 5,gt 7 1,gc 8 75 [.t 6,.t 7],gt 1 8]
def r_Z142_2 : List GI:=[gt 9 1,gd 10 .lss 9 0]
def r_Z142_3 : List GI:=[gi 4 (.mov 4 (.k (.v (.int .i64 (-1)))))]
def r_Z142_4 : List GI:=[gt 11 1,gt 4 11]
def dc_Z142 : DC:=.seq (.z r_Z142_0) (.seq (.z r_Z142_1) (.seq (.seq (.z r_Z142_2) (.cond (.t 10) (.seq (.z r_Z142_3) .ret) .skip)) (.seq (.z r_Z142_4) .ret)))
theorem c_Z142 : cfun Tryz.prog [] 36 = some (12,dc_Z142,[(Res.tmp 4)]):=by kernel_rfl
def r_Z119_0 : List GI:=[gk 4 0]
def r_Z119_1 : List GI:=[gt 5 1,gt 6 0,gn 7 6,gb 8 .sub 5 7,gt 1 8]
def r_Z119_2 : List GI:=[gt 9 1,gd 10 .lss 9 0]
def r_Z119_3 : List GI:=[gi 4 (.mov 4 (.k (.v (.int .i64 (-1)))))]
def r_Z119_4 : List GI:=[gt 11 1,gt 4 11]
def dc_Z119 : DC:=.seq (.z r_Z119_0) (.seq (.z r_Z119_1) (.seq (.seq (.z r_Z119_2) (.cond (.t 10) (.seq (.z r_Z119_3) .ret) .skip)) (.seq (.z r_Z119_4) .ret)))
theorem c_Z119 : cfun Tryz.prog [] 123 = some (12,dc_Z119,[(Res.tmp 4)]):=by kernel_rfl
def r_Z102_0 : List GI:=[gk 4 0]
def r_Z102_1 : List GI:=[gt 6 1,gt 7 0,gn 8 7,gb 9 .sub 6 8,gt 1 9]
def r_Z102_2 : List GI:=[gt 10 1,gd 11 .lss 10 0]
def r_Z102_3 : List GI:=[gi 4 (.mov 4 (.k (.v (.int .i64 (-1)))))]
def r_Z102_4 : List GI:=[gk 5 0]
def r_Z102_5 : List GI:=[gt 12 5,gt 13 0,gn 14 13,gb 15 .lss 12 14]
def r_Z102_6 : List GI:=[gt 18 0,gt 19 5,ga 20 18 19 1,gl 21 20,gt 22 1,gc 23 123 [.t 21,.t 22],gt 1 23]
def r_Z102_7 : List GI:=[gt 24 1,gd 25 .lss 24 0]
def r_Z102_8 : List GI:=[gi 4 (.mov 4 (.k (.v (.int .i64 (-1)))))]
def r_Z102_9 : List GI:=[gt 16 5,gd 17 .add 16 1,gt 5 17]
def r_Z102_10 : List GI:=[gt 26 1,gt 4 26]
def dc_Z102 : DC:=.seq (.z r_Z102_0) (.seq (.z r_Z102_1) (.seq (.seq (.z r_Z102_2) (.cond (.t 11) (.seq (.z r_Z102_3) .ret) .skip)) (.seq (.seq (.z r_Z102_4) (.block 0 (.loop (.seq (.seq (.z r_Z102_5) (.cond (.t 15) .skip (.exit 0))) (.seq (.block 1 (.seq (.z r_Z102_6) (.seq (.z r_Z102_7) (.cond (.t 25) (.seq (.z r_Z102_8) .ret) .skip)))) (.z r_Z102_9)))))) (.seq (.z r_Z102_10) .ret))))
theorem c_Z102 : cfun Tryz.prog [] 75 = some (27,dc_Z102,[(Res.tmp 4)]):=by kernel_rfl
def r_Z145_0 : List GI:=[gi 1 (.box 1 2000001 (.t 0) (some 2)),gi 2 (.alloc 2 2000002 [I 0,.nul])]
def r_Z145_1 : List GI:=[gi 3 (.alloc 3 2000003 [I 0,.nul])]
def r_Z145_2 : List GI:=[gf 4 1 0,gl 5 4,gf 6 3 0,g0 (.sto 6 (.t 5) none)]
def r_Z145_3 : List GI:=[gf 7 1 1,gl 8 7,gc 9 80 [.t 8],gf 10 3 1,g0 (.sto 10 (.t 9) none)]
def r_Z145_4 : List GI:=[gs 11 3 2,g0 (.sto 2 (.t 11) (some 2))]
def dc_Z145 : DC:=.seq (.z r_Z145_0) (.seq (.z r_Z145_1) (.seq (.z r_Z145_2) (.seq (.z r_Z145_3) (.seq (.z r_Z145_4) .ret))))
theorem c_Z145 : cfun Tryz.prog [] 43 = some (12,dc_Z145,[(Res.cell 2 (some 2))]):=by kernel_rfl
def r_Z121_0 : List GI:=[gi 2 (.mov 2 (.k .nul))]
def r_Z121_1 : List GI:=[gt 5 0,gn 6 5,gi 7 (.mks 7 2000007 (.t 6) 2 16 (.agg [.v (.bool false),I 0])),gt 3 7]
def r_Z121_2 : List GI:=[gk 4 0]
def r_Z121_3 : List GI:=[gt 8 4,gt 9 0,gn 10 9,gb 11 .lss 8 10]
def r_Z121_4 : List GI:=[gt 14 3,gt 15 4,gt 16 0,gt 17 4,ga 18 16 17 2,gs 19 18 2,gc 20 130 [.t 19],ga 21 14 15 2,g0 (.sto 21 (.t 20) (some 2))]
def r_Z121_5 : List GI:=[gt 12 4,gd 13 .add 12 1,gt 4 13]
def r_Z121_6 : List GI:=[gt 22 3,gt 2 22]
def dc_Z121 : DC:=.seq (.z r_Z121_0) (.seq (.z r_Z121_1) (.seq (.seq (.z r_Z121_2) (.block 0 (.loop (.seq (.seq (.z r_Z121_3) (.cond (.t 11) .skip (.exit 0))) (.seq (.block 1 (.z r_Z121_4)) (.z r_Z121_5)))))) (.seq (.z r_Z121_6) .ret)))
theorem c_Z121 : cfun Tryz.prog [] 131 = some (23,dc_Z121,[(Res.tmp 2)]):=by kernel_rfl
def r_Z103_0 : List GI:=[gi 2 (.mov 2 (.k .nul))]
def r_Z103_1 : List GI:=[gt 5 0,gn 6 5,gi 7 (.mks 7 2000007 (.t 6) 1 24 .nul),gt 3 7]
def r_Z103_2 : List GI:=[gk 4 0]
def r_Z103_3 : List GI:=[gt 8 4,gt 9 0,gn 10 9,gb 11 .lss 8 10]
def r_Z103_4 : List GI:=[gt 14 3,gt 15 4,gt 16 0,gt 17 4,ga 18 16 17 1,gl 19 18,gc 20 131 [.t 19],ga 21 14 15 1,g0 (.sto 21 (.t 20) none)]
def r_Z103_5 : List GI:=[gt 12 4,gd 13 .add 12 1,gt 4 13]
def r_Z103_6 : List GI:=[gt 22 3,gt 2 22]
def dc_Z103 : DC:=.seq (.z r_Z103_0) (.seq (.z r_Z103_1) (.seq (.seq (.z r_Z103_2) (.block 0 (.loop (.seq (.seq (.z r_Z103_3) (.cond (.t 11) .skip (.exit 0))) (.seq (.block 1 (.z r_Z103_4)) (.z r_Z103_5)))))) (.seq (.z r_Z103_6) .ret)))
theorem c_Z103 : cfun Tryz.prog [] 80 = some (23,dc_Z103,[(Res.tmp 2)]):=by kernel_rfl
def r_Z116_0 : List GI:=[gi 4 (.mov 4 (.k (.v (.bool false))))]
def r_Z116_1 : List GI:=[gt 6 0,gn 7 6,gt 8 1,gn 9 8,gb 10 .neq 7 9]
def r_Z116_2 : List GI:=[gi 4 (.mov 4 (.k (.v (.bool false))))]
def r_Z116_3 : List GI:=[gk 5 0]
def r_Z116_4 : List GI:=[gt 11 5,gt 12 0,gn 13 12,gb 14 .lss 11 13]
def r_Z116_5 : List GI:=[gt 17 0,gt 18 5,ga 19 17 18 2,gs 20 19 2,gt 21 1,gt 22 5,ga 23 21 22 2,gs 24 23 2,gc 25 51 [.t 20,.t 24],gi 26 (.un 26 UnOp.not (.t 25))]
def r_Z116_6 : List GI:=[gi 4 (.mov 4 (.k (.v (.bool false))))]
def r_Z116_7 : List GI:=[gt 15 5,gd 16 .add 15 1,gt 5 16]
def r_Z116_8 : List GI:=[gi 4 (.mov 4 (.k (.v (.bool true))))]
def dc_Z116 : DC:=.seq (.z r_Z116_0) (.seq (.seq (.z r_Z116_1) (.cond (.t 10) (.seq (.z r_Z116_2) .ret) .skip)) (.seq (.seq (.z r_Z116_3) (.block 0 (.loop (.seq (.seq (.z r_Z116_4) (.cond (.t 14) .skip (.exit 0))) (.seq (.block 1 (.seq (.reg r_Z116_5 (some [0,0,3,7,0,0,48,112,255,511])) (.cond (.t 26) (.seq (.z r_Z116_6) .ret) .skip))) (.z r_Z116_7)))))) (.seq (.z r_Z116_8) .ret)))
theorem c_Z116 : cfun Tryz.prog [] 16 = some (27,dc_Z116,[(Res.tmp 4)]):=by kernel_rfl
def r_Z118_0 : List GI:=[gk 4 0]
def r_Z118_1 : List GI:=[gt 6 1,gt 7 0,gn 8 7,gb 9 .sub 6 8,gt 1 9]
def r_Z118_2 : List GI:=[gt 10 1,gd 11 .lss 10 0]
def r_Z118_3 : List GI:=[gi 4 (.mov 4 (.k (.v (.int .i64 (-1)))))]
def r_Z118_4 : List GI:=[gk 5 0]
def r_Z118_5 : List GI:=[gt 12 5,gt 13 0,gn 14 13,gb 15 .lss 12 14]
def r_Z118_6 : List GI:=[gt 18 0,gt 19 5,ga 20 18 19 2,gs 21 20 2,gt 22 1,gc 23 36 [.t 21,.t 22],gt 1 23]
def r_Z118_7 : List GI:=[gt 24 1,gd 25 .lss 24 0]
def r_Z118_8 : List GI:=[gi 4 (.mov 4 (.k (.v (.int .i64 (-1)))))]
def r_Z118_9 : List GI:=[gt 16 5,gd 17 .add 16 1,gt 5 17]
def r_Z118_10 : List GI:=[gt 26 1,gt 4 26]
def dc_Z118 : DC:=.seq (.z r_Z118_0) (.seq (.z r_Z118_1) (.seq (.seq (.z r_Z118_2) (.cond (.t 11) (.seq (.z r_Z118_3) .ret) .skip)) (.seq (.seq (.z r_Z118_4) (.block 0 (.loop (.seq (.seq (.z r_Z118_5) (.cond (.t 15) .skip (.exit 0))) (.seq (.block 1 (.seq (.z r_Z118_6) (.seq (.z r_Z118_7) (.cond (.t 25) (.seq (.z r_Z118_8) .ret) .skip)))) (.z r_Z118_9)))))) (.seq (.z r_Z118_10) .ret))))
theorem c_Z118 : cfun Tryz.prog [] 10 = some (27,dc_Z118,[(Res.tmp 4)]):=by kernel_rfl
def r_Z120_0 : List GI:=[gi 2 (.mov 2 (.k .nul))]
def r_Z120_1 : List GI:=[gt 5 0,gn 6 5,gi 7 (.mks 7 2000007 (.t 6) 2 32 (.agg [I 0,.nul])),gt 3 7]
def r_Z120_2 : List GI:=[gk 4 0]
def r_Z120_3 : List GI:=[gt 8 4,gt 9 0,gn 10 9,gb 11 .lss 8 10]
def r_Z120_4 : List GI:=[gt 14 3,gt 15 4,gt 16 0,gt 17 4,ga 18 16 17 2,gs 19 18 2,gc 20 43 [.t 19],ga 21 14 15 2,g0 (.sto 21 (.t 20) (some 2))]
def r_Z120_5 : List GI:=[gt 12 4,gd 13 .add 12 1,gt 4 13]
def r_Z120_6 : List GI:=[gt 22 3,gt 2 22]
def dc_Z120 : DC:=.seq (.z r_Z120_0) (.seq (.z r_Z120_1) (.seq (.seq (.z r_Z120_2) (.block 0 (.loop (.seq (.seq (.z r_Z120_3) (.cond (.t 11) .skip (.exit 0))) (.seq (.block 1 (.z r_Z120_4)) (.z r_Z120_5)))))) (.seq (.z r_Z120_6) .ret)))
theorem c_Z120 : cfun Tryz.prog [] 13 = some (23,dc_Z120,[(Res.tmp 2)]):=by kernel_rfl
def r_Z155_0 : List GI:=[gi 4 (.mov 4 (.k (.v (.bool false))))]
def r_Z155_1 : List GI:=[gt 6 0,gn 7 6,gt 8 1,gn 9 8,gb 10 .neq 7 9]
def r_Z155_2 : List GI:=[gi 4 (.mov 4 (.k (.v (.bool false))))]
def r_Z155_3 : List GI:=[gk 5 0]
def r_Z155_4 : List GI:=[gt 11 5,gt 12 0,gn 13 12,gb 14 .lss 11 13]
def r_Z155_5 : List GI:=[gt 17 0,gt 18 5,ga 19 17 18 1,gl 20 19,gt 21 1,gt 22 5,ga 23 21 22 1,gl 24 23,gb 25 .neq 20 24]
def r_Z155_6 : List GI:=[gi 4 (.mov 4 (.k (.v (.bool false))))]
def r_Z155_7 : List GI:=[gt 15 5,gd 16 .add 15 1,gt 5 16]
def r_Z155_8 : List GI:=[gi 4 (.mov 4 (.k (.v (.bool true))))]
def dc_Z155 : DC:=.seq (.z r_Z155_0) (.seq (.seq (.z r_Z155_1) (.cond (.t 10) (.seq (.z r_Z155_2) .ret) .skip)) (.seq (.seq (.z r_Z155_3) (.block 0 (.loop (.seq (.seq (.z r_Z155_4) (.cond (.t 14) .skip (.exit 0))) (.seq (.block 1 (.seq (.reg r_Z155_5 (some [0,0,3,7,0,0,48,112,255])) (.cond (.t 25) (.seq (.z r_Z155_6) .ret) .skip))) (.z r_Z155_7)))))) (.seq (.z r_Z155_8) .ret)))
theorem c_Z155 : cfun Tryz.prog [] 49 = some (26,dc_Z155,[(Res.tmp 4)]):=by kernel_rfl
def r_Z158_0 : List GI:=[gk 4 0]
def r_Z158_1 : List GI:=[gt 5 1,gt 6 0,gn 7 6,gb 8 .sub 5 7,gt 1 8]
def r_Z158_2 : List GI:=[gt 9 1,gd 10 .lss 9 0]
def r_Z158_3 : List GI:=[gi 4 (.mov 4 (.k (.v (.int .i64 (-1)))))]
def r_Z158_4 : List GI:=[gt 11 1,gt 4 11]
def dc_Z158 : DC:=.seq (.z r_Z158_0) (.seq (.z r_Z158_1) (.seq (.seq (.z r_Z158_2) (.cond (.t 10) (.seq (.z r_Z158_3) .ret) .skip)) (.seq (.z r_Z158_4) .ret)))
theorem c_Z158 : cfun Tryz.prog [] 34 = some (12,dc_Z158,[(Res.tmp 4)]):=by kernel_rfl
def r_Z161_0 : List GI:=[gi 2 (.mov 2 (.k .nul))]
def r_Z161_1 : List GI:=[gt 5 0,gn 6 5,gi 7 (.mks 7 2000007 (.t 6) 1 8 (I 0)),gt 3 7]
def r_Z161_2 : List GI:=[gk 4 0]
def r_Z161_3 : List GI:=[gt 8 4,gt 9 0,gn 10 9,gb 11 .lss 8 10]
def r_Z161_4 : List GI:=[gt 14 3,gt 15 4,gt 16 0,gt 17 4,ga 18 16 17 1,gl 19 18,ga 20 14 15 1,g0 (.sto 20 (.t 19) none)]
def r_Z161_5 : List GI:=[gt 12 4,gd 13 .add 12 1,gt 4 13]
def r_Z161_6 : List GI:=[gt 21 3,gt 2 21]
def dc_Z161 : DC:=.seq (.z r_Z161_0) (.seq (.z r_Z161_1) (.seq (.seq (.z r_Z161_2) (.block 0 (.loop (.seq (.seq (.z r_Z161_3) (.cond (.t 11) .skip (.exit 0))) (.seq (.block 1 (.z r_Z161_4)) (.z r_Z161_5)))))) (.seq (.z r_Z161_6) .ret)))
theorem c_Z161 : cfun Tryz.prog [] 41 = some (22,dc_Z161,[(Res.tmp 2)]):=by kernel_rfl
def r_Z154_0 : List GI:=[gi 2 (.box 2 2000002 (.t 0) (some 5)),gi 3 (.box 3 2000003 (.t 1) (some 5)),gi 4 (.mov 4 (.k (.v (.bool false))))]
def r_Z154_1 : List GI:=[gf 5 2 0,gl 6 5,gf 7 3 0,gl 8 7,gb 9 .neq 6 8]
def r_Z154_2 : List GI:=[gi 4 (.mov 4 (.k (.v (.bool false))))]
def r_Z154_3 : List GI:=[gf 10 2 1,gl 11 10,gf 12 3 1,gl 13 12,gb 14 .neq 11 13]
def r_Z154_4 : List GI:=[gi 4 (.mov 4 (.k (.v (.bool false))))]
def r_Z154_5 : List GI:=[gf 15 2 2,gs 16 15 2,gf 17 3 2,gs 18 17 2,gc 19 135 [.t 16,.t 18],gi 20 (.un 20 UnOp.not (.t 19))]
def r_Z154_6 : List GI:=[gi 4 (.mov 4 (.k (.v (.bool false))))]
def r_Z154_7 : List GI:=[gf 21 2 4,gl 22 21,gf 23 3 4,gl 24 23,gc 25 48 [.t 22,.t 24],gi 26 (.un 26 UnOp.not (.t 25))]
def r_Z154_8 : List GI:=[gi 4 (.mov 4 (.k (.v (.bool false))))]
def r_Z154_9 : List GI:=[gi 4 (.mov 4 (.k (.v (.bool true))))]
def dc_Z154 : DC:=.seq (.z r_Z154_0) (.seq (.seq (.z r_Z154_1) (.cond (.t 9) (.seq (.z r_Z154_2) .ret) .skip)) (.seq (.seq (.z r_Z154_3) (.cond (.t 14) (.seq (.z r_Z154_4) .ret) .skip)) (.seq (.seq (.z r_Z154_5) (.cond (.t 20) (.seq (.z r_Z154_6) .ret) .skip)) (.seq (.seq (.z r_Z154_7) (.cond (.t 26) (.seq (.z r_Z154_8) .ret) .skip)) (.seq (.z r_Z154_9) .ret)))))
theorem c_Z154 : cfun Tryz.prog [] 85 = some (27,dc_Z154,[(Res.tmp 4)]):=by kernel_rfl
end
end Go.Proofs.YtjngffbghkafaaaGreat
