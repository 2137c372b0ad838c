/-
  Functions of the program read as code on plain data. Closed facts of the program alone.
-/
import Derived.KernelRfl
import Derived.Test.YtjngffbghkafaaaGreatRows
import Derived.Test.YtjngffbghkafaaaGreatJSVGo
import Derived.Test.YtjngffbghkafaaaGreatJSVGi
namespace Go.Proofs.YtjngffbghkafaaaGreat
open Go.RowKit
noncomputable section
def r_Z136_0 : List GI:=[gi 4 (.mov 4 (.k (.v (.bool false))))]
def r_Z136_1 : List GI:=[gt 6 0,gn 7 6,gt 8 1,gn 9 8,gb 10 .neq 7 9]
def r_Z136_2 : List GI:=[gi 4 (.mov 4 (.k (.v (.bool false))))]
def r_Z136_3 : List GI:=[gk 5 0]
def r_Z136_4 : List GI:=[gt 11 5,gt 12 0,gn 13 12,gb 14 .lss 11 13]
def r_Z136_5 : List GI:=[gt 17 0,gt 18 5,ga 19 17 18 5,gs 20 19 5,gt 21 1,gt 22 5,ga 23 21 22 5,gs 24 23 5,gc 25 85 [.t 20,.t 24],gi 26 (.un 26 UnOp.not (.t 25))]
def r_Z136_6 : List GI:=[gi 4 (.mov 4 (.k (.v (.bool false))))]
def r_Z136_7 : List GI:=[gt 15 5,gd 16 .add 15 1,gt 5 16]
def r_Z136_8 : List GI:=[gi 4 (.mov 4 (.k (.v (.bool true))))]
def dc_Z136 : DC:=.seq (.z r_Z136_0) (.seq (.seq (.z r_Z136_1) (.cond (.t 10) (.seq (.z r_Z136_2) .ret) .skip)) (.seq (.seq (.z r_Z136_3) (.block 0 (.loop (.seq (.seq (.z r_Z136_4) (.cond (.t 14) .skip (.exit 0))) (.seq (.block 1 (.seq (.reg r_Z136_5 (some [0,0,3,7,0,0,48,112,255,511])) (.cond (.t 26) (.seq (.z r_Z136_6) .ret) .skip))) (.z r_Z136_7)))))) (.seq (.z r_Z136_8) .ret)))
theorem c_Z136 : cfun Tryz.prog [] 48 = some (27,dc_Z136,[(Res.tmp 4)]):=by kernel_rfl
def r_Z157_0 : List GI:=[gi 2 (.box 2 2000002 (.t 0) (some 5)),gk 4 0]
def r_Z157_1 : List GI:=[gf 5 2 4,gl 6 5,gt 7 1,gc 8 33 [.t 6,.t 7],gt 1 8]
def r_Z157_2 : List GI:=[gt 9 1,gd 10 .lss 9 0]
def r_Z157_3 : List GI:=[gi 4 (.mov 4 (.k (.v (.int .i64 (-1)))))]
def r_Z157_4 : List GI:=[gt 11 1,gt 4 11]
def dc_Z157 : DC:=.seq (.z r_Z157_0) (.seq (.z r_Z157_1) (.seq (.seq (.z r_Z157_2) (.cond (.t 10) (.seq (.z r_Z157_3) .ret) .skip)) (.seq (.z r_Z157_4) .ret)))
theorem c_Z157 : cfun Tryz.prog [] 74 = some (12,dc_Z157,[(Res.tmp 4)]):=by kernel_rfl
def r_Z140_0 : List GI:=[gk 4 0]
def r_Z140_1 : List GI:=[gt 6 1,gt 7 0,gn 8 7,gb 9 .sub 6 8,gt 1 9]
def r_Z140_2 : List GI:=[gt 10 1,gd 11 .lss 10 0]
def r_Z140_3 : List GI:=[gi 4 (.mov 4 (.k (.v (.int .i64 (-1)))))]
def r_Z140_4 : List GI:=[gk 5 0]
def r_Z140_5 : List GI:=[gt 12 5,gt 13 0,gn 14 13,gb 15 .lss 12 14]
def r_Z140_6 : List GI:=[gt 18 0,gt 19 5,ga 20 18 19 5,gs 21 20 5,gt 22 1,gc 23 74 [.t 21,.t 22],gt 1 23]
def r_Z140_7 : List GI:=[gt 24 1,gd 25 .lss 24 0]
def r_Z140_8 : List GI:=[gi 4 (.mov 4 (.k (.v (.int .i64 (-1)))))]
def r_Z140_9 : List GI:=[gt 16 5,gd 17 .add 16 1,gt 5 17]
def r_Z140_10 : List GI:=[gt 26 1,gt 4 26]
def dc_Z140 : DC:=.seq (.z r_Z140_0) (.seq (.z r_Z140_1) (.seq (.seq (.z r_Z140_2) (.cond (.t 11) (.seq (.z r_Z140_3) .ret) .skip)) (.seq (.seq (.z r_Z140_4) (.block 0 (.loop (.seq (.seq (.z r_Z140_5) (.cond (.t 15) .skip (.exit 0))) (.seq (.block 1 (.seq (.z r_Z140_6) (.seq (.z r_Z140_7) (.cond (.t 25) (.seq (.z r_Z140_8) .ret) .skip)))) (.z r_Z140_9)))))) (.seq (.z r_Z140_10) .ret))))
theorem c_Z140 : cfun Tryz.prog [] 33 = some (27,dc_Z140,[(Res.tmp 4)]):=by kernel_rfl
def r_Z160_0 : List GI:=[gi 1 (.box 1 2000001 (.t 0) (some 5)),gi 2 (.alloc 2 2000002 [I 0,I 0,.v (.bool false),I 0,.nul])]
def r_Z160_1 : List GI:=[gi 3 (.alloc 3 2000003 [I 0,I 0,.v (.bool false),I 0,.nul])]
def r_Z160_2 : List GI:=[gf 4 1 0,gl 5 4,gf 6 3 0,g0 (.sto 6 (.t 5) none)]
def r_Z160_3 : List GI:=[gf 7 1 1,gl 8 7,gf 9 3 1,g0 (.sto 9 (.t 8) none)]
def r_Z160_4 : List GI:=[gf 10 1 2,gs 11 10 2,gc 12 130 [.t 11],gf 13 3 2,g0 (.sto 13 (.t 12) (some 2))]
def r_Z160_5 : List GI:=[gf 14 1 4,gl 15 14,gc 16 40 [.t 15],gf 17 3 4,g0 (.sto 17 (.t 16) none)]
def r_Z160_6 : List GI:=[gs 18 3 5,g0 (.sto 2 (.t 18) (some 5))]
def dc_Z160 : DC:=.seq (.z r_Z160_0) (.seq (.z r_Z160_1) (.seq (.z r_Z160_2) (.seq (.z r_Z160_3) (.seq (.z r_Z160_4) (.seq (.z r_Z160_5) (.seq (.z r_Z160_6) .ret))))))
theorem c_Z160 : cfun Tryz.prog [] 79 = some (19,dc_Z160,[(Res.cell 2 (some 5))]):=by kernel_rfl
def r_Z143_0 : List GI:=[gi 2 (.mov 2 (.k .nul))]
def r_Z143_1 : List GI:=[gt 5 0,gn 6 5,gi 7 (.mks 7 2000007 (.t 6) 5 56 (.agg [I 0,I 0,.v (.bool false),I 0,.nul])),gt 3 7]
def r_Z143_2 : List GI:=[gk 4 0]
def r_Z143_3 : List GI:=[gt 8 4,gt 9 0,gn 10 9,gb 11 .lss 8 10]
def r_Z143_4 : List GI:=[gt 14 3,gt 15 4,gt 16 0,gt 17 4,ga 18 16 17 5,gs 19 18 5,gc 20 79 [.t 19],ga 21 14 15 5,g0 (.sto 21 (.t 20) (some 5))]
def r_Z143_5 : List GI:=[gt 12 4,gd 13 .add 12 1,gt 4 13]
def r_Z143_6 : List GI:=[gt 22 3,gt 2 22]
def dc_Z143 : DC:=.seq (.z r_Z143_0) (.seq (.z r_Z143_1) (.seq (.seq (.z r_Z143_2) (.block 0 (.loop (.seq (.seq (.z r_Z143_3) (.cond (.t 11) .skip (.exit 0))) (.seq (.block 1 (.z r_Z143_4)) (.z r_Z143_5)))))) (.seq (.z r_Z143_6) .ret)))
theorem c_Z143 : cfun Tryz.prog [] 40 = some (23,dc_Z143,[(Res.tmp 2)]):=by kernel_rfl
def r_Z156_0 : List GI:=[gi 2 (.box 2 2000002 (.t 0) (some 5)),gi 3 (.box 3 2000003 (.t 1) (some 5)),gi 4 (.mov 4 (.k (.v (.bool false))))]
def r_Z156_1 : List GI:=[gf 5 2 0,gl 6 5,gf 7 3 0,gl 8 7,gb 9 .neq 6 8]
def r_Z156_2 : List GI:=[gi 4 (.mov 4 (.k (.v (.bool false))))]
def r_Z156_3 : List GI:=[gf 10 2 1,gl 11 10,gf 12 3 1,gl 13 12,gb 14 .neq 11 13]
def r_Z156_4 : List GI:=[gi 4 (.mov 4 (.k (.v (.bool false))))]
def r_Z156_5 : List GI:=[gf 15 2 2,gl 16 15,gf 17 3 2,gl 18 17,gc 19 48 [.t 16,.t 18],gi 20 (.un 20 UnOp.not (.t 19))]
def r_Z156_6 : List GI:=[gi 4 (.mov 4 (.k (.v (.bool false))))]
def r_Z156_7 : List GI:=[gf 21 2 3,gl 22 21,gf 23 3 3,gl 24 23,gc 25 49 [.t 22,.t 24],gi 26 (.un 26 UnOp.not (.t 25))]
def r_Z156_8 : List GI:=[gi 4 (.mov 4 (.k (.v (.bool false))))]
def r_Z156_9 : List GI:=[gf 27 2 4,gl 28 27,gf 29 3 4,gl 30 29,gc 31 50 [.t 28,.t 30],gi 32 (.un 32 UnOp.not (.t 31))]
def r_Z156_10 : List GI:=[gi 4 (.mov 4 (.k (.v (.bool false))))]
def r_Z156_11 : List GI:=[gi 4 (.mov 4 (.k (.v (.bool true))))]
def dc_Z156 : DC:=.seq (.z r_Z156_0) (.seq (.seq (.z r_Z156_1) (.cond (.t 9) (.seq (.z r_Z156_2) .ret) .skip)) (.seq (.seq (.z r_Z156_3) (.cond (.t 14) (.seq (.z r_Z156_4) .ret) .skip)) (.seq (.seq (.z r_Z156_5) (.cond (.t 20) (.seq (.z r_Z156_6) .ret) .skip)) (.seq (.seq (.z r_Z156_7) (.cond (.t 26) (.seq (.z r_Z156_8) .ret) .skip)) (.seq (.seq (.z r_Z156_9) (.cond (.t 32) (.seq (.z r_Z156_10) .ret) .skip)) (.seq (.z r_Z156_11) .ret))))))
theorem c_Z156 : cfun Tryz.prog [] 15 = some (33,dc_Z156,[(Res.tmp 4)]):=by kernel_rfl
def r_Z137_0 : List GI:=[gi 4 (.mov 4 (.k (.v (.bool false))))]
def r_Z137_1 : List GI:=[gt 6 0,gn 7 6,gt 8 1,gn 9 8,gb 10 .neq 7 9]
def r_Z137_2 : List GI:=[gi 4 (.mov 4 (.k (.v (.bool false))))]
def r_Z137_3 : List GI:=[gk 5 0]
def r_Z137_4 : List GI:=[gt 11 5,gt 12 0,gn 13 12,gb 14 .lss 11 13]
def r_Z137_5 : List GI:=[gt 17 0,gt 18 5,ga 19 17 18 5,gs 20 19 5,gt 21 1,gt 22 5,ga 23 21 22 5,gs 24 23 5,gc 25 15 [.t 20,.t 24],gi 26 (.un 26 UnOp.not (.t 25))]
def r_Z137_6 : List GI:=[gi 4 (.mov 4 (.k (.v (.bool false))))]
def r_Z137_7 : List GI:=[gt 15 5,gd 16 .add 15 1,gt 5 16]
def r_Z137_8 : List GI:=[gi 4 (.mov 4 (.k (.v (.bool true))))]
def dc_Z137 : DC:=.seq (.z r_Z137_0) (.seq (.seq (.z r_Z137_1) (.cond (.t 10) (.seq (.z r_Z137_2) .ret) .skip)) (.seq (.seq (.z r_Z137_3) (.block 0 (.loop (.seq (.seq (.z r_Z137_4) (.cond (.t 14) .skip (.exit 0))) (.seq (.block 1 (.seq (.reg r_Z137_5 (some [0,0,3,7,0,0,48,112,255,511])) (.cond (.t 26) (.seq (.z r_Z137_6) .ret) .skip))) (.z r_Z137_7)))))) (.seq (.z r_Z137_8) .ret)))
theorem c_Z137 : cfun Tryz.prog [] 50 = some (27,dc_Z137,[(Res.tmp 4)]):=by kernel_rfl
def r_Z159_0 : List GI:=[gi 2 (.box 2 2000002 (.t 0) (some 5)),gk 4 0]
def r_Z159_1 : List GI:=[gf 5 2 2,gl 6 5,gt 7 1,gc 8 33 [.t 6,.t 7],gt 1 8]
def r_Z159_2 : List GI:=[gt 9 1,gd 10 .lss 9 0]
def r_Z159_3 : List GI:=[gi 4 (.mov 4 (.k (.v (.int .i64 (-1)))))]
def r_Z159_4 : List GI:=[gf 11 2 3,gl 12 11,gt 13 1,gc 14 34 [.t 12,.t 13],gt 1 14]
def r_Z159_5 : List GI:=[gt 15 1,gd 16 .lss 15 0]
def r_Z159_6 : List GI:=[gi 4 (.mov 4 (.k (.v (.int .i64 (-1)))))]
def r_Z159_7 : List GI:=[gf 17 2 4,gl 18 17,gt 19 1,gc 20 35 [.t 18,.t 19],gt 1 20]
def r_Z159_8 : List GI:=[gt 21 1,gd 22 .lss 21 0]
def r_Z159_9 : List GI:=[gi 4 (.mov 4 (.k (.v (.int .i64 (-1)))))]
def r_Z159_10 : List GI:=[gt 23 1,gt 4 23]
def dc_Z159 : DC:=.seq (.z r_Z159_0) (.seq (.z r_Z159_1) (.seq (.seq (.z r_Z159_2) (.cond (.t 10) (.seq (.z r_Z159_3) .ret) .skip)) (.seq (.z r_Z159_4) (.seq (.seq (.z r_Z159_5) (.cond (.t 16) (.seq (.z r_Z159_6) .ret) .skip)) (.seq (.z r_Z159_7) (.seq (.seq (.z r_Z159_8) (.cond (.t 22) (.seq (.z r_Z159_9) .ret) .skip)) (.seq (.z r_Z159_10) .ret)))))))
theorem c_Z159 : cfun Tryz.prog [] 9 = some (24,dc_Z159,[(Res.tmp 4)]):=by kernel_rfl
def r_Z141_0 : List GI:=[gk 4 0]
def r_Z141_1 : List GI:=[gt 6 1,gt 7 0,gn 8 7,gb 9 .sub 6 8,gt 1 9]
def r_Z141_2 : List GI:=[gt 10 1,gd 11 .lss 10 0]
def r_Z141_3 : List GI:=[gi 4 (.mov 4 (.k (.v (.int .i64 (-1)))))]
def r_Z141_4 : List GI:=[gk 5 0]
def r_Z141_5 : List GI:=[gt 12 5,gt 13 0,gn 14 13,gb 15 .lss 12 14]
def r_Z141_6 : List GI:=[gt 18 0,gt 19 5,ga 20 18 19 5,gs 21 20 5,gt 22 1,gc 23 9 [.t 21,.t 22],gt 1 23]
def r_Z141_7 : List GI:=[gt 24 1,gd 25 .lss 24 0]
def r_Z141_8 : List GI:=[gi 4 (.mov 4 (.k (.v (.int .i64 (-1)))))]
def r_Z141_9 : List GI:=[gt 16 5,gd 17 .add 16 1,gt 5 17]
def r_Z141_10 : List GI:=[gt 26 1,gt 4 26]
def dc_Z141 : DC:=.seq (.z r_Z141_0) (.seq (.z r_Z141_1) (.seq (.seq (.z r_Z141_2) (.cond (.t 11) (.seq (.z r_Z141_3) .ret) .skip)) (.seq (.seq (.z r_Z141_4) (.block 0 (.loop (.seq (.seq (.z r_Z141_5) (.cond (.t 15) .skip (.exit 0))) (.seq (.block 1 (.seq (.z r_Z141_6) (.seq (.z r_Z141_7) (.cond (.t 25) (.seq (.z r_Z141_8) .ret) .skip)))) (.z r_Z141_9)))))) (.seq (.z r_Z141_10) .ret))))
theorem c_Z141 : cfun Tryz.prog [] 35 = some (27,dc_Z141,[(Res.tmp 4)]):=by kernel_rfl
def r_Z162_0 : List GI:=[gi 1 (.box 1 2000001 (.t 0) (some 5)),gi 2 (.alloc 2 2000002 [I 0,I 0,.nul,.nul,.nul])]
def r_Z162_1 : List GI:=[gi 3 (.alloc 3 2000003 [I 0,I 0,.nul,.nul,.nul])]
def r_Z162_2 : List GI:=[gf 4 1 0,gl 5 4,gf 6 3 0,g0 (.sto 6 (.t 5) none)]
def r_Z162_3 : List GI:=[gf 7 1 1,gl 8 7,gf 9 3 1,g0 (.sto 9 (.t 8) none)]
def r_Z162_4 : List GI:=[gf 10 1 2,gl 11 10,gc 12 40 [.t 11],gf 13 3 2,g0 (.sto 13 (.t 12) none)]
def r_Z162_5 : List GI:=[gf 14 1 3,gl 15 14,gc 16 41 [.t 15],gf 17 3 3,g0 (.sto 17 (.t 16) none)]
def r_Z162_6 : List GI:=[gf 18 1 4,gl 19 18,gc 20 42 [.t 19],gf 21 3 4,g0 (.sto 21 (.t 20) none)]
def r_Z162_7 : List GI:=[gs 22 3 5,g0 (.sto 2 (.t 22) (some 5))]
def dc_Z162 : DC:=.seq (.z r_Z162_0) (.seq (.z r_Z162_1) (.seq (.z r_Z162_2) (.seq (.z r_Z162_3) (.seq (.z r_Z162_4) (.seq (.z r_Z162_5) (.seq (.z r_Z162_6) (.seq (.z r_Z162_7) .ret)))))))
theorem c_Z162 : cfun Tryz.prog [] 12 = some (23,dc_Z162,[(Res.cell 2 (some 5))]):=by kernel_rfl
def r_Z144_0 : List GI:=[gi 2 (.mov 2 (.k .nul))]
def r_Z144_1 : List GI:=[gt 5 0,gn 6 5,gi 7 (.mks 7 2000007 (.t 6) 5 88 (.agg [I 0,I 0,.nul,.nul,.nul])),gt 3 7]
def r_Z144_2 : List GI:=[gk 4 0]
def r_Z144_3 : List GI:=[gt 8 4,gt 9 0,gn 10 9,gb 11 .lss 8 10]
def r_Z144_4 : List GI:=[gt 14 3,gt 15 4,gt 16 0,gt 17 4,ga 18 16 17 5,gs 19 18 5,gc 20 12 [.t 19],ga 21 14 15 5,g0 (.sto 21 (.t 20) (some 5))]
def r_Z144_5 : List GI:=[gt 12 4,gd 13 .add 12 1,gt 4 13]
def r_Z144_6 : List GI:=[gt 22 3,gt 2 22]
def dc_Z144 : DC:=.seq (.z r_Z144_0) (.seq (.z r_Z144_1) (.seq (.seq (.z r_Z144_2) (.block 0 (.loop (.seq (.seq (.z r_Z144_3) (.cond (.t 11) .skip (.exit 0))) (.seq (.block 1 (.z r_Z144_4)) (.z r_Z144_5)))))) (.seq (.z r_Z144_6) .ret)))
theorem c_Z144 : cfun Tryz.prog [] 42 = some (23,dc_Z144,[(Res.tmp 2)]):=by kernel_rfl
end
end Go.Proofs.YtjngffbghkafaaaGreat
