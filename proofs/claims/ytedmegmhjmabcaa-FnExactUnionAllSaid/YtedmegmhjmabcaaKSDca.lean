/-
  Functions of the program read as code on plain data. Closed facts of the program alone.
-/
import Derived.KernelRfl
import Derived.Test.YtedmegmhjmabcaaRows
import Derived.Test.YtedmegmhjmabcaaJSVLib
import Derived.Test.YtedmegmhjmabcaaJSVTbD
namespace Go.Proofs.Ytedmegmhjmabcaa
open Go.RowKit
noncomputable section
theorem mixed : Try.prog.follows .mixedOrders = true:=by kernel_rfl
def r_Z39_0 : List GI:=[gi 2 (.box 2 2000002 (.t 0) (some 2)),gi 3 (.box 3 2000003 (.t 1) (some 2)),gi 4 (.mov 4 (.k (.v (.bool false))))]
def r_Z39_1 : List GI:=[gf 5 2 0,gl 6 5,gf 7 3 0,gl 8 7,gi 9 (.beq 9 true (.t 6) (.t 8))]
def r_Z39_2 : List GI:=[gi 4 (.mov 4 (.k (.v (.bool false))))]
def r_Z39_3 : List GI:=[gf 10 2 1,gl 11 10,gf 12 3 1,gl 13 12,gb 14 .neq 11 13]
def r_Z39_4 : List GI:=[gi 4 (.mov 4 (.k (.v (.bool false))))]
def r_Z39_5 : List GI:=[gi 4 (.mov 4 (.k (.v (.bool true))))]
def dc_Z39 : DC:=.seq (.z r_Z39_0) (.seq (.seq (.z r_Z39_1) (.cond (.t 9) (.seq (.z r_Z39_2) .ret) .skip)) (.seq (.seq (.z r_Z39_3) (.cond (.t 14) (.seq (.z r_Z39_4) .ret) .skip)) (.seq (.z r_Z39_5) .ret)))
theorem c_Z39 : cfun Try.prog [] 108 = some (15,dc_Z39,[(Res.tmp 4)]):=by kernel_rfl
def r_Z42_0 : List GI:=[gi 1 (.box 1 2000001 (.t 0) (some 2)),gi 2 (.alloc 2 2000002 [.v (.bool false),I 0])]
def r_Z42_1 : List GI:=[gi 3 (.alloc 3 2000003 [.v (.bool false),I 0])]
def r_Z42_2 : List GI:=[gf 4 1 0,gl 5 4,gf 6 3 0,g0 (.sto 6 (.t 5) none)]
def r_Z42_3 : List GI:=[gf 7 1 1,gl 8 7,gf 9 3 1,g0 (.sto 9 (.t 8) none)]
def r_Z42_4 : List GI:=[gs 10 3 2,g0 (.sto 2 (.t 10) (some 2))]
def dc_Z42 : DC:=.seq (.z r_Z42_0) (.seq (.z r_Z42_1) (.seq (.z r_Z42_2) (.seq (.z r_Z42_3) (.seq (.z r_Z42_4) .ret))))
theorem c_Z42 : cfun Try.prog [] 125 = some (11,dc_Z42,[(Res.cell 2 (some 2))]):=by kernel_rfl
def r_Z38_0 : List GI:=[gi 2 (.box 2 2000002 (.t 0) (some 2)),gi 3 (.box 3 2000003 (.t 1) (some 2)),gi 4 (.mov 4 (.k (.v (.bool false))))]
def r_Z38_1 : List GI:=[gf 5 2 0,gl 6 5,gf 7 3 0,gl 8 7,gb 9 .neq 6 8]
def r_Z38_2 : List GI:=[gi 4 (.mov 4 (.k (.v (.bool false))))]
def r_Z38_3 : List GI:=[gf 10 2 1,gl 11 10,gf 12 3 1,gl 13 12,gc 14 32 [.t 11,.t 13],gi 15 (.un 15 UnOp.not (.t 14))]
def r_Z38_4 : List GI:=[gi 4 (.mov 4 (.k (.v (.bool false))))]
def r_Z38_5 : List GI:=[gi 4 (.mov 4 (.k (.v (.bool true))))]
def dc_Z38 : DC:=.seq (.z r_Z38_0) (.seq (.seq (.z r_Z38_1) (.cond (.t 9) (.seq (.z r_Z38_2) .ret) .skip)) (.seq (.seq (.z r_Z38_3) (.cond (.t 15) (.seq (.z r_Z38_4) .ret) .skip)) (.seq (.z r_Z38_5) .ret)))
theorem c_Z38 : cfun Try.prog [] 20 = some (16,dc_Z38,[(Res.tmp 4)]):=by kernel_rfl
def r_Z32_0 : List GI:=[gi 4 (.mov 4 (.k (.v (.bool false))))]
def r_Z32_1 : List GI:=[gt 6 0,gn 7 6,gt 8 1,gn 9 8,gb 10 .neq 7 9]
def r_Z32_2 : List GI:=[gi 4 (.mov 4 (.k (.v (.bool false))))]
def r_Z32_3 : List GI:=[gk 5 0]
def r_Z32_4 : List GI:=[gt 11 5,gt 12 0,gn 13 12,gb 14 .lss 11 13]
def r_Z32_5 : List GI:=[gt 17 0,gt 18 5,ga 19 17 18 2,gs 20 19 2,gt 21 1,gt 22 5,ga 23 21 22 2,gs 24 23 2,gc 25 108 [.t 20,.t 24],gi 26 (.un 26 UnOp.not (.t 25))]
def r_Z32_6 : List GI:=[gi 4 (.mov 4 (.k (.v (.bool false))))]
def r_Z32_7 : List GI:=[gt 15 5,gd 16 .add 15 1,gt 5 16]
def r_Z32_8 : List GI:=[gi 4 (.mov 4 (.k (.v (.bool true))))]
def dc_Z32 : DC:=.seq (.z r_Z32_0) (.seq (.seq (.z r_Z32_1) (.cond (.t 10) (.seq (.z r_Z32_2) .ret) .skip)) (.seq (.seq (.z r_Z32_3) (.block 0 (.loop (.seq (.seq (.z r_Z32_4) (.cond (.t 14) .skip (.exit 0))) (.seq (.block 1 (.seq (.reg r_Z32_5 (some [0,0,3,7,0,0,48,112,255,511])) (.cond (.t 26) (.seq (.z r_Z32_6) .ret) .skip))) (.z r_Z32_7)))))) (.seq (.z r_Z32_8) .ret)))
theorem c_Z32 : cfun Try.prog [] 71 = some (27,dc_Z32,[(Res.tmp 4)]):=by kernel_rfl
def r_Z24_0 : List GI:=[gi 4 (.mov 4 (.k (.v (.bool false))))]
def r_Z24_1 : List GI:=[gt 6 0,gn 7 6,gt 8 1,gn 9 8,gb 10 .neq 7 9]
def r_Z24_2 : List GI:=[gi 4 (.mov 4 (.k (.v (.bool false))))]
def r_Z24_3 : List GI:=[gk 5 0]
def r_Z24_4 : List GI:=[gt 11 5,gt 12 0,gn 13 12,gb 14 .lss 11 13]
def r_Z24_5 : List GI:=[gt 17 0,gt 18 5,ga 19 17 18 1,gl 20 19,gt 21 1,gt 22 5,ga 23 21 22 1,gl 24 23,gc 25 71 [.t 20,.t 24],gi 26 (.un 26 UnOp.not (.t 25))]
def r_Z24_6 : List GI:=[gi 4 (.mov 4 (.k (.v (.bool false))))]
def r_Z24_7 : List GI:=[gt 15 5,gd 16 .add 15 1,gt 5 16]
def r_Z24_8 : List GI:=[gi 4 (.mov 4 (.k (.v (.bool true))))]
def dc_Z24 : DC:=.seq (.z r_Z24_0) (.seq (.seq (.z r_Z24_1) (.cond (.t 10) (.seq (.z r_Z24_2) .ret) .skip)) (.seq (.seq (.z r_Z24_3) (.block 0 (.loop (.seq (.seq (.z r_Z24_4) (.cond (.t 14) .skip (.exit 0))) (.seq (.block 1 (.seq (.reg r_Z24_5 (some [0,0,3,7,0,0,48,112,255,511])) (.cond (.t 26) (.seq (.z r_Z24_6) .ret) .skip))) (.z r_Z24_7)))))) (.seq (.z r_Z24_8) .ret)))
theorem c_Z24 : cfun Try.prog [] 32 = some (27,dc_Z24,[(Res.tmp 4)]):=by kernel_rfl
def r_Z40_0 : List GI:=[gi 2 (.box 2 2000002 (.t 0) (some 2)),gk 4 0]
def r_Z40_1 : List GI:=[gf 5 2 1,gl 6 5,gt 7 1,gc 8 49 [.t 6,.t 7],gt 1 8]
def r_Z40_2 : List GI:=[gt 9 1,gd 10 .lss 9 0]
def r_Z40_3 : List GI:=[gi 4 (.mov 4 (.k (.v (.int .i64 (-1)))))]
def r_Z40_4 : List GI:=[gt 11 1,gt 4 11]
def dc_Z40 : DC:=.seq (.z r_Z40_0) (.seq (.z r_Z40_1) (.seq (.seq (.z r_Z40_2) (.cond (.t 10) (.seq (.z r_Z40_3) .ret) .skip)) (.seq (.z r_Z40_4) .ret)))
theorem c_Z40 : cfun Try.prog [] 15 = some (12,dc_Z40,[(Res.tmp 4)]):=by kernel_rfl
def r_Z33_0 : List GI:=[gk 4 0]
def r_Z33_1 : List GI:=[gt 5 1,gt 6 0,gn 7 6,gb 8 .sub 5 7,gt 1 8]
def r_Z33_2 : List GI:=[gt 9 1,gd 10 .lss 9 0]
def r_Z33_3 : List GI:=[gi 4 (.mov 4 (.k (.v (.int .i64 (-1)))))]
def r_Z33_4 : List GI:=[gt 11 1,gt 4 11]
def dc_Z33 : DC:=.seq (.z r_Z33_0) (.seq (.z r_Z33_1) (.seq (.seq (.z r_Z33_2) (.cond (.t 10) (.seq (.z r_Z33_3) .ret) .skip)) (.seq (.z r_Z33_4) .ret)))
theorem c_Z33 : cfun Try.prog [] 91 = some (12,dc_Z33,[(Res.tmp 4)]):=by kernel_rfl
def r_Z27_0 : List GI:=[gk 4 0]
def r_Z27_1 : List GI:=[gt 6 1,gt 7 0,gn 8 7,gb 9 .sub 6 8,gt 1 9]
def r_Z27_2 : List GI:=[gt 10 1,gd 11 .lss 10 0]
def r_Z27_3 : List GI:=[gi 4 (.mov 4 (.k (.v (.int .i64 (-1)))))]
def r_Z27_4 : List GI:=[gk 5 0]
def r_Z27_5 : List GI:=[gt 12 5,gt 13 0,gn 14 13,gb 15 .lss 12 14]
def r_Z27_6 : List GI:=[gt 18 0,gt 19 5,ga 20 18 19 1,gl 21 20,gt 22 1,gc 23 91 [.t 21,.t 22],gt 1 23]
def r_Z27_7 : List GI:=[gt 24 1,gd 25 .lss 24 0]
def r_Z27_8 : List GI:=[gi 4 (.mov 4 (.k (.v (.int .i64 (-1)))))]
def r_Z27_9 : List GI:=[gt 16 5,gd 17 .add 16 1,gt 5 17]
def r_Z27_10 : List GI:=[gt 26 1,gt 4 26]
def dc_Z27 : DC:=.seq (.z r_Z27_0) (.seq (.z r_Z27_1) (.seq (.seq (.z r_Z27_2) (.cond (.t 11) (.seq (.z r_Z27_3) .ret) .skip)) (.seq (.seq (.z r_Z27_4) (.block 0 (.loop (.seq (.seq (.z r_Z27_5) (.cond (.t 15) .skip (.exit 0))) (.seq (.block 1 (.seq (.z r_Z27_6) (.seq (.z r_Z27_7) (.cond (.t 25) (.seq (.z r_Z27_8) .ret) .skip)))) (.z r_Z27_9)))))) (.seq (.z r_Z27_10) .ret))))
theorem c_Z27 : cfun Try.prog [] 49 = some (27,dc_Z27,[(Res.tmp 4)]):=by kernel_rfl
def r_Z41_0 : List GI:=[gi 1 (.box 1 2000001 (.t 0) (some 2)),gi 2 (.alloc 2 2000002 [I 0,.nul])]
def r_Z41_1 : List GI:=[gi 3 (.alloc 3 2000003 [I 0,.nul])]
def r_Z41_2 : List GI:=[gf 4 1 0,gl 5 4,gf 6 3 0,g0 (.sto 6 (.t 5) none)]
def r_Z41_3 : List GI:=[gf 7 1 1,gl 8 7,gc 9 51 [.t 8],gf 10 3 1,g0 (.sto 10 (.t 9) none)]
def r_Z41_4 : List GI:=[gs 11 3 2,g0 (.sto 2 (.t 11) (some 2))]
def dc_Z41 : DC:=.seq (.z r_Z41_0) (.seq (.z r_Z41_1) (.seq (.z r_Z41_2) (.seq (.z r_Z41_3) (.seq (.z r_Z41_4) .ret))))
theorem c_Z41 : cfun Try.prog [] 17 = some (12,dc_Z41,[(Res.cell 2 (some 2))]):=by kernel_rfl
def r_Z34_0 : List GI:=[gi 2 (.mov 2 (.k .nul))]
def r_Z34_1 : List GI:=[gt 5 0,gn 6 5,gi 7 (.mks 7 2000007 (.t 6) 2 16 (.agg [.v (.bool false),I 0])),gt 3 7]
def r_Z34_2 : List GI:=[gk 4 0]
def r_Z34_3 : List GI:=[gt 8 4,gt 9 0,gn 10 9,gb 11 .lss 8 10]
def r_Z34_4 : List GI:=[gt 14 3,gt 15 4,gt 16 0,gt 17 4,ga 18 16 17 2,gs 19 18 2,gc 20 125 [.t 19],ga 21 14 15 2,g0 (.sto 21 (.t 20) (some 2))]
def r_Z34_5 : List GI:=[gt 12 4,gd 13 .add 12 1,gt 4 13]
def r_Z34_6 : List GI:=[gt 22 3,gt 2 22]
def dc_Z34 : DC:=.seq (.z r_Z34_0) (.seq (.z r_Z34_1) (.seq (.seq (.z r_Z34_2) (.block 0 (.loop (.seq (.seq (.z r_Z34_3) (.cond (.t 11) .skip (.exit 0))) (.seq (.block 1 (.z r_Z34_4)) (.z r_Z34_5)))))) (.seq (.z r_Z34_6) .ret)))
theorem c_Z34 : cfun Try.prog [] 93 = some (23,dc_Z34,[(Res.tmp 2)]):=by kernel_rfl
def r_Z28_0 : List GI:=[gi 2 (.mov 2 (.k .nul))]
def r_Z28_1 : List GI:=[gt 5 0,gn 6 5,gi 7 (.mks 7 2000007 (.t 6) 1 24 .nul),gt 3 7]
def r_Z28_2 : List GI:=[gk 4 0]
def r_Z28_3 : List GI:=[gt 8 4,gt 9 0,gn 10 9,gb 11 .lss 8 10]
def r_Z28_4 : List GI:=[gt 14 3,gt 15 4,gt 16 0,gt 17 4,ga 18 16 17 1,gl 19 18,gc 20 93 [.t 19],ga 21 14 15 1,g0 (.sto 21 (.t 20) none)]
def r_Z28_5 : List GI:=[gt 12 4,gd 13 .add 12 1,gt 4 13]
def r_Z28_6 : List GI:=[gt 22 3,gt 2 22]
def dc_Z28 : DC:=.seq (.z r_Z28_0) (.seq (.z r_Z28_1) (.seq (.seq (.z r_Z28_2) (.block 0 (.loop (.seq (.seq (.z r_Z28_3) (.cond (.t 11) .skip (.exit 0))) (.seq (.block 1 (.z r_Z28_4)) (.z r_Z28_5)))))) (.seq (.z r_Z28_6) .ret)))
theorem c_Z28 : cfun Try.prog [] 51 = some (23,dc_Z28,[(Res.tmp 2)]):=by kernel_rfl
def r_Z25_0 : List GI:=[gi 2 (.box 2 2000002 (.t 0) (some 2)),gk 4 0]
def r_Z25_1 : List GI:=[gf 5 2 1,gl 6 5,gt 7 1,gc 8 36 [.t 6,.t 7],gt 1 8]
def r_Z25_2 : List GI:=[gt 9 1,gd 10 .lss 9 0]
def r_Z25_3 : List GI:=[gi 4 (.mov 4 (.k (.v (.int .i64 (-1)))))]
def r_Z25_4 : List GI:=[gt 11 1,gt 4 11]
def dc_Z25 : DC:=.seq (.z r_Z25_0) (.seq (.z r_Z25_1) (.seq (.seq (.z r_Z25_2) (.cond (.t 10) (.seq (.z r_Z25_3) .ret) .skip)) (.seq (.z r_Z25_4) .ret)))
theorem c_Z25 : cfun Try.prog [] 27 = some (12,dc_Z25,[(Res.tmp 4)]):=by kernel_rfl
def r_Z17_0 : List GI:=[gk 4 0]
def r_Z17_1 : List GI:=[gk 5 0]
def r_Z17_2 : List GI:=[gt 6 5,gt 7 0,gn 8 7,gb 9 .lss 6 8]
def r_Z17_3 : List GI:=[gt 12 0,gt 13 5,ga 14 12 13 2,gf 15 14 0,gl 16 15,gt 17 1,gd 18 .rem 17 3,gd 19 .eql 18 0,gi 20 (.beq 20 true (.t 16) (.t 19))]
def r_Z17_4 : List GI:=[gi 4 (.mov 4 (.k (.v (.int .i64 (-1)))))]
def r_Z17_5 : List GI:=[gt 21 1,gd 22 .add 21 1,gt 1 22]
def r_Z17_6 : List GI:=[gt 23 0,gt 24 5,ga 25 23 24 2,gf 26 25 1,gl 27 26,gt 28 1,gb 29 .neq 27 28]
def r_Z17_7 : List GI:=[gi 4 (.mov 4 (.k (.v (.int .i64 (-1)))))]
def r_Z17_8 : List GI:=[gt 30 1,gd 31 .add 30 1,gt 1 31]
def r_Z17_9 : List GI:=[gt 10 5,gd 11 .add 10 1,gt 5 11]
def r_Z17_10 : List GI:=[gt 32 1,gt 4 32]
def dc_Z17 : DC:=.seq (.z r_Z17_0) (.seq (.seq (.z r_Z17_1) (.block 0 (.loop (.seq (.seq (.z r_Z17_2) (.cond (.t 9) .skip (.exit 0))) (.seq (.block 1 (.seq (.seq (.z r_Z17_3) (.cond (.t 20) (.seq (.z r_Z17_4) .ret) .skip)) (.seq (.z r_Z17_5) (.seq (.seq (.z r_Z17_6) (.cond (.t 29) (.seq (.z r_Z17_7) .ret) .skip)) (.z r_Z17_8))))) (.z r_Z17_9)))))) (.seq (.z r_Z17_10) .ret))
theorem c_Z17 : cfun Try.prog [] 74 = some (33,dc_Z17,[(Res.tmp 4)]):=by kernel_rfl
def r_Z11_0 : List GI:=[gk 4 0]
def r_Z11_1 : List GI:=[gk 5 0]
def r_Z11_2 : List GI:=[gt 6 5,gt 7 0,gn 8 7,gb 9 .lss 6 8]
def r_Z11_3 : List GI:=[gt 12 0,gt 13 5,ga 14 12 13 1,gl 15 14,gt 16 1,gc 17 74 [.t 15,.t 16],gt 1 17]
def r_Z11_4 : List GI:=[gt 18 1,gd 19 .lss 18 0]
def r_Z11_5 : List GI:=[gi 4 (.mov 4 (.k (.v (.int .i64 (-1)))))]
def r_Z11_6 : List GI:=[gt 10 5,gd 11 .add 10 1,gt 5 11]
def r_Z11_7 : List GI:=[gt 20 1,gt 4 20]
def dc_Z11 : DC:=.seq (.z r_Z11_0) (.seq (.seq (.z r_Z11_1) (.block 0 (.loop (.seq (.seq (.z r_Z11_2) (.cond (.t 9) .skip (.exit 0))) (.seq (.block 1 (.seq (.z r_Z11_3) (.seq (.z r_Z11_4) (.cond (.t 19) (.seq (.z r_Z11_5) .ret) .skip)))) (.z r_Z11_6)))))) (.seq (.z r_Z11_7) .ret))
theorem c_Z11 : cfun Try.prog [] 36 = some (21,dc_Z11,[(Res.tmp 4)]):=by kernel_rfl
def r_Z26_0 : List GI:=[gi 2 (.box 2 2000002 (.t 0) (some 2)),gk 4 0]
def r_Z26_1 : List GI:=[gf 5 2 1,gl 6 5,gt 7 1,gc 8 35 [.t 6,.t 7],gt 1 8]
def r_Z26_2 : List GI:=[gt 9 1,gt 4 9]
def dc_Z26 : DC:=.seq (.z r_Z26_0) (.seq (.z r_Z26_1) (.seq (.z r_Z26_2) .ret))
theorem c_Z26 : cfun Try.prog [] 21 = some (10,dc_Z26,[(Res.tmp 4)]):=by kernel_rfl
def r_Z18_0 : List GI:=[gk 4 0]
def r_Z18_1 : List GI:=[gk 5 0]
def r_Z18_2 : List GI:=[gt 6 5,gt 7 0,gn 8 7,gb 9 .lss 6 8]
def r_Z18_3 : List GI:=[gt 12 0,gt 13 5,gt 14 1,gd 15 .rem 14 3,gd 16 .eql 15 0,ga 17 12 13 2,gf 18 17 0,g0 (.sto 18 (.t 16) none)]
def r_Z18_4 : List GI:=[gt 19 1,gd 20 .add 19 1,gt 1 20]
def r_Z18_5 : List GI:=[gt 21 0,gt 22 5,gt 23 1,ga 24 21 22 2,gf 25 24 1,g0 (.sto 25 (.t 23) none)]
def r_Z18_6 : List GI:=[gt 26 1,gd 27 .add 26 1,gt 1 27]
def r_Z18_7 : List GI:=[gt 10 5,gd 11 .add 10 1,gt 5 11]
def r_Z18_8 : List GI:=[gt 28 1,gt 4 28]
def dc_Z18 : DC:=.seq (.z r_Z18_0) (.seq (.seq (.z r_Z18_1) (.block 0 (.loop (.seq (.seq (.z r_Z18_2) (.cond (.t 9) .skip (.exit 0))) (.seq (.block 1 (.seq (.z r_Z18_3) (.seq (.z r_Z18_4) (.seq (.z r_Z18_5) (.z r_Z18_6))))) (.z r_Z18_7)))))) (.seq (.z r_Z18_8) .ret))
theorem c_Z18 : cfun Try.prog [] 73 = some (29,dc_Z18,[(Res.tmp 4)]):=by kernel_rfl
def r_Z12_0 : List GI:=[gk 4 0]
def r_Z12_1 : List GI:=[gk 5 0]
def r_Z12_2 : List GI:=[gt 6 5,gt 7 0,gn 8 7,gb 9 .lss 6 8]
def r_Z12_3 : List GI:=[gt 12 0,gt 13 5,ga 14 12 13 1,gl 15 14,gt 16 1,gc 17 73 [.t 15,.t 16],gt 1 17]
def r_Z12_4 : List GI:=[gt 10 5,gd 11 .add 10 1,gt 5 11]
def r_Z12_5 : List GI:=[gt 18 1,gt 4 18]
def dc_Z12 : DC:=.seq (.z r_Z12_0) (.seq (.seq (.z r_Z12_1) (.block 0 (.loop (.seq (.seq (.z r_Z12_2) (.cond (.t 9) .skip (.exit 0))) (.seq (.block 1 (.z r_Z12_3)) (.z r_Z12_4)))))) (.seq (.z r_Z12_5) .ret))
theorem c_Z12 : cfun Try.prog [] 35 = some (19,dc_Z12,[(Res.tmp 4)]):=by kernel_rfl
end
end Go.Proofs.Ytedmegmhjmabcaa
