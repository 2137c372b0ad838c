/-
  Functions of the program read as code on plain data. Closed facts of the program alone.
-/
import Derived.KernelRfl
import Derived.Test.YtclkehekhdfnnaaRows
import Derived.Test.YtclkehekhdfnnaaJSVLib
import Derived.Test.YtclkehekhdfnnaaKSVGi
namespace Go.Proofs.Ytclkehekhdfnnaa
open Go.RowKit
noncomputable section
theorem mixed : Try.prog.follows .mixedOrders = true:=by kernel_rfl
def r_Z5_0 : List GI:=[gi 2 (.mov 2 (.k .nul))]
def r_Z5_1 : List GI:=[gt 3 0,gt 4 0,gi 5 (.nilc 5 4),gf 6 5 4,gl 7 6,gc 8 54 [.t 7],gi 9 (.nilc 9 3),gf 10 9 4,g0 (.sto 10 (.t 8) none)]
def r_Z5_2 : List GI:=[gt 11 0,gi 12 (.nilc 12 11),gf 13 12 4,gl 14 13,gt 2 14]
def dc_Z5 : DC:=.seq (.z r_Z5_0) (.seq (.z r_Z5_1) (.seq (.z r_Z5_2) .ret))
theorem c_Z5 : cfun Try.prog [] 53 = some (15,dc_Z5,[(Res.tmp 2)]):=by kernel_rfl
def r_Z0_0 : List GI:=[gi 2 (.mov 2 (.k .nul))]
def r_Z0_1 : List GI:=[gt 3 0,gi 4 (.isn 4 false (.t 3))]
def r_Z0_2 : List GI:=[gi 2 (.mov 2 (.k .nul))]
def r_Z0_3 : List GI:=[gi 5 (.mov 5 (.k .nul)),gt 6 0,gi 7 (.app 7 2000007 (.t 5) (.t 6) 5 56),gt 2 7]
def dc_Z0 : DC:=.seq (.z r_Z0_0) (.seq (.seq (.z r_Z0_1) (.cond (.t 4) (.seq (.z r_Z0_2) .ret) .skip)) (.seq (.z r_Z0_3) .ret))
theorem c_Z0 : cfun Try.prog [] 54 = some (8,dc_Z0,[(Res.tmp 2)]):=by kernel_rfl
def r_Z10_0 : List GI:=[gi 1 (.box 1 2000001 (.t 0) (some 5)),gi 2 (.alloc 2 2000002 [I 0,I 0,.v (.bool false),I 0,.nul])]
def r_Z10_1 : List GI:=[gs 3 1 5,⟨.call 4 52 [.t 3,.k (.fn 53 [])],some 4,none,true⟩,g0 (.sto 2 (.t 4) (some 5))]
def dc_Z10 : DC:=.seq (.z r_Z10_0) (.seq (.z r_Z10_1) .ret)
theorem c_Z10 : cfun Try.prog [] 39 = some (5,dc_Z10,[(Res.cell 2 (some 5))]):=by kernel_rfl
def r_Z1_0 : List GI:=[gi 2 (.box 2 2000002 (.t 0) (some 5)),gi 4 (.alloc 4 2000004 [I 0,I 0,.v (.bool false),I 0,.nul])]
def r_Z1_1 : List GI:=[gi 9 (.bslx 9 2000009 1 none [.v (.pointer none)] [(0,.t 2)]),gt 5 9]
def r_Z1_2 : List GI:=[gt 10 5,gn 11 10,gd 12 .gtr 11 0]
def r_Z1_3 : List GI:=[gt 13 5,gt 14 5,gn 15 14,gd 16 .sub 15 1,ga 17 13 16 1,gl 18 17,gt 6 18]
def r_Z1_4 : List GI:=[gt 19 5,gt 20 5,gn 21 20,gd 22 .sub 21 1,gi 23 (.slc 23 (.t 19) none (some (.t 22)) 1),gt 5 23]
def r_Z1_5 : List GI:=[gt 24 1,gt 25 6,⟨.cal 26 (.t 24) [.t 25],some 26,none,true⟩,gt 7 26]
def r_Z1_6 : List GI:=[gt 27 7,gn 28 27,gk 29 0]
def r_Z1_7 : List GI:=[gb 30 .lss 29 28]
def r_Z1_8 : List GI:=[gt 31 29,gt 8 31]
def r_Z1_9 : List GI:=[gt 32 5,gt 33 7,gt 34 8,ga 35 33 34 5,gi 36 (.bslx 36 2000036 1 none [.v (.pointer none)] [(0,.t 35)]),gi 37 (.app 37 2000037 (.t 32) (.t 36) 1 8),gt 5 37]
def r_Z1_10 : List GI:=[gd 38 .add 29 1,gt 29 38]
def r_Z1_11 : List GI:=[gs 39 2 5,g0 (.sto 4 (.t 39) (some 5))]
def dc_Z1 : DC:=.seq (.z r_Z1_0) (.seq (.seq (.z r_Z1_1) (.block 0 (.loop (.seq (.seq (.z r_Z1_2) (.cond (.t 12) .skip (.exit 0))) (.block 1 (.seq (.z r_Z1_3) (.seq (.z r_Z1_4) (.seq (.z r_Z1_5) (.seq (.z r_Z1_6) (.block 2 (.loop (.seq (.z r_Z1_7) (.seq (.cond (.t 30) .skip (.exit 2)) (.seq (.block 3 (.seq (.z r_Z1_8) (.z r_Z1_9))) (.z r_Z1_10))))))))))))))) (.seq (.z r_Z1_11) .ret))
theorem c_Z1 : cfun Try.prog [9,36] 52 = some (40,dc_Z1,[(Res.cell 4 (some 5))]):=by kernel_rfl
def r_Z23_0 : List GI:=[gi 2 (.box 2 2000002 (.t 0) (some 2)),gi 3 (.box 3 2000003 (.t 1) (some 2)),gi 4 (.mov 4 (.k (.v (.bool false))))]
def r_Z23_1 : List GI:=[gf 5 2 0,gl 6 5,gf 7 3 0,gl 8 7,gi 9 (.beq 9 true (.t 6) (.t 8))]
def r_Z23_2 : List GI:=[gi 4 (.mov 4 (.k (.v (.bool false))))]
def r_Z23_3 : List GI:=[gf 10 2 1,gl 11 10,gf 12 3 1,gl 13 12,gb 14 .neq 11 13]
def r_Z23_4 : List GI:=[gi 4 (.mov 4 (.k (.v (.bool false))))]
def r_Z23_5 : List GI:=[gi 4 (.mov 4 (.k (.v (.bool true))))]
def dc_Z23 : DC:=.seq (.z r_Z23_0) (.seq (.seq (.z r_Z23_1) (.cond (.t 9) (.seq (.z r_Z23_2) .ret) .skip)) (.seq (.seq (.z r_Z23_3) (.cond (.t 14) (.seq (.z r_Z23_4) .ret) .skip)) (.seq (.z r_Z23_5) .ret)))
theorem c_Z23 : cfun Try.prog [] 36 = some (15,dc_Z23,[(Res.tmp 4)]):=by kernel_rfl
def r_Z26_0 : List GI:=[gi 1 (.box 1 2000001 (.t 0) (some 2)),gi 2 (.alloc 2 2000002 [.v (.bool false),I 0])]
def r_Z26_1 : List GI:=[gi 3 (.alloc 3 2000003 [.v (.bool false),I 0])]
def r_Z26_2 : List GI:=[gf 4 1 0,gl 5 4,gf 6 3 0,g0 (.sto 6 (.t 5) none)]
def r_Z26_3 : List GI:=[gf 7 1 1,gl 8 7,gf 9 3 1,g0 (.sto 9 (.t 8) none)]
def r_Z26_4 : List GI:=[gs 10 3 2,g0 (.sto 2 (.t 10) (some 2))]
def dc_Z26 : DC:=.seq (.z r_Z26_0) (.seq (.z r_Z26_1) (.seq (.z r_Z26_2) (.seq (.z r_Z26_3) (.seq (.z r_Z26_4) .ret))))
theorem c_Z26 : cfun Try.prog [] 33 = some (11,dc_Z26,[(Res.cell 2 (some 2))]):=by kernel_rfl
def r_Z33_0 : List GI:=[gk 2 0]
def r_Z33_1 : List GI:=[gt 3 0]
def r_Z33_2 : List GI:=[gd 5 .eql 3 1,gt 4 5]
def r_Z33_3 : List GI:=[gd 6 .eql 3 2,gt 4 6]
def r_Z33_4 : List GI:=[gk 2 0]
def r_Z33_5 : List GI:=[gd 8 .eql 3 10,gt 7 8]
def r_Z33_6 : List GI:=[gd 9 .eql 3 11,gt 7 9]
def r_Z33_7 : List GI:=[gk 2 1]
def r_Z33_8 : List GI:=[gd 11 .eql 3 3,gt 10 11]
def r_Z33_9 : List GI:=[gd 12 .eql 3 4,gt 10 12]
def r_Z33_10 : List GI:=[gd 13 .eql 3 5,gt 10 13]
def r_Z33_11 : List GI:=[gd 14 .eql 3 6,gt 10 14]
def r_Z33_12 : List GI:=[gd 15 .eql 3 7,gt 10 15]
def r_Z33_13 : List GI:=[gd 16 .eql 3 8,gt 10 16]
def r_Z33_14 : List GI:=[gd 17 .eql 3 9,gt 10 17]
def r_Z33_15 : List GI:=[gk 2 2]
def r_Z33_16 : List GI:=[gi 2 (.mov 2 (.k (.v (.int .i64 (-1)))))]
def dc_Z33 : DC:=.seq (.z r_Z33_0) (.seq (.seq (.z r_Z33_1) (.block 0 (.seq (.seq (.z r_Z33_2) (.cond (.t 4) .skip (.z r_Z33_3))) (.cond (.t 4) (.seq (.z r_Z33_4) .ret) (.seq (.seq (.z r_Z33_5) (.cond (.t 7) .skip (.z r_Z33_6))) (.cond (.t 7) (.seq (.z r_Z33_7) .ret) (.seq (.seq (.z r_Z33_8) (.cond (.t 10) .skip (.seq (.z r_Z33_9) (.cond (.t 10) .skip (.seq (.z r_Z33_10) (.cond (.t 10) .skip (.seq (.z r_Z33_11) (.cond (.t 10) .skip (.seq (.z r_Z33_12) (.cond (.t 10) .skip (.seq (.z r_Z33_13) (.cond (.t 10) .skip (.z r_Z33_14))))))))))))) (.cond (.t 10) (.seq (.z r_Z33_15) .ret) .skip)))))))) (.seq (.z r_Z33_16) .ret))
theorem c_Z33 : cfun Try.prog [] 57 = some (18,dc_Z33,[(Res.tmp 2)]):=by kernel_rfl
def r_Z30_0 : List GI:=[gi 2 (.box 2 2000002 (.t 0) (some 5)),gi 3 (.box 3 2000003 (.t 1) (some 5)),gi 4 (.mov 4 (.k (.v (.bool false))))]
def r_Z30_1 : List GI:=[gf 5 2 0,gl 6 5,gf 7 3 0,gl 8 7,gb 9 .neq 6 8]
def r_Z30_2 : List GI:=[gi 4 (.mov 4 (.k (.v (.bool false))))]
def r_Z30_3 : List GI:=[gf 10 2 1,gl 11 10,gf 12 3 1,gl 13 12,gb 14 .neq 11 13]
def r_Z30_4 : List GI:=[gi 4 (.mov 4 (.k (.v (.bool false))))]
def r_Z30_5 : List GI:=[gf 15 2 2,gs 16 15 2,gf 17 3 2,gs 18 17 2,gc 19 36 [.t 16,.t 18],gi 20 (.un 20 UnOp.not (.t 19))]
def r_Z30_6 : List GI:=[gi 4 (.mov 4 (.k (.v (.bool false))))]
def r_Z30_7 : List GI:=[gf 21 2 4,gl 22 21,gf 23 3 4,gl 24 23,gc 25 21 [.t 22,.t 24],gi 26 (.un 26 UnOp.not (.t 25))]
def r_Z30_8 : List GI:=[gi 4 (.mov 4 (.k (.v (.bool false))))]
def r_Z30_9 : List GI:=[gi 4 (.mov 4 (.k (.v (.bool true))))]
def dc_Z30 : DC:=.seq (.z r_Z30_0) (.seq (.seq (.z r_Z30_1) (.cond (.t 9) (.seq (.z r_Z30_2) .ret) .skip)) (.seq (.seq (.z r_Z30_3) (.cond (.t 14) (.seq (.z r_Z30_4) .ret) .skip)) (.seq (.seq (.z r_Z30_5) (.cond (.t 20) (.seq (.z r_Z30_6) .ret) .skip)) (.seq (.seq (.z r_Z30_7) (.cond (.t 26) (.seq (.z r_Z30_8) .ret) .skip)) (.seq (.z r_Z30_9) .ret)))))
theorem c_Z30 : cfun Try.prog [] 13 = some (27,dc_Z30,[(Res.tmp 4)]):=by kernel_rfl
def r_Z22_0 : List GI:=[gi 4 (.mov 4 (.k (.v (.bool false))))]
def r_Z22_1 : List GI:=[gt 6 0,gn 7 6,gt 8 1,gn 9 8,gb 10 .neq 7 9]
def r_Z22_2 : List GI:=[gi 4 (.mov 4 (.k (.v (.bool false))))]
def r_Z22_3 : List GI:=[gk 5 0]
def r_Z22_4 : List GI:=[gt 11 5,gt 12 0,gn 13 12,gb 14 .lss 11 13]
def r_Z22_5 : List GI:=[gt 17 0,gt 18 5,ga 19 17 18 5,gs 20 19 5,gt 21 1,gt 22 5,ga 23 21 22 5,gs 24 23 5,gc 25 13 [.t 20,.t 24],gi 26 (.un 26 UnOp.not (.t 25))]
def r_Z22_6 : List GI:=[gi 4 (.mov 4 (.k (.v (.bool false))))]
def r_Z22_7 : List GI:=[gt 15 5,gd 16 .add 15 1,gt 5 16]
def r_Z22_8 : List GI:=[gi 4 (.mov 4 (.k (.v (.bool true))))]
def dc_Z22 : DC:=.seq (.z r_Z22_0) (.seq (.seq (.z r_Z22_1) (.cond (.t 10) (.seq (.z r_Z22_2) .ret) .skip)) (.seq (.seq (.z r_Z22_3) (.block 0 (.loop (.seq (.seq (.z r_Z22_4) (.cond (.t 14) .skip (.exit 0))) (.seq (.block 1 (.seq (.reg r_Z22_5 (some [0,0,3,7,0,0,48,112,255,511])) (.cond (.t 26) (.seq (.z r_Z22_6) .ret) .skip))) (.z r_Z22_7)))))) (.seq (.z r_Z22_8) .ret)))
theorem c_Z22 : cfun Try.prog [] 21 = some (27,dc_Z22,[(Res.tmp 4)]):=by kernel_rfl
def r_Z31_0 : List GI:=[gi 2 (.box 2 2000002 (.t 0) (some 5)),gk 4 0]
def r_Z31_1 : List GI:=[gf 5 2 4,gl 6 5,gt 7 1,gc 8 17 [.t 6,.t 7],gt 1 8]
def r_Z31_2 : List GI:=[gt 9 1,gd 10 .lss 9 0]
def r_Z31_3 : List GI:=[gi 4 (.mov 4 (.k (.v (.int .i64 (-1)))))]
def r_Z31_4 : List GI:=[gt 11 1,gt 4 11]
def dc_Z31 : DC:=.seq (.z r_Z31_0) (.seq (.z r_Z31_1) (.seq (.seq (.z r_Z31_2) (.cond (.t 10) (.seq (.z r_Z31_3) .ret) .skip)) (.seq (.z r_Z31_4) .ret)))
theorem c_Z31 : cfun Try.prog [] 8 = some (12,dc_Z31,[(Res.tmp 4)]):=by kernel_rfl
def r_Z24_0 : List GI:=[gk 4 0]
def r_Z24_1 : List GI:=[gt 6 1,gt 7 0,gn 8 7,gb 9 .sub 6 8,gt 1 9]
def r_Z24_2 : List GI:=[gt 10 1,gd 11 .lss 10 0]
def r_Z24_3 : List GI:=[gi 4 (.mov 4 (.k (.v (.int .i64 (-1)))))]
def r_Z24_4 : List GI:=[gk 5 0]
def r_Z24_5 : List GI:=[gt 12 5,gt 13 0,gn 14 13,gb 15 .lss 12 14]
def r_Z24_6 : List GI:=[gt 18 0,gt 19 5,ga 20 18 19 5,gs 21 20 5,gt 22 1,gc 23 8 [.t 21,.t 22],gt 1 23]
def r_Z24_7 : List GI:=[gt 24 1,gd 25 .lss 24 0]
def r_Z24_8 : List GI:=[gi 4 (.mov 4 (.k (.v (.int .i64 (-1)))))]
def r_Z24_9 : List GI:=[gt 16 5,gd 17 .add 16 1,gt 5 17]
def r_Z24_10 : List GI:=[gt 26 1,gt 4 26]
def dc_Z24 : DC:=.seq (.z r_Z24_0) (.seq (.z r_Z24_1) (.seq (.seq (.z r_Z24_2) (.cond (.t 11) (.seq (.z r_Z24_3) .ret) .skip)) (.seq (.seq (.z r_Z24_4) (.block 0 (.loop (.seq (.seq (.z r_Z24_5) (.cond (.t 15) .skip (.exit 0))) (.seq (.block 1 (.seq (.z r_Z24_6) (.seq (.z r_Z24_7) (.cond (.t 25) (.seq (.z r_Z24_8) .ret) .skip)))) (.z r_Z24_9)))))) (.seq (.z r_Z24_10) .ret))))
theorem c_Z24 : cfun Try.prog [] 17 = some (27,dc_Z24,[(Res.tmp 4)]):=by kernel_rfl
def r_Z32_0 : List GI:=[gi 1 (.box 1 2000001 (.t 0) (some 5)),gi 2 (.alloc 2 2000002 [I 0,I 0,.v (.bool false),I 0,.nul])]
def r_Z32_1 : List GI:=[gi 3 (.alloc 3 2000003 [I 0,I 0,.v (.bool false),I 0,.nul])]
def r_Z32_2 : List GI:=[gf 4 1 0,gl 5 4,gf 6 3 0,g0 (.sto 6 (.t 5) none)]
def r_Z32_3 : List GI:=[gf 7 1 1,gl 8 7,gf 9 3 1,g0 (.sto 9 (.t 8) none)]
def r_Z32_4 : List GI:=[gf 10 1 2,gs 11 10 2,gc 12 33 [.t 11],gf 13 3 2,g0 (.sto 13 (.t 12) (some 2))]
def r_Z32_5 : List GI:=[gf 14 1 4,gl 15 14,gc 16 19 [.t 15],gf 17 3 4,g0 (.sto 17 (.t 16) none)]
def r_Z32_6 : List GI:=[gs 18 3 5,g0 (.sto 2 (.t 18) (some 5))]
def dc_Z32 : DC:=.seq (.z r_Z32_0) (.seq (.z r_Z32_1) (.seq (.z r_Z32_2) (.seq (.z r_Z32_3) (.seq (.z r_Z32_4) (.seq (.z r_Z32_5) (.seq (.z r_Z32_6) .ret))))))
theorem c_Z32 : cfun Try.prog [] 10 = some (19,dc_Z32,[(Res.cell 2 (some 5))]):=by kernel_rfl
def r_Z25_0 : List GI:=[gi 2 (.mov 2 (.k .nul))]
def r_Z25_1 : List GI:=[gt 5 0,gn 6 5,gi 7 (.mks 7 2000007 (.t 6) 5 56 (.agg [I 0,I 0,.v (.bool false),I 0,.nul])),gt 3 7]
def r_Z25_2 : List GI:=[gk 4 0]
def r_Z25_3 : List GI:=[gt 8 4,gt 9 0,gn 10 9,gb 11 .lss 8 10]
def r_Z25_4 : List GI:=[gt 14 3,gt 15 4,gt 16 0,gt 17 4,ga 18 16 17 5,gs 19 18 5,gc 20 10 [.t 19],ga 21 14 15 5,g0 (.sto 21 (.t 20) (some 5))]
def r_Z25_5 : List GI:=[gt 12 4,gd 13 .add 12 1,gt 4 13]
def r_Z25_6 : List GI:=[gt 22 3,gt 2 22]
def dc_Z25 : DC:=.seq (.z r_Z25_0) (.seq (.z r_Z25_1) (.seq (.seq (.z r_Z25_2) (.block 0 (.loop (.seq (.seq (.z r_Z25_3) (.cond (.t 11) .skip (.exit 0))) (.seq (.block 1 (.z r_Z25_4)) (.z r_Z25_5)))))) (.seq (.z r_Z25_6) .ret)))
theorem c_Z25 : cfun Try.prog [] 19 = some (23,dc_Z25,[(Res.tmp 2)]):=by kernel_rfl
end
end Go.Proofs.Ytclkehekhdfnnaa
