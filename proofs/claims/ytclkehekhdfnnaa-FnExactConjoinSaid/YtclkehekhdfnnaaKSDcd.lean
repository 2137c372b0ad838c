/-
  Functions of the program read as code on plain data. Closed facts of the program alone.
-/
import Derived.KernelRfl
import Derived.Test.YtclkehekhdfnnaaRows
import Derived.Test.YtclkehekhdfnnaaJSVLib
import Derived.Test.YtclkehekhdfnnaaKSVGi
namespace Go.Proofs.Ytclkehekhdfnnaa
open Go.RowKit
noncomputable section
def r_Z21_0 : List GI:=[gi 2 (.alloc 2 2000002 [I 0,I 0,.v (.bool false),I 0,.nul])]
def r_Z21_1 : List GI:=[gt 6 0,gn 7 6,gd 8 .gtr 7 9]
def r_Z21_2 : List GI:=[gi 9 (.build 9 [I 0,I 0,.v (.bool false),I 0,.nul] []),g0 (.sto 2 (.t 9) (some 5))]
def r_Z21_3 : List GI:=[gt 10 0,gn 11 10,gd 12 .eql 11 0]
def r_Z21_4 : List GI:=[gi 13 (.build 13 [.v (.bool false),I 0] [(1,(none,.k (I 1)))]),gc 14 38 [.t 13],g0 (.sto 2 (.t 14) (some 5))]
def r_Z21_5 : List GI:=[gt 15 0,gi 16 (.iad 16 15 (.k (I 0)) 5),gs 17 16 5,gi 3 (.alloc 3 2000003 [I 0,I 0,.v (.bool false),I 0,.nul]),g0 (.sto 3 (.t 17) (some 5))]
def r_Z21_6 : List GI:=[gt 18 0,gi 19 (.slc 19 (.t 18) (some (.k (I 1))) none 5),gn 20 19,gk 21 0]
def r_Z21_7 : List GI:=[gb 22 .lss 21 20]
def r_Z21_8 : List GI:=[ga 23 19 21 5,gs 24 23 5,gi 5 (.alloc 5 2000005 [I 0,I 0,.v (.bool false),I 0,.nul]),g0 (.sto 5 (.t 24) (some 5))]
def r_Z21_9 : List GI:=[gs 25 3 5,gs 26 5 5,gi 27 (.bsl 27 5 (some 5) [.agg [I 0,I 0,.v (.bool false),I 0,.nul],.agg [I 0,I 0,.v (.bool false),I 0,.nul]] [(0,.t 25),(1,.t 26)]),gi 28 (.build 28 [I 0,I 0,.v (.bool false),I 0,.nul] [(0,(none,.k (I 8))),(4,(none,.t 27))]),g0 (.sto 3 (.t 28) (some 5))]
def r_Z21_10 : List GI:=[gd 29 .add 21 1,gt 21 29]
def r_Z21_11 : List GI:=[gs 30 3 5,gc 31 34 [.t 30,.k (I 6)],gi 32 (.un 32 UnOp.not (.t 31))]
def r_Z21_12 : List GI:=[gi 33 (.build 33 [I 0,I 0,.v (.bool false),I 0,.nul] []),g0 (.sto 2 (.t 33) (some 5))]
def r_Z21_13 : List GI:=[gs 34 3 5,gc 35 39 [.t 34],g0 (.sto 2 (.t 35) (some 5))]
def dc_Z21 : DC:=.seq (.z r_Z21_0) (.seq (.seq (.z r_Z21_1) (.cond (.t 8) (.seq (.z r_Z21_2) .ret) .skip)) (.seq (.seq (.z r_Z21_3) (.cond (.t 12) (.seq (.z r_Z21_4) .ret) .skip)) (.seq (.z r_Z21_5) (.seq (.seq (.z r_Z21_6) (.block 0 (.loop (.seq (.z r_Z21_7) (.seq (.cond (.t 22) .skip (.exit 0)) (.seq (.block 1 (.seq (.z r_Z21_8) (.z r_Z21_9))) (.z r_Z21_10))))))) (.seq (.seq (.z r_Z21_11) (.cond (.t 32) (.seq (.z r_Z21_12) .ret) .skip)) (.seq (.z r_Z21_13) .ret))))))
theorem c_Z21 : cfun Try.prog [] 20 = some (36,dc_Z21,[(Res.cell 2 (some 5))]):=by kernel_rfl
def r_Z27_0 : List GI:=[gi 2 (.alloc 2 2000002 [I 0,I 0,.v (.bool false),I 0,.nul])]
def r_Z27_1 : List GI:=[gk 3 0]
def r_Z27_2 : List GI:=[gt 5 3,gt 6 0,gn 7 6,gb 8 .lss 5 7]
def r_Z27_3 : List GI:=[gt 11 0,gt 12 3,ga 13 11 12 5,gs 14 13 5,gc 15 31 [.t 14,.k (I 6)],gi 16 (.un 16 UnOp.not (.t 15))]
def r_Z27_4 : List GI:=[gi 17 (.build 17 [I 0,I 0,.v (.bool false),I 0,.nul] []),g0 (.sto 2 (.t 17) (some 5))]
def r_Z27_5 : List GI:=[gt 9 3,gd 10 .add 9 1,gt 3 10]
def r_Z27_6 : List GI:=[gt 18 0,gn 19 18,gd 20 .gtr 19 9]
def r_Z27_7 : List GI:=[gi 21 (.build 21 [I 0,I 0,.v (.bool false),I 0,.nul] []),g0 (.sto 2 (.t 21) (some 5))]
def r_Z27_8 : List GI:=[gt 22 0,gc 23 37 [.t 22],gi 4 (.alloc 4 2000004 [I 0,I 0,.v (.bool false),I 0,.nul]),g0 (.sto 4 (.t 23) (some 5))]
def r_Z27_9 : List GI:=[gs 24 4 5,gc 25 31 [.t 24,.k (I 6)],gi 26 (.un 26 UnOp.not (.t 25))]
def r_Z27_10 : List GI:=[gi 27 (.build 27 [I 0,I 0,.v (.bool false),I 0,.nul] []),g0 (.sto 2 (.t 27) (some 5))]
def r_Z27_11 : List GI:=[gs 28 4 5,g0 (.sto 2 (.t 28) (some 5))]
def dc_Z27 : DC:=.seq (.z r_Z27_0) (.seq (.seq (.z r_Z27_1) (.block 0 (.loop (.seq (.seq (.z r_Z27_2) (.cond (.t 8) .skip (.exit 0))) (.seq (.block 1 (.seq (.z r_Z27_3) (.cond (.t 16) (.seq (.z r_Z27_4) .ret) .skip))) (.z r_Z27_5)))))) (.seq (.seq (.z r_Z27_6) (.cond (.t 20) (.seq (.z r_Z27_7) .ret) .skip)) (.seq (.z r_Z27_8) (.seq (.seq (.z r_Z27_9) (.cond (.t 26) (.seq (.z r_Z27_10) .ret) .skip)) (.seq (.z r_Z27_11) .ret)))))
theorem c_Z27 : cfun Try.prog [] 18 = some (29,dc_Z27,[(Res.cell 2 (some 5))]):=by kernel_rfl
def r_Z28_0 : List GI:=[gi 2 (.alloc 2 2000002 [I 0,I 0,.v (.bool false),I 0,.nul])]
def r_Z28_1 : List GI:=[gt 5 0,gn 6 5,gd 7 .eql 6 0]
def r_Z28_2 : List GI:=[gi 8 (.build 8 [.v (.bool false),I 0] [(1,(none,.k (I 1)))]),gc 9 50 [.t 8],g0 (.sto 2 (.t 9) (some 5))]
def r_Z28_3 : List GI:=[gt 10 0,gi 11 (.iad 11 10 (.k (I 0)) 5),gs 12 11 5,gc 13 51 [.t 12],gi 3 (.alloc 3 2000003 [I 0,I 0,.v (.bool false),I 0,.nul]),g0 (.sto 3 (.t 13) (some 5))]
def r_Z28_4 : List GI:=[gk 4 1]
def r_Z28_5 : List GI:=[gt 14 4,gt 15 0,gn 16 15,gb 17 .lss 14 16]
def r_Z28_6 : List GI:=[gs 20 3 5,gt 21 0,gt 22 4,ga 23 21 22 5,gs 24 23 5,gc 25 51 [.t 24],gi 26 (.bsl 26 5 (some 5) [.agg [I 0,I 0,.v (.bool false),I 0,.nul],.agg [I 0,I 0,.v (.bool false),I 0,.nul]] [(0,.t 20),(1,.t 25)]),gi 27 (.build 27 [I 0,I 0,.v (.bool false),I 0,.nul] [(0,(none,.k (I 8))),(4,(none,.t 26))]),g0 (.sto 3 (.t 27) (some 5))]
def r_Z28_7 : List GI:=[gt 18 4,gd 19 .add 18 1,gt 4 19]
def r_Z28_8 : List GI:=[gs 28 3 5,g0 (.sto 2 (.t 28) (some 5))]
def dc_Z28 : DC:=.seq (.z r_Z28_0) (.seq (.seq (.z r_Z28_1) (.cond (.t 7) (.seq (.z r_Z28_2) .ret) .skip)) (.seq (.z r_Z28_3) (.seq (.seq (.z r_Z28_4) (.block 0 (.loop (.seq (.seq (.z r_Z28_5) (.cond (.t 17) .skip (.exit 0))) (.seq (.block 1 (.reg r_Z28_6 (some [0,0,0,6,14,30,63,127,255]))) (.z r_Z28_7)))))) (.seq (.z r_Z28_8) .ret))))
theorem c_Z28 : cfun Try.prog [] 37 = some (29,dc_Z28,[(Res.cell 2 (some 5))]):=by kernel_rfl
def r_Z12_0 : List GI:=[gk 4 0]
def r_Z12_1 : List GI:=[gk 5 0]
def r_Z12_2 : List GI:=[gt 6 5,gt 7 0,gn 8 7,gb 9 .lss 6 8]
def r_Z12_3 : List GI:=[gt 12 0,gt 13 5,gt 14 1,ga 15 12 13 5,gf 16 15 0,g0 (.sto 16 (.t 14) none)]
def r_Z12_4 : List GI:=[gt 17 1,gd 18 .add 17 1,gt 1 18]
def r_Z12_5 : List GI:=[gt 19 0,gt 20 5,gt 21 1,ga 22 19 20 5,gf 23 22 1,g0 (.sto 23 (.t 21) none)]
def r_Z12_6 : List GI:=[gt 24 1,gd 25 .add 24 1,gt 1 25]
def r_Z12_7 : List GI:=[gt 26 0,gt 27 5,gt 28 1,gd 29 .rem 28 3,gd 30 .eql 29 0,ga 31 26 27 5,gf 32 31 2,gf 33 32 0,g0 (.sto 33 (.t 30) none)]
def r_Z12_8 : List GI:=[gt 34 1,gd 35 .add 34 1,gt 1 35]
def r_Z12_9 : List GI:=[gt 36 0,gt 37 5,gt 38 1,ga 39 36 37 5,gf 40 39 2,gf 41 40 1,g0 (.sto 41 (.t 38) none)]
def r_Z12_10 : List GI:=[gt 42 1,gd 43 .add 42 1,gt 1 43]
def r_Z12_11 : List GI:=[gt 44 0,gt 45 5,ga 46 44 45 5,gf 47 46 4,gl 48 47,gt 49 1,gc 50 22 [.t 48,.t 49],gt 1 50]
def r_Z12_12 : List GI:=[gt 10 5,gd 11 .add 10 1,gt 5 11]
def r_Z12_13 : List GI:=[gt 51 1,gt 4 51]
def dc_Z12 : DC:=.seq (.z r_Z12_0) (.seq (.seq (.z r_Z12_1) (.block 0 (.loop (.seq (.seq (.z r_Z12_2) (.cond (.t 9) .skip (.exit 0))) (.seq (.block 1 (.seq (.z r_Z12_3) (.seq (.z r_Z12_4) (.seq (.z r_Z12_5) (.seq (.z r_Z12_6) (.seq (.z r_Z12_7) (.seq (.z r_Z12_8) (.seq (.z r_Z12_9) (.seq (.z r_Z12_10) (.z r_Z12_11)))))))))) (.z r_Z12_12)))))) (.seq (.z r_Z12_13) .ret))
theorem c_Z12 : cfun Try.prog [] 22 = some (52,dc_Z12,[(Res.tmp 4)]):=by kernel_rfl
def r_Z17_0 : List GI:=[gi 2 (.box 2 2000002 (.t 0) (some 5)),gk 4 0]
def r_Z17_1 : List GI:=[gf 5 2 4,gl 6 5,gt 7 1,gc 8 26 [.t 6,.t 7],gt 1 8]
def r_Z17_2 : List GI:=[gt 9 1,gd 10 .lss 9 0]
def r_Z17_3 : List GI:=[gi 4 (.mov 4 (.k (.v (.int .i64 (-1)))))]
def r_Z17_4 : List GI:=[gt 11 1,gt 4 11]
def dc_Z17 : DC:=.seq (.z r_Z17_0) (.seq (.z r_Z17_1) (.seq (.seq (.z r_Z17_2) (.cond (.t 10) (.seq (.z r_Z17_3) .ret) .skip)) (.seq (.z r_Z17_4) .ret)))
theorem c_Z17 : cfun Try.prog [] 23 = some (12,dc_Z17,[(Res.tmp 4)]):=by kernel_rfl
def r_Z11_0 : List GI:=[gk 4 0]
def r_Z11_1 : List GI:=[gk 5 0]
def r_Z11_2 : List GI:=[gt 6 5,gt 7 0,gn 8 7,gb 9 .lss 6 8]
def r_Z11_3 : List GI:=[gt 12 0,gt 13 5,ga 14 12 13 5,gf 15 14 0,gl 16 15,gt 17 1,gb 18 .neq 16 17]
def r_Z11_4 : List GI:=[gi 4 (.mov 4 (.k (.v (.int .i64 (-1)))))]
def r_Z11_5 : List GI:=[gt 19 1,gd 20 .add 19 1,gt 1 20]
def r_Z11_6 : List GI:=[gt 21 0,gt 22 5,ga 23 21 22 5,gf 24 23 1,gl 25 24,gt 26 1,gb 27 .neq 25 26]
def r_Z11_7 : List GI:=[gi 4 (.mov 4 (.k (.v (.int .i64 (-1)))))]
def r_Z11_8 : List GI:=[gt 28 1,gd 29 .add 28 1,gt 1 29]
def r_Z11_9 : List GI:=[gt 30 0,gt 31 5,ga 32 30 31 5,gf 33 32 2,gf 34 33 0,gl 35 34,gt 36 1,gd 37 .rem 36 3,gd 38 .eql 37 0,gi 39 (.beq 39 true (.t 35) (.t 38))]
def r_Z11_10 : List GI:=[gi 4 (.mov 4 (.k (.v (.int .i64 (-1)))))]
def r_Z11_11 : List GI:=[gt 40 1,gd 41 .add 40 1,gt 1 41]
def r_Z11_12 : List GI:=[gt 42 0,gt 43 5,ga 44 42 43 5,gf 45 44 2,gf 46 45 1,gl 47 46,gt 48 1,gb 49 .neq 47 48]
def r_Z11_13 : List GI:=[gi 4 (.mov 4 (.k (.v (.int .i64 (-1)))))]
def r_Z11_14 : List GI:=[gt 50 1,gd 51 .add 50 1,gt 1 51]
def r_Z11_15 : List GI:=[gt 52 0,gt 53 5,ga 54 52 53 5,gf 55 54 4,gl 56 55,gt 57 1,gc 58 26 [.t 56,.t 57],gt 1 58]
def r_Z11_16 : List GI:=[gt 59 1,gd 60 .lss 59 0]
def r_Z11_17 : List GI:=[gi 4 (.mov 4 (.k (.v (.int .i64 (-1)))))]
def r_Z11_18 : List GI:=[gt 10 5,gd 11 .add 10 1,gt 5 11]
def r_Z11_19 : List GI:=[gt 61 1,gt 4 61]
def dc_Z11 : DC:=.seq (.z r_Z11_0) (.seq (.seq (.z r_Z11_1) (.block 0 (.loop (.seq (.seq (.z r_Z11_2) (.cond (.t 9) .skip (.exit 0))) (.seq (.block 1 (.seq (.seq (.z r_Z11_3) (.cond (.t 18) (.seq (.z r_Z11_4) .ret) .skip)) (.seq (.z r_Z11_5) (.seq (.seq (.z r_Z11_6) (.cond (.t 27) (.seq (.z r_Z11_7) .ret) .skip)) (.seq (.z r_Z11_8) (.seq (.seq (.z r_Z11_9) (.cond (.t 39) (.seq (.z r_Z11_10) .ret) .skip)) (.seq (.z r_Z11_11) (.seq (.seq (.z r_Z11_12) (.cond (.t 49) (.seq (.z r_Z11_13) .ret) .skip)) (.seq (.z r_Z11_14) (.seq (.z r_Z11_15) (.seq (.z r_Z11_16) (.cond (.t 60) (.seq (.z r_Z11_17) .ret) .skip)))))))))))) (.z r_Z11_18)))))) (.seq (.z r_Z11_19) .ret))
theorem c_Z11 : cfun Try.prog [] 26 = some (62,dc_Z11,[(Res.tmp 4)]):=by kernel_rfl
def r_Z18_0 : List GI:=[gi 2 (.box 2 2000002 (.t 0) (some 5)),gk 4 0]
def r_Z18_1 : List GI:=[gf 5 2 4,gl 6 5,gt 7 1,gc 8 22 [.t 6,.t 7],gt 1 8]
def r_Z18_2 : List GI:=[gt 9 1,gt 4 9]
def dc_Z18 : DC:=.seq (.z r_Z18_0) (.seq (.z r_Z18_1) (.seq (.z r_Z18_2) .ret))
theorem c_Z18 : cfun Try.prog [] 14 = some (10,dc_Z18,[(Res.tmp 4)]):=by kernel_rfl
end
end Go.Proofs.Ytclkehekhdfnnaa
