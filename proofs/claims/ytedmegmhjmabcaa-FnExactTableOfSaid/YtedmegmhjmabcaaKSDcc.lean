/-
  Functions of the program read as code on plain data. Closed facts of the program alone.
-/
import Derived.KernelRfl
import Derived.Test.YtedmegmhjmabcaaRows
import Derived.Test.YtedmegmhjmabcaaJSVGo
import Derived.Test.YtedmegmhjmabcaaJSVDraw
namespace Go.Proofs.Ytedmegmhjmabcaa
open Go.RowKit
noncomputable section
def r_Z60_0 : List GI:=[gi 4 (.alloc 4 2000004 [I 0,.nul])]
def r_Z60_1 : List GI:=[gt 7 0,gi 8 (.build 8 [I 0,.nul] [(0,(none,.t 7))]),gi 5 (.alloc 5 2000005 [I 0,.nul]),g0 (.sto 5 (.t 8) (some 2))]
def r_Z60_2 : List GI:=[gt 9 1,gn 10 9,gd 11 .gtr 10 400]
def r_Z60_3 : List GI:=[gs 12 5 2,g0 (.sto 4 (.t 12) (some 2))]
def r_Z60_4 : List GI:=[gk 6 0]
def r_Z60_5 : List GI:=[gt 13 6,gt 14 1,gn 15 14,gb 16 .lss 13 15]
def r_Z60_6 : List GI:=[gf 19 5 1,gl 20 19,gt 21 1,gt 22 6,ga 23 21 22 1,gl 24 23,gc 25 104 [.t 20,.t 24],gf 26 5 1,g0 (.sto 26 (.t 25) none)]
def r_Z60_7 : List GI:=[gt 17 6,gd 18 .add 17 1,gt 6 18]
def r_Z60_8 : List GI:=[gs 27 5 2,g0 (.sto 4 (.t 27) (some 2))]
def dc_Z60 : DC:=.seq (.z r_Z60_0) (.seq (.z r_Z60_1) (.seq (.seq (.z r_Z60_2) (.cond (.t 11) (.seq (.z r_Z60_3) .ret) .skip)) (.seq (.seq (.z r_Z60_4) (.block 0 (.loop (.seq (.seq (.z r_Z60_5) (.cond (.t 16) .skip (.exit 0))) (.seq (.block 1 (.reg r_Z60_6 (some [0,1,0,0,12,28,63,127,255]))) (.z r_Z60_7)))))) (.seq (.z r_Z60_8) .ret))))
theorem c_Z60 : cfun Try.prog [] 63 = some (28,dc_Z60,[(Res.cell 4 (some 2))]):=by kernel_rfl
def r_Z56_0 : List GI:=[gi 4 (.alloc 4 2000004 [I 0,.nul]),gi 5 (.mov 5 (.k (.v (.bool false))))]
def r_Z56_1 : List GI:=[gt 7 0,gc 8 58 [.t 7,.k (I 1),.k (I 6)],gi 9 (.un 9 UnOp.not (.t 8)),gt 10 9,⟨.mov 11 (.t 1),some 11,some (10,false),false⟩,⟨.len 12 (.t 11),some 12,some (10,false),false⟩,⟨.bin 13 .gtr (.t 12) (.k (I 400)),some 13,some (10,false),false⟩,gi 14 (.pick 14 (.t 10) (.k (.v (.bool true))) (.t 13))]
def r_Z56_2 : List GI:=[gi 15 (.build 15 [I 0,.nul] []),g0 (.sto 4 (.t 15) (some 2)),gi 5 (.mov 5 (.k (.v (.bool false))))]
def r_Z56_3 : List GI:=[gk 6 0]
def r_Z56_4 : List GI:=[gt 16 6,gt 17 1,gn 18 17,gb 19 .lss 16 18]
def r_Z56_5 : List GI:=[gt 22 1,gt 23 6,ga 24 22 23 1,gl 25 24,gc 26 92 [.t 25],gi 27 (.un 27 UnOp.not (.t 26)),gt 28 27,⟨.mov 29 (.t 1),some 29,some (28,false),false⟩,⟨.mov 30 (.t 6),some 30,some (28,false),false⟩,⟨.iad 31 29 (.t 30) 1,some 31,some (28,false),false⟩,⟨.lod 32 31 none,some 32,some (28,false),false⟩,⟨.len 33 (.t 32),some 33,some (28,false),false⟩,⟨.mov 34 (.t 0),some 34,some (28,false),false⟩,⟨.bin 35 .neq (.t 33) (.t 34),some 35,some (28,false),false⟩,gi 36 (.pick 36 (.t 28) (.k (.v (.bool true))) (.t 35))]
def r_Z56_6 : List GI:=[gi 37 (.build 37 [I 0,.nul] []),g0 (.sto 4 (.t 37) (some 2)),gi 5 (.mov 5 (.k (.v (.bool false))))]
def r_Z56_7 : List GI:=[gt 20 6,gd 21 .add 20 1,gt 6 21]
def r_Z56_8 : List GI:=[gt 38 0,gt 39 1,gc 40 63 [.t 38,.t 39],g0 (.sto 4 (.t 40) (some 2)),gi 5 (.mov 5 (.k (.v (.bool true))))]
def dc_Z56 : DC:=.seq (.z r_Z56_0) (.seq (.seq (.z r_Z56_1) (.cond (.t 14) (.seq (.z r_Z56_2) .ret) .skip)) (.seq (.seq (.z r_Z56_3) (.block 0 (.loop (.seq (.seq (.z r_Z56_4) (.cond (.t 19) .skip (.exit 0))) (.seq (.block 1 (.seq (.z r_Z56_5) (.cond (.t 36) (.seq (.z r_Z56_6) .ret) .skip))) (.z r_Z56_7)))))) (.seq (.z r_Z56_8) .ret)))
theorem c_Z56 : cfun Try.prog [] 50 = some (41,dc_Z56,[(Res.cell 4 (some 2)),(Res.tmp 5)]):=by kernel_rfl
def r_Z14_0 : List GI:=[gi 2 (.box 2 2000002 (.t 0) (some 2)),gi 3 (.box 3 2000003 (.t 1) (some 2)),gi 4 (.mov 4 (.k (.v (.bool false))))]
def r_Z14_1 : List GI:=[gs 5 2 2,gc 6 75 [.t 5],gt 7 6,⟨.lod 8 3 (some 2),some 8,some (7,true),false⟩,⟨.call 9 75 [.t 8],some 9,some (7,true),true⟩,gi 10 (.pick 10 (.t 7) (.t 9) (.k (.v (.bool false)))),gt 11 10,⟨.fad 12 2 0,some 12,some (11,true),false⟩,⟨.lod 13 12 none,some 13,some (11,true),false⟩,⟨.fad 14 3 0,some 14,some (11,true),false⟩,⟨.lod 15 14 none,some 15,some (11,true),false⟩,⟨.bin 16 .eql (.t 13) (.t 15),some 16,some (11,true),false⟩,gi 17 (.pick 17 (.t 11) (.t 16) (.k (.v (.bool false)))),gt 4 17]
def dc_Z14 : DC:=.seq (.z r_Z14_0) (.seq (.z r_Z14_1) .ret)
theorem c_Z14 : cfun Try.prog [] 88 = some (18,dc_Z14,[(Res.tmp 4)]):=by kernel_rfl
def r_Z5_0 : List GI:=[gi 2 (.box 2 2000002 (.t 0) none),gi 3 (.box 3 2000003 (.t 1) none),gi 4 (.mov 4 (.k .nul))]
def r_Z5_1 : List GI:=[gl 8 2,gi 9 (.nilc 9 8),gf 10 9 0,gl 11 10,gi 12 (.mkf 12 142 [.t 2,.t 3]),gc 13 141 [.t 11,.t 12],gt 5 13]
def r_Z5_2 : List GI:=[gl 14 2,gi 15 (.nilc 15 14),gf 16 15 0,gl 17 16,gt 18 5,gi 19 (.slc 19 (.t 17) (some (.t 18)) none 1),gt 6 19]
def r_Z5_3 : List GI:=[gt 20 6,gi 21 (.mkf 21 143 [.t 2,.t 3]),gc 22 141 [.t 20,.t 21],gt 7 22]
def r_Z5_4 : List GI:=[gl 23 2,gt 24 6,gt 25 7,gi 26 (.slc 26 (.t 24) (some (.t 25)) none 1),gi 27 (.nilc 27 23),gf 28 27 0,g0 (.sto 28 (.t 26) none)]
def r_Z5_5 : List GI:=[gt 29 6,gt 30 7,gi 31 (.slc 31 (.t 29) none (some (.t 30)) 1),gt 4 31]
def dc_Z5 : DC:=.seq (.z r_Z5_0) (.seq (.z r_Z5_1) (.seq (.z r_Z5_2) (.seq (.z r_Z5_3) (.seq (.reg r_Z5_4 (some [0,0,0,6,15,31,63])) (.seq (.z r_Z5_5) .ret)))))
theorem c_Z5 : cfun Try.prog [] 123 = some (32,dc_Z5,[(Res.tmp 4)]):=by kernel_rfl
def r_Z2_0 : List GI:=[gi 4 (.mov 4 (.k (.v (.bool false))))]
def r_Z2_1 : List GI:=[gl 5 1,gi 6 (.nilc 6 5),gf 7 6 1,gl 8 7,gt 9 0,gl 10 2,⟨.cal 11 (.t 8) [.t 9,.t 10],some 11,none,true⟩,gd 12 .geq 11 0,gt 4 12]
def dc_Z2 : DC:=.seq (.z r_Z2_0) (.seq (.reg r_Z2_1 (some [0,1,3,7,0,0,63,127,255])) .ret)
theorem c_Z2 : cfun Try.prog [] 142 = some (13,dc_Z2,[(Res.tmp 4)]):=by kernel_rfl
def r_Z3_0 : List GI:=[gi 4 (.mov 4 (.k (.v (.bool false))))]
def r_Z3_1 : List GI:=[gl 5 1,gi 6 (.nilc 6 5),gf 7 6 1,gl 8 7,gt 9 0,gl 10 2,⟨.cal 11 (.t 8) [.t 9,.t 10],some 11,none,true⟩,gd 12 .gtr 11 0,gt 4 12]
def dc_Z3 : DC:=.seq (.z r_Z3_0) (.seq (.reg r_Z3_1 (some [0,1,3,7,0,0,63,127,255])) .ret)
theorem c_Z3 : cfun Try.prog [] 143 = some (13,dc_Z3,[(Res.tmp 4)]):=by kernel_rfl
def r_Z7_0 : List GI:=[gk 4 0]
def r_Z7_1 : List GI:=[gt 8 0,gn 9 8,gk 5 0,gt 6 9]
def r_Z7_2 : List GI:=[gt 10 5,gt 11 6,gb 12 .lss 10 11]
def r_Z7_3 : List GI:=[gt 13 5,gt 14 6,gb 15 .add 13 14,gd 16 .quo 15 2,gt 7 16]
def r_Z7_4 : List GI:=[gt 17 1,gt 18 0,gt 19 7,ga 20 18 19 1,gl 21 20,⟨.cal 22 (.t 17) [.t 21],some 22,none,true⟩]
def r_Z7_5 : List GI:=[gt 23 7,gt 6 23]
def r_Z7_6 : List GI:=[gt 24 7,gd 25 .add 24 1,gt 5 25]
def r_Z7_7 : List GI:=[gt 26 5,gt 4 26]
def dc_Z7 : DC:=.seq (.z r_Z7_0) (.seq (.z r_Z7_1) (.seq (.block 0 (.loop (.seq (.seq (.z r_Z7_2) (.cond (.t 12) .skip (.exit 0))) (.block 1 (.seq (.z r_Z7_3) (.seq (.z r_Z7_4) (.cond (.t 22) (.z r_Z7_5) (.z r_Z7_6)))))))) (.seq (.z r_Z7_7) .ret)))
theorem c_Z7 : cfun Try.prog [] 141 = some (27,dc_Z7,[(Res.tmp 4)]):=by kernel_rfl
def r_Z48_0 : List GI:=[gk 4 0]
def r_Z48_1 : List GI:=[gk 5 0]
def r_Z48_2 : List GI:=[gk 6 0]
def r_Z48_3 : List GI:=[gt 7 6,gt 8 0,gn 9 8,gb 10 .lss 7 9]
def r_Z48_4 : List GI:=[gt 13 0,gt 14 6,ga 15 13 14 1,gl 16 15,gt 17 1,gc 18 100 [.t 16,.t 17],gd 19 .eql 18 0]
def r_Z48_5 : List GI:=[gt 20 5,gd 21 .add 20 1,gt 5 21]
def r_Z48_6 : List GI:=[gt 11 6,gd 12 .add 11 1,gt 6 12]
def r_Z48_7 : List GI:=[gt 22 5,gt 4 22]
def dc_Z48 : DC:=.seq (.z r_Z48_0) (.seq (.z r_Z48_1) (.seq (.seq (.z r_Z48_2) (.block 0 (.loop (.seq (.seq (.z r_Z48_3) (.cond (.t 10) .skip (.exit 0))) (.seq (.block 1 (.seq (.z r_Z48_4) (.cond (.t 19) (.z r_Z48_5) .skip))) (.z r_Z48_6)))))) (.seq (.z r_Z48_7) .ret)))
theorem c_Z48 : cfun Try.prog [] 120 = some (23,dc_Z48,[(Res.tmp 4)]):=by kernel_rfl
def r_Z6_0 : List GI:=[gi 3 (.box 3 2000003 (.t 0) none),gi 4 (.box 4 2000004 (.t 1) none),gi 5 (.box 5 2000005 (.t 2) none),gi 6 (.mov 6 (.k (.v .nilFunc)))]
def r_Z6_1 : List GI:=[gi 7 (.mkf 7 121 [.t 4,.t 5,.t 3]),gt 6 7]
def dc_Z6 : DC:=.seq (.z r_Z6_0) (.seq (.z r_Z6_1) .ret)
theorem c_Z6 : cfun Try.prog [] 89 = some (8,dc_Z6,[(Res.tmp 6)]):=by kernel_rfl
end
end Go.Proofs.Ytedmegmhjmabcaa
