/-
  Functions of the program read as code on plain data. Closed facts of the program alone.
-/
import Derived.KernelRfl
import Derived.Test.YtedmegmhjmabcaaRows
import Derived.Test.YtedmegmhjmabcaaJSVLib
import Derived.Test.YtedmegmhjmabcaaJSVTbD
namespace Go.Proofs.Ytedmegmhjmabcaa
open Go.RowKit
noncomputable section
def r_Z45_0 : List GI:=[gi 4 (.alloc 4 2000004 [I 0,.nul])]
def r_Z45_1 : List GI:=[gt 7 0,gi 8 (.build 8 [I 0,.nul] [(0,(none,.t 7))]),gi 5 (.alloc 5 2000005 [I 0,.nul]),g0 (.sto 5 (.t 8) (some 2))]
def r_Z45_2 : List GI:=[gt 9 1,gn 10 9,gd 11 .gtr 10 400]
def r_Z45_3 : List GI:=[gs 12 5 2,g0 (.sto 4 (.t 12) (some 2))]
def r_Z45_4 : List GI:=[gk 6 0]
def r_Z45_5 : List GI:=[gt 13 6,gt 14 1,gn 15 14,gb 16 .lss 13 15]
def r_Z45_6 : List GI:=[gf 19 5 1,gl 20 19,gt 21 1,gt 22 6,ga 23 21 22 1,gl 24 23,gc 25 104 [.t 20,.t 24],gf 26 5 1,g0 (.sto 26 (.t 25) none)]
def r_Z45_7 : List GI:=[gt 17 6,gd 18 .add 17 1,gt 6 18]
def r_Z45_8 : List GI:=[gs 27 5 2,g0 (.sto 4 (.t 27) (some 2))]
def dc_Z45 : DC:=.seq (.z r_Z45_0) (.seq (.z r_Z45_1) (.seq (.seq (.z r_Z45_2) (.cond (.t 11) (.seq (.z r_Z45_3) .ret) .skip)) (.seq (.seq (.z r_Z45_4) (.block 0 (.loop (.seq (.seq (.z r_Z45_5) (.cond (.t 16) .skip (.exit 0))) (.seq (.block 1 (.reg r_Z45_6 (some [0,1,0,0,12,28,63,127,255]))) (.z r_Z45_7)))))) (.seq (.z r_Z45_8) .ret))))
theorem c_Z45 : cfun Try.prog [] 63 = some (28,dc_Z45,[(Res.cell 4 (some 2))]):=by kernel_rfl
def r_Z30_0 : List GI:=[gi 2 (.box 2 2000002 (.t 0) (some 2)),gi 3 (.box 3 2000003 (.t 1) (some 2)),gi 4 (.alloc 4 2000004 [I 0,.nul]),gi 5 (.mov 5 (.k (.v (.bool false))))]
def r_Z30_1 : List GI:=[gs 6 2 2,gs 7 3 2,gc 8 88 [.t 6,.t 7],gi 9 (.un 9 UnOp.not (.t 8))]
def r_Z30_2 : List GI:=[gi 10 (.build 10 [I 0,.nul] []),g0 (.sto 4 (.t 10) (some 2)),gi 5 (.mov 5 (.k (.v (.bool false))))]
def r_Z30_3 : List GI:=[gf 11 2 1,gl 12 11,gn 13 12,gf 14 3 1,gl 15 14,gn 16 15,gb 17 .add 13 16,gd 18 .gtr 17 400]
def r_Z30_4 : List GI:=[gf 19 2 0,gl 20 19,gi 21 (.build 21 [I 0,.nul] [(0,(none,.t 20))]),g0 (.sto 4 (.t 21) (some 2)),gi 5 (.mov 5 (.k (.v (.bool true))))]
def r_Z30_5 : List GI:=[gf 22 2 0,gl 23 22,gf 24 2 1,gl 25 24,gc 26 67 [.t 25],gf 27 3 1,gl 28 27,gc 29 67 [.t 28],gi 30 (.app 30 2000030 (.t 26) (.t 29) 1 24),gc 31 95 [.t 23,.t 30],g0 (.sto 4 (.t 31) (some 2)),gi 5 (.mov 5 (.k (.v (.bool true))))]
def dc_Z30 : DC:=.seq (.z r_Z30_0) (.seq (.seq (.z r_Z30_1) (.cond (.t 9) (.seq (.z r_Z30_2) .ret) .skip)) (.seq (.seq (.z r_Z30_3) (.cond (.t 18) (.seq (.z r_Z30_4) .ret) .skip)) (.seq (.reg r_Z30_5 (some [0,1,0,4,12,0,32,124,252,511,1023,2047])) .ret)))
theorem c_Z30 : cfun Try.prog [] 54 = some (32,dc_Z30,[(Res.cell 4 (some 2)),(Res.tmp 5)]):=by kernel_rfl
def r_Z4_0 : List GI:=[gi 2 (.box 2 2000002 (.t 0) (some 2)),gi 3 (.box 3 2000003 (.t 1) (some 2)),gi 4 (.mov 4 (.k (.v (.bool false))))]
def r_Z4_1 : List GI:=[gs 5 2 2,gc 6 75 [.t 5],gt 7 6,⟨.lod 8 3 (some 2),some 8,some (7,true),false⟩,⟨.call 9 75 [.t 8],some 9,some (7,true),true⟩,gi 10 (.pick 10 (.t 7) (.t 9) (.k (.v (.bool false)))),gt 11 10,⟨.fad 12 2 0,some 12,some (11,true),false⟩,⟨.lod 13 12 none,some 13,some (11,true),false⟩,⟨.fad 14 3 0,some 14,some (11,true),false⟩,⟨.lod 15 14 none,some 15,some (11,true),false⟩,⟨.bin 16 .eql (.t 13) (.t 15),some 16,some (11,true),false⟩,gi 17 (.pick 17 (.t 11) (.t 16) (.k (.v (.bool false)))),gt 4 17]
def dc_Z4 : DC:=.seq (.z r_Z4_0) (.seq (.z r_Z4_1) .ret)
theorem c_Z4 : cfun Try.prog [] 88 = some (18,dc_Z4,[(Res.tmp 4)]):=by kernel_rfl
def r_Z35_0 : List GI:=[gi 2 (.box 2 2000002 (.t 0) (some 2)),gi 3 (.box 3 2000003 (.t 1) (some 2)),gi 4 (.alloc 4 2000004 [I 0,.nul]),gi 5 (.mov 5 (.k (.v (.bool false))))]
def r_Z35_1 : List GI:=[gs 6 2 2,gc 7 57 [.t 6],gi 8 (.un 8 UnOp.not (.t 7)),gt 9 8,⟨.lod 10 3 (some 2),some 10,some (9,false),false⟩,⟨.call 11 57 [.t 10],some 11,some (9,false),true⟩,⟨.un 12 UnOp.not (.t 11),some 12,some (9,false),false⟩,gi 13 (.pick 13 (.t 9) (.k (.v (.bool true))) (.t 12)),gt 14 13,⟨.fad 15 2 0,some 15,some (14,false),false⟩,⟨.lod 16 15 none,some 16,some (14,false),false⟩,⟨.fad 17 3 0,some 17,some (14,false),false⟩,⟨.lod 18 17 none,some 18,some (14,false),false⟩,⟨.bin 19 .neq (.t 16) (.t 18),some 19,some (14,false),false⟩,gi 20 (.pick 20 (.t 14) (.k (.v (.bool true))) (.t 19))]
def r_Z35_2 : List GI:=[gi 21 (.build 21 [I 0,.nul] []),g0 (.sto 4 (.t 21) (some 2)),gi 5 (.mov 5 (.k (.v (.bool false))))]
def r_Z35_3 : List GI:=[gs 22 2 2,gs 23 3 2,gc 24 96 [.t 22,.t 23],g0 (.sto 4 (.t 24) (some 2)),gi 5 (.mov 5 (.k (.v (.bool true))))]
def dc_Z35 : DC:=.seq (.z r_Z35_0) (.seq (.seq (.z r_Z35_1) (.cond (.t 20) (.seq (.z r_Z35_2) .ret) .skip)) (.seq (.z r_Z35_3) .ret))
theorem c_Z35 : cfun Try.prog [] 53 = some (25,dc_Z35,[(Res.cell 4 (some 2)),(Res.tmp 5)]):=by kernel_rfl
def r_Z36_0 : List GI:=[gi 2 (.box 2 2000002 (.t 0) (some 2)),gi 3 (.box 3 2000003 (.t 1) (some 2)),gi 4 (.alloc 4 2000004 [I 0,.nul])]
def r_Z36_1 : List GI:=[gf 5 2 0,gl 6 5,gi 7 (.mov 7 (.k .nul)),gf 8 2 1,gl 9 8,gi 10 (.app 10 2000010 (.t 7) (.t 9) 1 24),gf 11 3 1,gl 12 11,gi 13 (.app 13 2000013 (.t 10) (.t 12) 1 24),gc 14 63 [.t 6,.t 13],g0 (.sto 4 (.t 14) (some 2))]
def dc_Z36 : DC:=.seq (.z r_Z36_0) (.seq (.reg r_Z36_1 (some [0,1,0,0,8,28,0,64,252,511,1023])) .ret)
theorem c_Z36 : cfun Try.prog [] 96 = some (15,dc_Z36,[(Res.cell 4 (some 2))]):=by kernel_rfl
end
end Go.Proofs.Ytedmegmhjmabcaa
