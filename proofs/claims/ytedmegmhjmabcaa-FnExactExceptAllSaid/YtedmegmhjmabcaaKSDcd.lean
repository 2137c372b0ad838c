/-
  Functions of the program read as code on plain data. Closed facts of the program alone.
-/
import Derived.KernelRfl
import Derived.Test.YtedmegmhjmabcaaRows
import Derived.Test.YtedmegmhjmabcaaJSVGo
import Derived.Test.YtedmegmhjmabcaaJSVDraw
namespace Go.Proofs.Ytedmegmhjmabcaa
open Go.RowKit
noncomputable section
def r_Z4_0 : List GI:=[gi 4 (.box 4 2000004 (.t 0) none)]
def r_Z4_1 : List GI:=[gl 7 1,gl 8 2,gi 9 (.build 9 [.nul,.v .nilFunc] [(0,(none,.t 7)),(1,(none,.t 8))]),gi 5 (.alloc 5 2000005 [.nul,.v .nilFunc]),g0 (.sto 5 (.t 9) (some 2))]
def r_Z4_2 : List GI:=[gl 10 3,gl 11 2,gc 12 122 [.t 10,.t 11]]
def r_Z4_3 : List GI:=[gt 6 13]
def r_Z4_4 : List GI:=[gl 14 4,gt 15 6,gt 16 6,gi 17 (.iad 17 16 (.k (I 0)) 1),gl 18 17,gc 19 123 [.t 5,.t 18],⟨.cal 20 (.t 14) [.t 15,.t 19],some 20,none,true⟩,gi 21 (.un 21 UnOp.not (.t 20))]
def dc_Z4 : DC:=.seq (.z r_Z4_0) (.seq (.z r_Z4_1) (.seq (.z r_Z4_2) (.block 0 (.rng (.t 12) [13] (.z r_Z4_3) (.block 1 (.seq (.reg r_Z4_4 (some [0,0,0,4,12,28,63,127])) (.cond (.t 21) .ret .skip)))))))
theorem c_Z4 : cfun Try.prog [] 121 = some (22,dc_Z4,[]):=by kernel_rfl
def r_Z9_0 : List GI:=[gi 2 (.box 2 2000002 (.t 0) none),gi 3 (.box 3 2000003 (.t 1) none),gi 4 (.mov 4 (.k (.v .nilFunc)))]
def r_Z9_1 : List GI:=[gi 5 (.mkf 5 140 [.t 2,.t 3]),gt 4 5]
def dc_Z9 : DC:=.seq (.z r_Z9_0) (.seq (.z r_Z9_1) .ret)
theorem c_Z9 : cfun Try.prog [] 122 = some (6,dc_Z9,[(Res.tmp 4)]):=by kernel_rfl
def r_Z8_0 : List GI:=[gl 5 1,gl 6 2,gi 7 (.build 7 [.nul,.v .nilFunc] [(0,(none,.t 5)),(1,(none,.t 6))]),gi 4 (.alloc 4 2000004 [.nul,.v .nilFunc]),g0 (.sto 4 (.t 7) (some 2))]
def r_Z8_1 : List GI:=[gf 8 4 0,gl 9 8,gn 10 9,gd 11 .gtr 10 0]
def r_Z8_2 : List GI:=[gt 12 0,gf 13 4 0,gl 14 13,gi 15 (.iad 15 14 (.k (I 0)) 1),gl 16 15,gc 17 123 [.t 4,.t 16],⟨.cal 18 (.t 12) [.t 17],some 18,none,true⟩,gi 19 (.un 19 UnOp.not (.t 18))]
def dc_Z8 : DC:=.seq (.z r_Z8_0) (.block 0 (.loop (.seq (.seq (.z r_Z8_1) (.cond (.t 11) .skip (.exit 0))) (.block 1 (.seq (.z r_Z8_2) (.cond (.t 19) .ret .skip))))))
theorem c_Z8 : cfun Try.prog [] 140 = some (20,dc_Z8,[]):=by kernel_rfl
def r_Z34_0 : List GI:=[gi 2 (.box 2 2000002 (.t 0) (some 2)),gi 3 (.box 3 2000003 (.t 1) (some 2)),gi 4 (.alloc 4 2000004 [I 0,.nul]),gi 5 (.mov 5 (.k (.v (.bool false))))]
def r_Z34_1 : List GI:=[gs 9 2 2,gs 10 3 2,gc 11 88 [.t 9,.t 10],gi 12 (.un 12 UnOp.not (.t 11))]
def r_Z34_2 : List GI:=[gi 13 (.build 13 [I 0,.nul] []),g0 (.sto 4 (.t 13) (some 2)),gi 5 (.mov 5 (.k (.v (.bool false))))]
def r_Z34_3 : List GI:=[gi 6 (.alloc 6 2000006 [.nul])]
def r_Z34_4 : List GI:=[gf 14 2 1,gl 15 14,gf 16 3 1,gl 17 16,⟨.call 18 89 [.t 15,.t 17,.k (.fn 90 [])],some 18,none,true⟩]
def r_Z34_5 : List GI:=[gt 7 19]
def r_Z34_6 : List GI:=[gt 8 20]
def r_Z34_7 : List GI:=[gl 21 6,gt 22 7,gt 23 7,gn 24 23,gt 25 8,gn 26 25,gi 27 (.mm 27 false (.t 24) (.t 26)),gi 28 (.slc 28 (.t 22) (some (.t 27)) none 1),gi 29 (.app 29 2000029 (.t 21) (.t 28) 1 24),g0 (.sto 6 (.t 29) none)]
def r_Z34_8 : List GI:=[gf 30 2 0,gl 31 30,gl 32 6,gc 33 67 [.t 32],gi 34 (.build 34 [I 0,.nul] [(0,(none,.t 31)),(1,(none,.t 33))]),g0 (.sto 4 (.t 34) (some 2)),gi 5 (.mov 5 (.k (.v (.bool true))))]
def dc_Z34 : DC:=.seq (.z r_Z34_0) (.seq (.seq (.z r_Z34_1) (.cond (.t 12) (.seq (.z r_Z34_2) .ret) .skip)) (.seq (.z r_Z34_3) (.seq (.seq (.z r_Z34_4) (.block 0 (.rng (.t 18) [19,20] (.seq (.z r_Z34_5) (.z r_Z34_6)) (.block 1 (.reg r_Z34_7 (some [0,0,0,4,0,16,60,126,255,511])))))) (.seq (.reg r_Z34_8 (some [0,1,0,4,15,31,63])) .ret))))
theorem c_Z34 : cfun Try.prog [] 48 = some (35,dc_Z34,[(Res.cell 4 (some 2)),(Res.tmp 5)]):=by kernel_rfl
def r_Z16_0 : List GI:=[gi 2 (.box 2 2000002 (.t 0) (some 2)),gi 3 (.box 3 2000003 (.t 1) (some 2)),gi 4 (.alloc 4 2000004 [I 0,.nul]),gi 5 (.mov 5 (.k (.v (.bool false))))]
def r_Z16_1 : List GI:=[gs 9 2 2,gs 10 3 2,gc 11 88 [.t 9,.t 10],gi 12 (.un 12 UnOp.not (.t 11))]
def r_Z16_2 : List GI:=[gi 13 (.build 13 [I 0,.nul] []),g0 (.sto 4 (.t 13) (some 2)),gi 5 (.mov 5 (.k (.v (.bool false))))]
def r_Z16_3 : List GI:=[gi 6 (.alloc 6 2000006 [.nul])]
def r_Z16_4 : List GI:=[gf 14 2 1,gl 15 14,gf 16 3 1,gl 17 16,⟨.call 18 89 [.t 15,.t 17,.k (.fn 90 [])],some 18,none,true⟩]
def r_Z16_5 : List GI:=[gt 7 19]
def r_Z16_6 : List GI:=[gt 8 20]
def r_Z16_7 : List GI:=[gl 21 6,gt 22 7,gt 23 7,gn 24 23,gt 25 8,gn 26 25,gi 27 (.mm 27 false (.t 24) (.t 26)),gi 28 (.slc 28 (.t 22) none (some (.t 27)) 1),gi 29 (.app 29 2000029 (.t 21) (.t 28) 1 24),g0 (.sto 6 (.t 29) none)]
def r_Z16_8 : List GI:=[gf 30 2 0,gl 31 30,gl 32 6,gc 33 67 [.t 32],gi 34 (.build 34 [I 0,.nul] [(0,(none,.t 31)),(1,(none,.t 33))]),g0 (.sto 4 (.t 34) (some 2)),gi 5 (.mov 5 (.k (.v (.bool true))))]
def dc_Z16 : DC:=.seq (.z r_Z16_0) (.seq (.seq (.z r_Z16_1) (.cond (.t 12) (.seq (.z r_Z16_2) .ret) .skip)) (.seq (.z r_Z16_3) (.seq (.seq (.z r_Z16_4) (.block 0 (.rng (.t 18) [19,20] (.seq (.z r_Z16_5) (.z r_Z16_6)) (.block 1 (.reg r_Z16_7 (some [0,0,0,4,0,16,60,126,255,511])))))) (.seq (.reg r_Z16_8 (some [0,1,0,4,15,31,63])) .ret))))
theorem c_Z16 : cfun Try.prog [] 46 = some (35,dc_Z16,[(Res.cell 4 (some 2)),(Res.tmp 5)]):=by kernel_rfl
def r_Z42_0 : List GI:=[gi 2 (.box 2 2000002 (.t 0) (some 2)),gi 3 (.box 3 2000003 (.t 1) (some 2)),gi 4 (.alloc 4 2000004 [I 0,.nul]),gi 5 (.mov 5 (.k (.v (.bool false))))]
def r_Z42_1 : List GI:=[gs 6 2 2,gc 7 57 [.t 6],gi 8 (.un 8 UnOp.not (.t 7)),gt 9 8,⟨.lod 10 3 (some 2),some 10,some (9,false),false⟩,⟨.call 11 57 [.t 10],some 11,some (9,false),true⟩,⟨.un 12 UnOp.not (.t 11),some 12,some (9,false),false⟩,gi 13 (.pick 13 (.t 9) (.k (.v (.bool true))) (.t 12)),gt 14 13,⟨.fad 15 2 0,some 15,some (14,false),false⟩,⟨.lod 16 15 none,some 16,some (14,false),false⟩,⟨.fad 17 3 0,some 17,some (14,false),false⟩,⟨.lod 18 17 none,some 18,some (14,false),false⟩,⟨.bin 19 .neq (.t 16) (.t 18),some 19,some (14,false),false⟩,gi 20 (.pick 20 (.t 14) (.k (.v (.bool true))) (.t 19))]
def r_Z42_2 : List GI:=[gi 21 (.build 21 [I 0,.nul] []),g0 (.sto 4 (.t 21) (some 2)),gi 5 (.mov 5 (.k (.v (.bool false))))]
def r_Z42_3 : List GI:=[gs 22 2 2,gs 23 3 2,gc 24 87 [.t 22,.t 23,.k (.v (.bool false))],g0 (.sto 4 (.t 24) (some 2)),gi 5 (.mov 5 (.k (.v (.bool true))))]
def dc_Z42 : DC:=.seq (.z r_Z42_0) (.seq (.seq (.z r_Z42_1) (.cond (.t 20) (.seq (.z r_Z42_2) .ret) .skip)) (.seq (.z r_Z42_3) .ret))
theorem c_Z42 : cfun Try.prog [] 47 = some (25,dc_Z42,[(Res.cell 4 (some 2)),(Res.tmp 5)]):=by kernel_rfl
def r_Z17_0 : List GI:=[gi 2 (.box 2 2000002 (.t 0) (some 2)),gi 3 (.box 3 2000003 (.t 1) (some 2)),gi 4 (.alloc 4 2000004 [I 0,.nul]),gi 5 (.mov 5 (.k (.v (.bool false))))]
def r_Z17_1 : List GI:=[gs 6 2 2,gc 7 57 [.t 6],gi 8 (.un 8 UnOp.not (.t 7)),gt 9 8,⟨.lod 10 3 (some 2),some 10,some (9,false),false⟩,⟨.call 11 57 [.t 10],some 11,some (9,false),true⟩,⟨.un 12 UnOp.not (.t 11),some 12,some (9,false),false⟩,gi 13 (.pick 13 (.t 9) (.k (.v (.bool true))) (.t 12)),gt 14 13,⟨.fad 15 2 0,some 15,some (14,false),false⟩,⟨.lod 16 15 none,some 16,some (14,false),false⟩,⟨.fad 17 3 0,some 17,some (14,false),false⟩,⟨.lod 18 17 none,some 18,some (14,false),false⟩,⟨.bin 19 .neq (.t 16) (.t 18),some 19,some (14,false),false⟩,gi 20 (.pick 20 (.t 14) (.k (.v (.bool true))) (.t 19))]
def r_Z17_2 : List GI:=[gi 21 (.build 21 [I 0,.nul] []),g0 (.sto 4 (.t 21) (some 2)),gi 5 (.mov 5 (.k (.v (.bool false))))]
def r_Z17_3 : List GI:=[gs 22 2 2,gs 23 3 2,gc 24 87 [.t 22,.t 23,.k (.v (.bool true))],g0 (.sto 4 (.t 24) (some 2)),gi 5 (.mov 5 (.k (.v (.bool true))))]
def dc_Z17 : DC:=.seq (.z r_Z17_0) (.seq (.seq (.z r_Z17_1) (.cond (.t 20) (.seq (.z r_Z17_2) .ret) .skip)) (.seq (.z r_Z17_3) .ret))
theorem c_Z17 : cfun Try.prog [] 45 = some (25,dc_Z17,[(Res.cell 4 (some 2)),(Res.tmp 5)]):=by kernel_rfl
def r_Z57_0 : List GI:=[gi 3 (.box 3 2000003 (.t 0) (some 2)),gi 4 (.box 4 2000004 (.t 1) (some 2)),gi 6 (.alloc 6 2000006 [I 0,.nul])]
def r_Z57_1 : List GI:=[gi 12 (.mov 12 (.k .nul)),gt 7 12]
def r_Z57_2 : List GI:=[gk 8 0]
def r_Z57_3 : List GI:=[gt 13 8,gf 14 3 1,gl 15 14,gn 16 15,gb 17 .lss 13 16]
def r_Z57_4 : List GI:=[gt 20 7,gf 21 3 1,gl 22 21,gt 23 8,ga 24 22 23 1,gl 25 24,gc 26 120 [.t 20,.t 25],gt 9 26]
def r_Z57_5 : List GI:=[gf 27 3 1,gl 28 27,gt 29 8,gi 30 (.slc 30 (.t 28) none (some (.t 29)) 1),gf 31 3 1,gl 32 31,gt 33 8,ga 34 32 33 1,gl 35 34,gc 36 120 [.t 30,.t 35],gt 10 36]
def r_Z57_6 : List GI:=[gf 37 4 1,gl 38 37,gf 39 3 1,gl 40 39,gt 41 8,ga 42 40 41 1,gl 43 42,gc 44 120 [.t 38,.t 43],gt 11 44]
def r_Z57_7 : List GI:=[gt 45 2,gt 46 45,⟨.mov 47 (.t 9),some 47,some (46,true),false⟩,⟨.mov 48 (.t 11),some 48,some (46,true),false⟩,⟨.bin 49 .lss (.t 47) (.t 48),some 49,some (46,true),false⟩,gi 50 (.pick 50 (.t 46) (.t 49) (.k (.v (.bool false)))),gt 51 50,⟨.mov 52 (.t 2),some 52,some (51,false),false⟩,⟨.un 53 UnOp.not (.t 52),some 53,some (51,false),false⟩,⟨.mov 54 (.t 53),some 54,some (51,false),false⟩,⟨.mov 55 (.t 10),some 55,some (54,true),false⟩,⟨.mov 56 (.t 11),some 56,some (54,true),false⟩,⟨.bin 57 .geq (.t 55) (.t 56),some 57,some (54,true),false⟩,⟨.pick 58 (.t 54) (.t 57) (.k (.v (.bool false))),some 58,some (51,false),false⟩,gi 59 (.pick 59 (.t 51) (.k (.v (.bool true))) (.t 58))]
def r_Z57_8 : List GI:=[gt 60 7,gf 61 3 1,gl 62 61,gt 63 8,ga 64 62 63 1,gl 65 64,gi 66 (.bsl 66 1 none [.nul] [(0,.t 65)]),gi 67 (.app 67 2000067 (.t 60) (.t 66) 1 24),gt 7 67]
def r_Z57_9 : List GI:=[gt 18 8,gd 19 .add 18 1,gt 8 19]
def r_Z57_10 : List GI:=[gf 68 3 0,gl 69 68,gt 70 7,gc 71 63 [.t 69,.t 70],g0 (.sto 6 (.t 71) (some 2))]
def dc_Z57 : DC:=.seq (.z r_Z57_0) (.seq (.z r_Z57_1) (.seq (.seq (.z r_Z57_2) (.block 0 (.loop (.seq (.seq (.z r_Z57_3) (.cond (.t 17) .skip (.exit 0))) (.seq (.block 1 (.seq (.z r_Z57_4) (.seq (.reg r_Z57_5 (some [0,1,0,7,0,16,0,112,240,511,1023])) (.seq (.reg r_Z57_6 (some [0,1,0,4,0,28,60,127,255])) (.seq (.z r_Z57_7) (.cond (.t 59) (.z r_Z57_8) .skip)))))) (.z r_Z57_9)))))) (.seq (.z r_Z57_10) .ret)))
theorem c_Z57 : cfun Try.prog [] 87 = some (72,dc_Z57,[(Res.cell 6 (some 2))]):=by kernel_rfl
end
end Go.Proofs.Ytedmegmhjmabcaa
