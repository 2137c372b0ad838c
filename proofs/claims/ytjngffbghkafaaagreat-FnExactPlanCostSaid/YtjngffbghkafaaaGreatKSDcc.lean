/-
  Functions of the program read as code on plain data. Closed facts of the program alone.
-/
import Derived.KernelRfl
import Derived.Test.YtjngffbghkafaaaGreatRows
import Derived.Test.YtjngffbghkafaaaGreatJSVGo
import Derived.Test.YtjngffbghkafaaaGreatJSVGi
namespace Go.Proofs.YtjngffbghkafaaaGreat
open Go.RowKit
noncomputable section
def r_Z12_0 : List GI:=[gi 2 (.box 2 2000002 (.t 0) none),gi 3 (.box 3 2000003 (.t 1) none),gi 4 (.mov 4 (.k .nul))]
def r_Z12_1 : List GI:=[gl 8 2,gi 9 (.nilc 9 8),gf 10 9 0,gl 11 10,gi 12 (.mkf 12 239 [.t 2,.t 3]),gc 13 238 [.t 11,.t 12],gt 5 13]
def r_Z12_2 : List GI:=[gl 14 2,gi 15 (.nilc 15 14),gf 16 15 0,gl 17 16,gt 18 5,gi 19 (.slc 19 (.t 17) (some (.t 18)) none 1),gt 6 19]
def r_Z12_3 : List GI:=[gt 20 6,gi 21 (.mkf 21 240 [.t 2,.t 3]),gc 22 238 [.t 20,.t 21],gt 7 22]
def r_Z12_4 : List GI:=[gl 23 2,gt 24 6,gt 25 7,gi 26 (.slc 26 (.t 24) (some (.t 25)) none 1),gi 27 (.nilc 27 23),gf 28 27 0,g0 (.sto 28 (.t 26) none)]
def r_Z12_5 : List GI:=[gt 29 6,gt 30 7,gi 31 (.slc 31 (.t 29) none (some (.t 30)) 1),gt 4 31]
def dc_Z12 : DC:=.seq (.z r_Z12_0) (.seq (.z r_Z12_1) (.seq (.z r_Z12_2) (.seq (.z r_Z12_3) (.seq (.reg r_Z12_4 (some [0,0,0,6,15,31,63])) (.seq (.z r_Z12_5) .ret)))))
theorem c_Z12 : cfun Tryz.prog [] 223 = some (32,dc_Z12,[(Res.tmp 4)]):=by kernel_rfl
def r_Z10_0 : List GI:=[gi 4 (.mov 4 (.k (.v (.bool false))))]
def r_Z10_1 : List GI:=[gl 5 1,gi 6 (.nilc 6 5),gf 7 6 1,gl 8 7,gt 9 0,gl 10 2,⟨.cal 11 (.t 8) [.t 9,.t 10],some 11,none,true⟩,gd 12 .geq 11 0,gt 4 12]
def dc_Z10 : DC:=.seq (.z r_Z10_0) (.seq (.reg r_Z10_1 (some [0,1,3,7,0,0,63,127,255])) .ret)
theorem c_Z10 : cfun Tryz.prog [] 239 = some (13,dc_Z10,[(Res.tmp 4)]):=by kernel_rfl
def r_Z11_0 : List GI:=[gi 4 (.mov 4 (.k (.v (.bool false))))]
def r_Z11_1 : List GI:=[gl 5 1,gi 6 (.nilc 6 5),gf 7 6 1,gl 8 7,gt 9 0,gl 10 2,⟨.cal 11 (.t 8) [.t 9,.t 10],some 11,none,true⟩,gd 12 .gtr 11 0,gt 4 12]
def dc_Z11 : DC:=.seq (.z r_Z11_0) (.seq (.reg r_Z11_1 (some [0,1,3,7,0,0,63,127,255])) .ret)
theorem c_Z11 : cfun Tryz.prog [] 240 = some (13,dc_Z11,[(Res.tmp 4)]):=by kernel_rfl
def r_Z20_0 : List GI:=[gi 2 (.box 2 2000002 (.t 0) none),gi 3 (.box 3 2000003 (.t 1) none),gi 4 (.mov 4 (.k (.v .nilFunc)))]
def r_Z20_1 : List GI:=[gi 5 (.mkf 5 222 [.t 2,.t 3]),gt 4 5]
def dc_Z20 : DC:=.seq (.z r_Z20_0) (.seq (.z r_Z20_1) .ret)
theorem c_Z20 : cfun Tryz.prog [] 192 = some (6,dc_Z20,[(Res.tmp 4)]):=by kernel_rfl
def r_Z17_0 : List GI:=[gl 5 1,gl 6 2,gi 7 (.build 7 [.nul,.v .nilFunc] [(0,(none,.t 5)),(1,(none,.t 6))]),gi 4 (.alloc 4 2000004 [.nul,.v .nilFunc]),g0 (.sto 4 (.t 7) (some 2))]
def r_Z17_1 : List GI:=[gf 8 4 0,gl 9 8,gn 10 9,gd 11 .gtr 10 0]
def r_Z17_2 : List GI:=[gt 12 0,gf 13 4 0,gl 14 13,gi 15 (.iad 15 14 (.k (I 0)) 1),gl 16 15,gc 17 223 [.t 4,.t 16],⟨.cal 18 (.t 12) [.t 17],some 18,none,true⟩,gi 19 (.un 19 UnOp.not (.t 18))]
def dc_Z17 : DC:=.seq (.z r_Z17_0) (.block 0 (.loop (.seq (.seq (.z r_Z17_1) (.cond (.t 11) .skip (.exit 0))) (.block 1 (.seq (.z r_Z17_2) (.cond (.t 19) .ret .skip))))))
theorem c_Z17 : cfun Tryz.prog [] 222 = some (20,dc_Z17,[]):=by kernel_rfl
def r_Z14_0 : List GI:=[gk 4 0]
def r_Z14_1 : List GI:=[gt 8 0,gn 9 8,gk 5 0,gt 6 9]
def r_Z14_2 : List GI:=[gt 10 5,gt 11 6,gb 12 .lss 10 11]
def r_Z14_3 : List GI:=[gt 13 5,gt 14 6,gb 15 .add 13 14,gd 16 .quo 15 2,gt 7 16]
def r_Z14_4 : List GI:=[gt 17 1,gt 18 0,gt 19 7,ga 20 18 19 1,gl 21 20,⟨.cal 22 (.t 17) [.t 21],some 22,none,true⟩]
def r_Z14_5 : List GI:=[gt 23 7,gt 6 23]
def r_Z14_6 : List GI:=[gt 24 7,gd 25 .add 24 1,gt 5 25]
def r_Z14_7 : List GI:=[gt 26 5,gt 4 26]
def dc_Z14 : DC:=.seq (.z r_Z14_0) (.seq (.z r_Z14_1) (.seq (.block 0 (.loop (.seq (.seq (.z r_Z14_2) (.cond (.t 12) .skip (.exit 0))) (.block 1 (.seq (.z r_Z14_3) (.seq (.z r_Z14_4) (.cond (.t 22) (.z r_Z14_5) (.z r_Z14_6)))))))) (.seq (.z r_Z14_7) .ret)))
theorem c_Z14 : cfun Tryz.prog [] 238 = some (27,dc_Z14,[(Res.tmp 4)]):=by kernel_rfl
def r_Z86_0 : List GI:=[gi 4 (.mov 4 (.k .nul))]
def r_Z86_1 : List GI:=[gt 5 0,gc 6 152 [.t 5],gt 7 1,gc 8 224 [.t 6,.t 7],gt 4 8]
def dc_Z86 : DC:=.seq (.z r_Z86_0) (.seq (.z r_Z86_1) .ret)
theorem c_Z86 : cfun Tryz.prog [] 193 = some (9,dc_Z86,[(Res.tmp 4)]):=by kernel_rfl
def r_Z13_0 : List GI:=[gi 4 (.mov 4 (.k .nul))]
def r_Z13_1 : List GI:=[gt 6 0,gc 7 241 [.t 6],gt 5 7]
def r_Z13_2 : List GI:=[gt 8 5,gt 9 1,gc 10 95 [.t 8,.t 9]]
def r_Z13_3 : List GI:=[gt 11 5,gt 4 11]
def dc_Z13 : DC:=.seq (.z r_Z13_0) (.seq (.z r_Z13_1) (.seq (.z r_Z13_2) (.seq (.z r_Z13_3) .ret)))
theorem c_Z13 : cfun Tryz.prog [] 224 = some (12,dc_Z13,[(Res.tmp 4)]):=by kernel_rfl
def r_Z68_0 : List GI:=[gi 2 (.mov 2 (.k .nul))]
def r_Z68_1 : List GI:=[gt 3 0,gc 4 145 [.t 3],gc 5 144 [.t 4],gt 2 5]
def dc_Z68 : DC:=.seq (.z r_Z68_0) (.seq (.z r_Z68_1) .ret)
theorem c_Z68 : cfun Tryz.prog [] 93 = some (6,dc_Z68,[(Res.tmp 2)]):=by kernel_rfl
def r_Z97_0 : List GI:=[gi 2 (.mov 2 (.k .nul))]
def r_Z97_1 : List GI:=[gi 3 (.alloc 3 2000003 [.nul])]
def r_Z97_2 : List GI:=[gt 5 0]
def r_Z97_3 : List GI:=[gt 4 6]
def r_Z97_4 : List GI:=[gl 7 3,gt 8 4,gi 9 (.bsl 9 1 none [.nul] [(0,.t 8)]),gi 10 (.app 10 2000010 (.t 7) (.t 9) 1 24),g0 (.sto 3 (.t 10) none)]
def r_Z97_5 : List GI:=[gl 11 3,gn 12 11,gd 13 .gtr 12 400]
def r_Z97_6 : List GI:=[gl 14 3,gt 2 14]
def dc_Z97 : DC:=.seq (.z r_Z97_0) (.seq (.z r_Z97_1) (.seq (.seq (.z r_Z97_2) (.block 0 (.rng (.t 5) [6] (.z r_Z97_3) (.block 1 (.seq (.z r_Z97_4) (.seq (.z r_Z97_5) (.cond (.t 13) (.exit 0) .skip))))))) (.seq (.z r_Z97_6) .ret)))
theorem c_Z97 : cfun Tryz.prog [] 145 = some (15,dc_Z97,[(Res.tmp 2)]):=by kernel_rfl
def r_Z85_0 : List GI:=[gi 2 (.mov 2 (.k .nul))]
def r_Z85_1 : List GI:=[gt 3 0,gn 4 3,gd 5 .gtr 4 400]
def r_Z85_2 : List GI:=[gi 2 (.mov 2 (.k .nul))]
def r_Z85_3 : List GI:=[gt 6 0,gt 2 6]
def dc_Z85 : DC:=.seq (.z r_Z85_0) (.seq (.seq (.z r_Z85_1) (.cond (.t 5) (.seq (.z r_Z85_2) .ret) .skip)) (.seq (.z r_Z85_3) .ret))
theorem c_Z85 : cfun Tryz.prog [] 144 = some (7,dc_Z85,[(Res.tmp 2)]):=by kernel_rfl
def r_Z148_0 : List GI:=[gi 2 (.mov 2 (.k .nul))]
def r_Z148_1 : List GI:=[gi 3 (.mov 3 (.k .nul)),gt 4 0,gi 5 (.app 5 2000005 (.t 3) (.t 4) 2 16),gt 2 5]
def dc_Z148 : DC:=.seq (.z r_Z148_0) (.seq (.z r_Z148_1) .ret)
theorem c_Z148 : cfun Tryz.prog [] 141 = some (6,dc_Z148,[(Res.tmp 2)]):=by kernel_rfl
def r_Z105_0 : List GI:=[gi 4 (.mov 4 (.k .nul))]
def r_Z105_1 : List GI:=[gk 5 0]
def r_Z105_2 : List GI:=[gt 9 0,gn 10 9,gt 6 10]
def r_Z105_3 : List GI:=[gt 11 5,gt 12 6,gb 13 .lss 11 12]
def r_Z105_4 : List GI:=[gt 14 5,gt 15 6,gb 16 .add 14 15,gd 17 .quo 16 2,gt 7 17]
def r_Z105_5 : List GI:=[gt 18 0,gt 19 7,ga 20 18 19 1,gl 21 20,gt 22 1,gc 23 129 [.t 21,.t 22],gd 24 .leq 23 0]
def r_Z105_6 : List GI:=[gt 25 7,gd 26 .add 25 1,gt 5 26]
def r_Z105_7 : List GI:=[gt 27 7,gt 6 27]
def r_Z105_8 : List GI:=[gi 28 (.mov 28 (.k .nul)),gt 29 0,gt 30 5,gi 31 (.slc 31 (.t 29) none (some (.t 30)) 1),gi 32 (.app 32 2000032 (.t 28) (.t 31) 1 24),gt 8 32]
def r_Z105_9 : List GI:=[gt 33 8,gt 34 1,gc 35 141 [.t 34],gi 36 (.bsl 36 1 none [.nul] [(0,.t 35)]),gi 37 (.app 37 2000037 (.t 33) (.t 36) 1 24),gt 8 37]
def r_Z105_10 : List GI:=[gt 38 8,gt 39 0,gt 40 5,gi 41 (.slc 41 (.t 39) (some (.t 40)) none 1),gi 42 (.app 42 2000042 (.t 38) (.t 41) 1 24),gt 4 42]
def dc_Z105 : DC:=.seq (.z r_Z105_0) (.seq (.z r_Z105_1) (.seq (.z r_Z105_2) (.seq (.block 0 (.loop (.seq (.seq (.z r_Z105_3) (.cond (.t 13) .skip (.exit 0))) (.block 1 (.seq (.z r_Z105_4) (.seq (.z r_Z105_5) (.cond (.t 24) (.z r_Z105_6) (.z r_Z105_7)))))))) (.seq (.z r_Z105_8) (.seq (.z r_Z105_9) (.seq (.z r_Z105_10) .ret))))))
theorem c_Z105 : cfun Tryz.prog [] 160 = some (43,dc_Z105,[(Res.tmp 4)]):=by kernel_rfl
def r_Z151_0 : List GI:=[gi 4 (.alloc 4 2000004 [I 0,.nul])]
def r_Z151_1 : List GI:=[gt 7 0,gi 8 (.build 8 [I 0,.nul] [(0,(none,.t 7))]),gi 5 (.alloc 5 2000005 [I 0,.nul]),g0 (.sto 5 (.t 8) (some 2))]
def r_Z151_2 : List GI:=[gt 9 1,gn 10 9,gd 11 .gtr 10 400]
def r_Z151_3 : List GI:=[gs 12 5 2,g0 (.sto 4 (.t 12) (some 2))]
def r_Z151_4 : List GI:=[gk 6 0]
def r_Z151_5 : List GI:=[gt 13 6,gt 14 1,gn 15 14,gb 16 .lss 13 15]
def r_Z151_6 : List GI:=[gf 19 5 1,gl 20 19,gt 21 1,gt 22 6,ga 23 21 22 1,gl 24 23,gc 25 160 [.t 20,.t 24],gf 26 5 1,g0 (.sto 26 (.t 25) none)]
def r_Z151_7 : List GI:=[gt 17 6,gd 18 .add 17 1,gt 6 18]
def r_Z151_8 : List GI:=[gs 27 5 2,g0 (.sto 4 (.t 27) (some 2))]
def dc_Z151 : DC:=.seq (.z r_Z151_0) (.seq (.z r_Z151_1) (.seq (.seq (.z r_Z151_2) (.cond (.t 11) (.seq (.z r_Z151_3) .ret) .skip)) (.seq (.seq (.z r_Z151_4) (.block 0 (.loop (.seq (.seq (.z r_Z151_5) (.cond (.t 16) .skip (.exit 0))) (.seq (.block 1 (.reg r_Z151_6 (some [0,1,0,0,12,28,63,127,255]))) (.z r_Z151_7)))))) (.seq (.z r_Z151_8) .ret))))
theorem c_Z151 : cfun Tryz.prog [] 98 = some (28,dc_Z151,[(Res.cell 4 (some 2))]):=by kernel_rfl
def r_Z79_0 : List GI:=[gi 2 (.box 2 2000002 (.t 0) (some 2)),gi 3 (.box 3 2000003 (.t 1) (some 5)),gi 4 (.alloc 4 2000004 [I 0,.nul])]
def r_Z79_1 : List GI:=[gi 7 (.mov 7 (.k .nul)),gt 5 7]
def r_Z79_2 : List GI:=[gk 6 0]
def r_Z79_3 : List GI:=[gt 8 6,gf 9 2 1,gl 10 9,gn 11 10,gb 12 .lss 8 11]
def r_Z79_4 : List GI:=[gs 15 3 5,gf 16 2 1,gl 17 16,gt 18 6,ga 19 17 18 1,gl 20 19,gc 21 161 [.t 15,.t 20]]
def r_Z79_5 : List GI:=[gt 22 5,gf 23 2 1,gl 24 23,gt 25 6,ga 26 24 25 1,gl 27 26,gi 28 (.bsl 28 1 none [.nul] [(0,.t 27)]),gi 29 (.app 29 2000029 (.t 22) (.t 28) 1 24),gt 5 29]
def r_Z79_6 : List GI:=[gt 13 6,gd 14 .add 13 1,gt 6 14]
def r_Z79_7 : List GI:=[gf 30 2 0,gl 31 30,gt 32 5,gc 33 98 [.t 31,.t 32],g0 (.sto 4 (.t 33) (some 2))]
def dc_Z79 : DC:=.seq (.z r_Z79_0) (.seq (.z r_Z79_1) (.seq (.seq (.z r_Z79_2) (.block 0 (.loop (.seq (.seq (.z r_Z79_3) (.cond (.t 12) .skip (.exit 0))) (.seq (.block 1 (.seq (.reg r_Z79_4 (some [0,0,2,0,14,30,63])) (.cond (.t 21) (.z r_Z79_5) .skip))) (.z r_Z79_6)))))) (.seq (.z r_Z79_7) .ret)))
theorem c_Z79 : cfun Tryz.prog [] 99 = some (34,dc_Z79,[(Res.cell 4 (some 2))]):=by kernel_rfl
def r_Z167_0 : List GI:=[gi 2 (.box 2 2000002 (.t 0) (some 5)),gi 4 (.mov 4 (.k (.v (.bool false))))]
def r_Z167_1 : List GI:=[gs 5 2 5,gt 6 1,gc 7 162 [.t 5,.t 6],gc 8 208 [.t 7],gd 9 .eql 8 1,gt 4 9]
def dc_Z167 : DC:=.seq (.z r_Z167_0) (.seq (.z r_Z167_1) .ret)
theorem c_Z167 : cfun Tryz.prog [] 161 = some (10,dc_Z167,[(Res.tmp 4)]):=by kernel_rfl
def r_Z66_0 : List GI:=[gi 1 (.box 1 2000001 (.t 0) (some 2)),gk 2 0]
def r_Z66_1 : List GI:=[gf 4 1 0,gl 5 4,gt 3 5]
def r_Z66_2 : List GI:=[gk 2 1]
def r_Z66_3 : List GI:=[gf 7 1 1,gl 8 7,gd 9 .eql 8 0,gt 6 9]
def r_Z66_4 : List GI:=[gk 2 0]
def r_Z66_5 : List GI:=[gk 2 2]
def dc_Z66 : DC:=.seq (.z r_Z66_0) (.seq (.block 0 (.seq (.z r_Z66_1) (.cond (.t 3) (.seq (.z r_Z66_2) .ret) (.seq (.z r_Z66_3) (.cond (.t 6) (.seq (.z r_Z66_4) .ret) .skip))))) (.seq (.z r_Z66_5) .ret))
theorem c_Z66 : cfun Tryz.prog [] 181 = some (10,dc_Z66,[(Res.tmp 2)]):=by kernel_rfl
def r_Z45_0 : List GI:=[gi 2 (.box 2 2000002 (.t 0) (some 2)),gi 4 (.alloc 4 2000004 [.v (.bool false),I 0])]
def r_Z45_1 : List GI:=[gf 8 2 0,gs 9 8 2,gt 10 1,gc 11 325 [.t 9,.t 10],gt 7 11,gi 12 (.ext 12 7 0),gi 13 (.ext 13 7 1),gt 5 12,gt 6 13]
def r_Z45_2 : List GI:=[gt 14 5,gt 15 6,gi 16 (.mm 16 false (.t 14) (.t 15)),gc 17 284 [.t 16],g0 (.sto 4 (.t 17) (some 2))]
def dc_Z45 : DC:=.seq (.z r_Z45_0) (.seq (.z r_Z45_1) (.seq (.z r_Z45_2) .ret))
theorem c_Z45 : cfun Tryz.prog [] 324 = some (18,dc_Z45,[(Res.cell 4 (some 2))]):=by kernel_rfl
def r_Z30_0 : List GI:=[gi 2 (.box 2 2000002 (.t 0) (some 1)),gi 4 (.alloc 4 2000004 [.v (.bool false),I 0])]
def r_Z30_1 : List GI:=[gt 5 1,gf 6 2 0,gl 7 6,ga 8 5 7 2,gs 9 8 2,g0 (.sto 4 (.t 9) (some 2))]
def dc_Z30 : DC:=.seq (.z r_Z30_0) (.seq (.z r_Z30_1) .ret)
theorem c_Z30 : cfun Tryz.prog [] 305 = some (10,dc_Z30,[(Res.cell 4 (some 2))]):=by kernel_rfl
def r_Z26_0 : List GI:=[gi 2 (.box 2 2000002 (.t 0) (some 2)),gi 4 (.alloc 4 2000004 [.v (.bool false),I 0])]
def r_Z26_1 : List GI:=[gf 5 2 0,gs 6 5 2,g0 (.sto 4 (.t 6) (some 2))]
def dc_Z26 : DC:=.seq (.z r_Z26_0) (.seq (.z r_Z26_1) .ret)
theorem c_Z26 : cfun Tryz.prog [] 306 = some (7,dc_Z26,[(Res.cell 4 (some 2))]):=by kernel_rfl
end
end Go.Proofs.YtjngffbghkafaaaGreat
