/-
  Functions of the program read as code on plain data. Closed facts of the program alone.
-/
import Derived.KernelRfl
import Derived.Test.YtgpdmgaemhelgaaGreatRows
import Derived.Test.YtgpdmgaemhelgaaGreatJSVBox
import Derived.Test.YtgpdmgaemhelgaaGreatJSVYld
namespace Go.Proofs.YtgpdmgaemhelgaaGreat
open Go.RowKit
noncomputable section
def name_impl_visit : String:=match Tryz.prog.info? 175 with
 | some i=>((i.methods.toList[0]?).map (fun m=>m.name)).getD default
 | none=>default
def r_Z116_0 : List GI:=[gi 2 (.mov 2 (.k .nul))]
def r_Z116_1 : List GI:=[gi 3 (.mov 3 (.k .nul))]
def r_Z116_2 : List GI:=[gi 6 (.bsl 6 1 none [I 0,I 0,I 0] [(0,.k (I 0)),(1,.k (I 1)),(2,.k (I 2))]),gn 7 6,gk 8 0]
def r_Z116_3 : List GI:=[gb 9 .lss 8 7]
def r_Z116_4 : List GI:=[ga 10 6 8 1,gl 11 10,gt 5 11]
def r_Z116_5 : List GI:=[gt 12 0,gt 13 5,gc 14 208 [.t 13],gc 15 193 [.t 14],gb 16 .and 12 15,gd 17 .neq 16 0]
def r_Z116_6 : List GI:=[gt 18 3,gt 19 5,gi 20 (.bsl 20 1 none [I 0] [(0,.t 19)]),gi 21 (.app 21 2000021 (.t 18) (.t 20) 1 8),gt 3 21]
def r_Z116_7 : List GI:=[gd 22 .add 8 1,gt 8 22]
def r_Z116_8 : List GI:=[gt 23 3,gt 2 23]
def dc_Z116 : DC:=.seq (.z r_Z116_0) (.seq (.z r_Z116_1) (.seq (.seq (.z r_Z116_2) (.block 0 (.loop (.seq (.z r_Z116_3) (.seq (.cond (.t 9) .skip (.exit 0)) (.seq (.block 1 (.seq (.z r_Z116_4) (.seq (.z r_Z116_5) (.cond (.t 17) (.z r_Z116_6) .skip)))) (.z r_Z116_7))))))) (.seq (.z r_Z116_8) .ret)))
theorem c_Z116 : cfun Tryz.prog [] 206 = some (24,dc_Z116,[(Res.tmp 2)]):=by kernel_rfl
def r_Z140_0 : List GI:=[gi 1 (.box 1 2000001 (.t 0) (some 2)),gk 2 0]
def r_Z140_1 : List GI:=[gf 4 1 0,gl 5 4,gt 3 5]
def r_Z140_2 : List GI:=[gk 2 4]
def r_Z140_3 : List GI:=[gf 7 1 1,gl 8 7,gd 9 .eql 8 0,gt 6 9]
def r_Z140_4 : List GI:=[gk 2 1]
def r_Z140_5 : List GI:=[gk 2 2]
def dc_Z140 : DC:=.seq (.z r_Z140_0) (.seq (.block 0 (.seq (.z r_Z140_1) (.cond (.t 3) (.seq (.z r_Z140_2) .ret) (.seq (.z r_Z140_3) (.cond (.t 6) (.seq (.z r_Z140_4) .ret) .skip))))) (.seq (.z r_Z140_5) .ret))
theorem c_Z140 : cfun Tryz.prog [] 202 = some (10,dc_Z140,[(Res.tmp 2)]):=by kernel_rfl
def r_Z141_0 : List GI:=[gi 2 (.alloc 2 2000002 [.v (.bool false),I 0])]
def r_Z141_1 : List GI:=[gt 3 0]
def r_Z141_2 : List GI:=[gd 5 .eql 3 4,gt 4 5]
def r_Z141_3 : List GI:=[gi 6 (.build 6 [.v (.bool false),I 0] [(0,(none,.k (.v (.bool true))))]),g0 (.sto 2 (.t 6) (some 2))]
def r_Z141_4 : List GI:=[gd 8 .eql 3 2,gt 7 8]
def r_Z141_5 : List GI:=[gi 9 (.build 9 [.v (.bool false),I 0] [(1,(none,.k (I 1)))]),g0 (.sto 2 (.t 9) (some 2))]
def r_Z141_6 : List GI:=[gi 10 (.build 10 [.v (.bool false),I 0] []),g0 (.sto 2 (.t 10) (some 2))]
def dc_Z141 : DC:=.seq (.z r_Z141_0) (.seq (.seq (.z r_Z141_1) (.block 0 (.seq (.z r_Z141_2) (.cond (.t 4) (.seq (.z r_Z141_3) .ret) (.seq (.z r_Z141_4) (.cond (.t 7) (.seq (.z r_Z141_5) .ret) .skip)))))) (.seq (.z r_Z141_6) .ret))
theorem c_Z141 : cfun Tryz.prog [] 210 = some (11,dc_Z141,[(Res.cell 2 (some 2))]):=by kernel_rfl
def r_Z59_0 : List GI:=[gk 6 0]
def r_Z59_1 : List GI:=[gk 7 0]
def r_Z59_2 : List GI:=[gt 12 0,gc 13 206 [.t 12],gn 14 13,gk 15 0]
def r_Z59_3 : List GI:=[gb 16 .lss 15 14]
def r_Z59_4 : List GI:=[ga 17 13 15 1,gl 18 17,gt 9 18]
def r_Z59_5 : List GI:=[gt 19 1,gc 20 206 [.t 19],gn 21 20,gk 22 0]
def r_Z59_6 : List GI:=[gb 23 .lss 22 21]
def r_Z59_7 : List GI:=[ga 24 20 22 1,gl 25 24,gt 11 25]
def r_Z59_8 : List GI:=[gt 26 7,gt 27 2,gt 28 9,gt 29 11,⟨.cal 30 (.t 27) [.t 28,.t 29],some 30,none,true⟩,gc 31 208 [.t 30],gc 32 193 [.t 31],gb 33 .or 26 32,gt 7 33]
def r_Z59_9 : List GI:=[gd 34 .add 22 1,gt 22 34]
def r_Z59_10 : List GI:=[gd 35 .add 15 1,gt 15 35]
def r_Z59_11 : List GI:=[gt 36 7,gt 6 36]
def dc_Z59 : DC:=.seq (.z r_Z59_0) (.seq (.z r_Z59_1) (.seq (.seq (.z r_Z59_2) (.block 0 (.loop (.seq (.z r_Z59_3) (.seq (.cond (.t 16) .skip (.exit 0)) (.seq (.block 1 (.seq (.z r_Z59_4) (.seq (.z r_Z59_5) (.block 2 (.loop (.seq (.z r_Z59_6) (.seq (.cond (.t 23) .skip (.exit 2)) (.seq (.block 3 (.seq (.z r_Z59_7) (.z r_Z59_8))) (.z r_Z59_9))))))))) (.z r_Z59_10))))))) (.seq (.z r_Z59_11) .ret)))
theorem c_Z59 : cfun Tryz.prog [] 196 = some (37,dc_Z59,[(Res.tmp 6)]):=by kernel_rfl
def r_Z68_0 : List GI:=[gk 6 0]
def r_Z68_1 : List GI:=[gk 7 0]
def r_Z68_2 : List GI:=[gk 8 1]
def r_Z68_3 : List GI:=[gt 10 8,gd 11 .leq 10 4]
def r_Z68_4 : List GI:=[gk 9 1]
def r_Z68_5 : List GI:=[gt 14 9,gd 15 .leq 14 4]
def r_Z68_6 : List GI:=[gt 18 1,gt 19 8,gb 20 .quo 18 19,gd 21 .rem 20 2,gd 22 .eql 21 1,gt 23 22,⟨.mov 24 (.t 2),some 24,some (23,true),false⟩,⟨.mov 25 (.t 9),some 25,some (23,true),false⟩,⟨.bin 26 .quo (.t 24) (.t 25),some 26,some (23,true),false⟩,⟨.bin 27 .rem (.t 26) (.k (I 2)),some 27,some (23,true),false⟩,⟨.bin 28 .eql (.t 27) (.k (I 1)),some 28,some (23,true),false⟩,gi 29 (.pick 29 (.t 23) (.t 28) (.k (.v (.bool false))))]
def r_Z68_7 : List GI:=[gt 30 7,gt 31 0,gt 32 8,gc 33 210 [.t 32],gt 34 9,gc 35 210 [.t 34],gc 36 209 [.t 31,.t 33,.t 35],gc 37 202 [.t 36],gb 38 .or 30 37,gt 7 38]
def r_Z68_8 : List GI:=[gt 16 9,gi 17 (.bin 17 .mul (.k (I 2)) (.t 16)),gt 9 17]
def r_Z68_9 : List GI:=[gt 12 8,gi 13 (.bin 13 .mul (.k (I 2)) (.t 12)),gt 8 13]
def r_Z68_10 : List GI:=[gt 39 7,gt 6 39]
def dc_Z68 : DC:=.seq (.z r_Z68_0) (.seq (.z r_Z68_1) (.seq (.seq (.z r_Z68_2) (.block 0 (.loop (.seq (.seq (.z r_Z68_3) (.cond (.t 11) .skip (.exit 0))) (.seq (.block 1 (.seq (.z r_Z68_4) (.block 2 (.loop (.seq (.seq (.z r_Z68_5) (.cond (.t 15) .skip (.exit 2))) (.seq (.block 3 (.seq (.z r_Z68_6) (.cond (.t 29) (.z r_Z68_7) .skip))) (.z r_Z68_8))))))) (.z r_Z68_9)))))) (.seq (.z r_Z68_10) .ret)))
theorem c_Z68 : cfun Tryz.prog [] 203 = some (40,dc_Z68,[(Res.tmp 6)]):=by kernel_rfl
def r_Z17_0 : List GI:=[gk 4 0]
def r_Z17_1 : List GI:=[gt 6 0,gt 7 1,gc 8 199 [.t 6,.t 7],gt 5 8]
def r_Z17_2 : List GI:=[gt 9 5,gd 10 .and 9 3,gd 11 .neq 10 0]
def r_Z17_3 : List GI:=[gt 12 5,gd 13 .or 12 4,gt 5 13]
def r_Z17_4 : List GI:=[gt 14 5,gt 4 14]
def dc_Z17 : DC:=.seq (.z r_Z17_0) (.seq (.z r_Z17_1) (.seq (.seq (.z r_Z17_2) (.cond (.t 11) (.z r_Z17_3) .skip)) (.seq (.z r_Z17_4) .ret)))
theorem c_Z17 : cfun Tryz.prog [] 200 = some (15,dc_Z17,[(Res.tmp 4)]):=by kernel_rfl
def r_Z18_0 : List GI:=[gk 4 0]
def r_Z18_1 : List GI:=[gt 6 0,gt 7 1,gb 8 .or 6 7,gd 9 .and 8 4,gt 5 9]
def r_Z18_2 : List GI:=[gt 10 0,gd 11 .and 10 3,gd 12 .neq 11 0,gt 13 12,⟨.mov 14 (.t 1),some 14,some (13,true),false⟩,⟨.bin 15 .and (.t 14) (.k (I 3)),some 15,some (13,true),false⟩,⟨.bin 16 .neq (.t 15) (.k (I 0)),some 16,some (13,true),false⟩,gi 17 (.pick 17 (.t 13) (.t 16) (.k (.v (.bool false))))]
def r_Z18_3 : List GI:=[gt 18 5,gd 19 .or 18 3,gt 5 19]
def r_Z18_4 : List GI:=[gt 20 5,gt 4 20]
def dc_Z18 : DC:=.seq (.z r_Z18_0) (.seq (.z r_Z18_1) (.seq (.seq (.z r_Z18_2) (.cond (.t 17) (.z r_Z18_3) .skip)) (.seq (.z r_Z18_4) .ret)))
theorem c_Z18 : cfun Tryz.prog [] 199 = some (21,dc_Z18,[(Res.tmp 4)]):=by kernel_rfl
def r_Z24_0 : List GI:=[gk 2 0]
def r_Z24_1 : List GI:=[gk 3 0]
def r_Z24_2 : List GI:=[gt 4 0,gd 5 .and 4 4,gd 6 .neq 5 0]
def r_Z24_3 : List GI:=[gt 7 3,gd 8 .or 7 2,gt 3 8]
def r_Z24_4 : List GI:=[gt 9 0,gd 10 .and 9 3,gd 11 .neq 10 0]
def r_Z24_5 : List GI:=[gt 12 3,gd 13 .or 12 1,gt 3 13]
def r_Z24_6 : List GI:=[gt 14 3,gt 2 14]
def dc_Z24 : DC:=.seq (.z r_Z24_0) (.seq (.z r_Z24_1) (.seq (.seq (.z r_Z24_2) (.cond (.t 6) (.z r_Z24_3) .skip)) (.seq (.seq (.z r_Z24_4) (.cond (.t 11) (.z r_Z24_5) .skip)) (.seq (.z r_Z24_6) .ret))))
theorem c_Z24 : cfun Tryz.prog [] 195 = some (15,dc_Z24,[(Res.tmp 2)]):=by kernel_rfl
def r_Z71_0 : List GI:=[gk 4 0]
def r_Z71_1 : List GI:=[gt 5 0,gt 6 1,gi 7 (.mm 7 false (.t 5) (.t 6)),gt 4 7]
def dc_Z71 : DC:=.seq (.z r_Z71_0) (.seq (.z r_Z71_1) .ret)
theorem c_Z71 : cfun Tryz.prog [] 197 = some (8,dc_Z71,[(Res.tmp 4)]):=by kernel_rfl
def r_Z72_0 : List GI:=[gk 4 0]
def r_Z72_1 : List GI:=[gt 5 0,gt 6 1,gi 7 (.mm 7 true (.t 5) (.t 6)),gt 4 7]
def dc_Z72 : DC:=.seq (.z r_Z72_0) (.seq (.z r_Z72_1) .ret)
theorem c_Z72 : cfun Tryz.prog [] 198 = some (8,dc_Z72,[(Res.tmp 4)]):=by kernel_rfl
def r_Z114_0 : List GI:=[gi 2 (.box 2 2000002 (.t 0) (some 5)),gk 4 0]
def r_Z114_1 : List GI:=[gf 7 2 0,gl 8 7]
def r_Z114_2 : List GI:=[gd 10 .eql 8 1,gt 9 10]
def r_Z114_3 : List GI:=[gt 11 1,gf 12 2 1,gl 13 12,ga 14 11 13 1,gl 15 14,gt 4 15]
def r_Z114_4 : List GI:=[gd 17 .eql 8 2,gt 16 17]
def r_Z114_5 : List GI:=[gf 18 2 2,gs 19 18 2,gc 20 193 [.t 19],gt 4 20]
def r_Z114_6 : List GI:=[gf 21 2 4,gl 22 21,gi 23 (.iad 23 22 (.k (I 0)) 5),gs 24 23 5,gt 25 1,gc 26 184 [.t 24,.t 25],gt 5 26]
def r_Z114_7 : List GI:=[gf 27 2 0,gl 28 27]
def r_Z114_8 : List GI:=[gd 30 .eql 28 10,gt 29 30]
def r_Z114_9 : List GI:=[gt 31 5,gc 32 194 [.t 31],gt 4 32]
def r_Z114_10 : List GI:=[gd 34 .eql 28 11,gt 33 34]
def r_Z114_11 : List GI:=[gt 35 5,gc 36 195 [.t 35],gt 4 36]
def r_Z114_12 : List GI:=[gf 37 2 4,gl 38 37,gi 39 (.iad 39 38 (.k (I 1)) 5),gs 40 39 5,gt 41 1,gc 42 184 [.t 40,.t 41],gt 6 42]
def r_Z114_13 : List GI:=[gf 43 2 0,gl 44 43]
def r_Z114_14 : List GI:=[gd 46 .eql 44 8,gt 45 46]
def r_Z114_15 : List GI:=[gt 47 5,gt 48 6,⟨.call 49 196 [.t 47,.t 48,.k (.fn 197 [])],some 49,none,true⟩,gt 4 49]
def r_Z114_16 : List GI:=[gd 51 .eql 44 9,gt 50 51]
def r_Z114_17 : List GI:=[gt 52 5,gt 53 6,⟨.call 54 196 [.t 52,.t 53,.k (.fn 198 [])],some 54,none,true⟩,gt 4 54]
def r_Z114_18 : List GI:=[gd 56 .eql 44 6,gt 55 56]
def r_Z114_19 : List GI:=[gd 57 .eql 44 7,gt 55 57]
def r_Z114_20 : List GI:=[gt 58 5,gt 59 6,gc 60 199 [.t 58,.t 59],gt 4 60]
def r_Z114_21 : List GI:=[gt 61 5,gt 62 6,gc 63 200 [.t 61,.t 62],gt 4 63]
def dc_Z114 : DC:=.seq (.z r_Z114_0) (.seq (.seq (.z r_Z114_1) (.block 0 (.seq (.z r_Z114_2) (.cond (.t 9) (.seq (.z r_Z114_3) .ret) (.seq (.z r_Z114_4) (.cond (.t 16) (.seq (.z r_Z114_5) .ret) .skip)))))) (.seq (.z r_Z114_6) (.seq (.seq (.z r_Z114_7) (.block 1 (.seq (.z r_Z114_8) (.cond (.t 29) (.seq (.z r_Z114_9) .ret) (.seq (.z r_Z114_10) (.cond (.t 33) (.seq (.z r_Z114_11) .ret) .skip)))))) (.seq (.z r_Z114_12) (.seq (.seq (.z r_Z114_13) (.block 2 (.seq (.z r_Z114_14) (.cond (.t 45) (.seq (.z r_Z114_15) .ret) (.seq (.z r_Z114_16) (.cond (.t 50) (.seq (.z r_Z114_17) .ret) (.seq (.seq (.z r_Z114_18) (.cond (.t 55) .skip (.z r_Z114_19))) (.cond (.t 55) (.seq (.z r_Z114_20) .ret) .skip)))))))) (.seq (.z r_Z114_21) .ret))))))
theorem c_Z114 : cfun Tryz.prog [] 184 = some (64,dc_Z114,[(Res.tmp 4)]):=by kernel_rfl
def r_Z126_0 : List GI:=[gi 2 (.box 2 2000002 (.t 0) (some 5)),gk 4 0]
def r_Z126_1 : List GI:=[gf 8 2 0,gl 9 8]
def r_Z126_2 : List GI:=[gd 11 .eql 9 1,gt 10 11]
def r_Z126_3 : List GI:=[gt 12 1,gf 13 2 1,gl 14 13,ga 15 12 14 1,gl 16 15,gt 4 16]
def r_Z126_4 : List GI:=[gd 18 .eql 9 2,gt 17 18]
def r_Z126_5 : List GI:=[gf 19 2 2,gs 20 19 2,gc 21 202 [.t 20],gt 4 21]
def r_Z126_6 : List GI:=[gf 22 2 4,gl 23 22,gi 24 (.iad 24 23 (.k (I 0)) 5),gs 25 24 5,gt 26 1,gc 27 187 [.t 25,.t 26],gt 5 27]
def r_Z126_7 : List GI:=[gk 6 0]
def r_Z126_8 : List GI:=[gf 28 2 0,gl 29 28]
def r_Z126_9 : List GI:=[gd 31 .eql 29 10,gt 30 31]
def r_Z126_10 : List GI:=[gt 32 5,gd 33 .and 32 4,gt 34 5,gd 35 .and 34 1,gi 36 (.bin 36 .shl (.t 35) (.k (.v (.int .u64 1)))),gb 37 .or 33 36,gt 38 5,gd 39 .and 38 2,gi 40 (.bin 40 .shr (.t 39) (.k (.v (.int .u64 1)))),gb 41 .or 37 40,gt 4 41]
def r_Z126_11 : List GI:=[gd 43 .eql 29 11,gt 42 43]
def r_Z126_12 : List GI:=[gt 44 5,gd 45 .and 44 4,gd 46 .neq 45 0]
def r_Z126_13 : List GI:=[gk 6 2]
def r_Z126_14 : List GI:=[gt 47 5,gd 48 .and 47 3,gd 49 .neq 48 0]
def r_Z126_15 : List GI:=[gt 50 6,gd 51 .or 50 1,gt 6 51]
def r_Z126_16 : List GI:=[gt 52 6,gt 4 52]
def r_Z126_17 : List GI:=[gf 53 2 4,gl 54 53,gi 55 (.iad 55 54 (.k (I 1)) 5),gs 56 55 5,gt 57 1,gc 58 187 [.t 56,.t 57],gt 7 58]
def r_Z126_18 : List GI:=[gf 59 2 0,gl 60 59,gd 61 .eql 60 8,gt 62 61,⟨.fad 63 2 0,some 63,some (62,false),false⟩,⟨.lod 64 63 none,some 64,some (62,false),false⟩,⟨.bin 65 .eql (.t 64) (.k (I 9)),some 65,some (62,false),false⟩,gi 66 (.pick 66 (.t 62) (.k (.v (.bool true))) (.t 65))]
def r_Z126_19 : List GI:=[gf 67 2 0,gl 68 67,gt 69 5,gt 70 7,gc 71 203 [.t 68,.t 69,.t 70],gt 4 71]
def r_Z126_20 : List GI:=[gt 72 5,gt 73 7,gb 74 .or 72 73,gd 75 .and 74 4,gd 76 .neq 75 0]
def r_Z126_21 : List GI:=[gk 6 4]
def r_Z126_22 : List GI:=[gt 77 5,gd 78 .and 77 3,gd 79 .neq 78 0,gt 80 79,⟨.mov 81 (.t 7),some 81,some (80,true),false⟩,⟨.bin 82 .and (.t 81) (.k (I 3)),some 82,some (80,true),false⟩,⟨.bin 83 .neq (.t 82) (.k (I 0)),some 83,some (80,true),false⟩,gi 84 (.pick 84 (.t 80) (.t 83) (.k (.v (.bool false))))]
def r_Z126_23 : List GI:=[gt 85 6,gd 86 .or 85 3,gt 6 86]
def r_Z126_24 : List GI:=[gf 87 2 0,gl 88 87,gd 89 .lss 88 6]
def r_Z126_25 : List GI:=[gt 90 6,gd 91 .or 90 4,gt 6 91]
def r_Z126_26 : List GI:=[gt 92 6,gt 4 92]
def dc_Z126 : DC:=.seq (.z r_Z126_0) (.seq (.seq (.z r_Z126_1) (.block 0 (.seq (.z r_Z126_2) (.cond (.t 10) (.seq (.z r_Z126_3) .ret) (.seq (.z r_Z126_4) (.cond (.t 17) (.seq (.z r_Z126_5) .ret) .skip)))))) (.seq (.z r_Z126_6) (.seq (.z r_Z126_7) (.seq (.seq (.z r_Z126_8) (.block 1 (.seq (.z r_Z126_9) (.cond (.t 30) (.seq (.z r_Z126_10) .ret) (.seq (.z r_Z126_11) (.cond (.t 42) (.seq (.seq (.z r_Z126_12) (.cond (.t 46) (.z r_Z126_13) .skip)) (.seq (.seq (.z r_Z126_14) (.cond (.t 49) (.z r_Z126_15) .skip)) (.seq (.z r_Z126_16) .ret))) .skip)))))) (.seq (.z r_Z126_17) (.seq (.seq (.z r_Z126_18) (.cond (.t 66) (.seq (.z r_Z126_19) .ret) .skip)) (.seq (.seq (.z r_Z126_20) (.cond (.t 76) (.z r_Z126_21) .skip)) (.seq (.seq (.z r_Z126_22) (.cond (.t 84) (.seq (.z r_Z126_23) (.seq (.z r_Z126_24) (.cond (.t 89) (.z r_Z126_25) .skip))) .skip)) (.seq (.z r_Z126_26) .ret)))))))))
theorem c_Z126 : cfun Tryz.prog [] 187 = some (93,dc_Z126,[(Res.tmp 4)]):=by kernel_rfl
def r_Z11_0 : List GI:=[gi 4 (.mov 4 (.k (.v (.bool false))))]
def r_Z11_1 : List GI:=[gt 5 0,gt 6 1,gc 7 171 [.t 5,.t 6],gd 8 .geq 7 0,gt 4 8]
def dc_Z11 : DC:=.seq (.z r_Z11_0) (.seq (.z r_Z11_1) .ret)
theorem c_Z11 : cfun Tryz.prog [] 133 = some (9,dc_Z11,[(Res.tmp 4)]):=by kernel_rfl
def r_Z14_0 : List GI:=[gk 4 0]
def r_Z14_1 : List GI:=[gt 6 0,gn 7 6,gk 8 0]
def r_Z14_2 : List GI:=[gb 9 .lss 8 7]
def r_Z14_3 : List GI:=[gt 10 8,gt 5 10]
def r_Z14_4 : List GI:=[gt 11 1,gt 12 0,gt 13 5,ga 14 12 13 1,gl 15 14,gb 16 .eql 11 15]
def r_Z14_5 : List GI:=[gt 17 5,gt 4 17]
def r_Z14_6 : List GI:=[gd 18 .add 8 1,gt 8 18]
def r_Z14_7 : List GI:=[gi 4 (.mov 4 (.k (.v (.int .i64 (-1)))))]
def dc_Z14 : DC:=.seq (.z r_Z14_0) (.seq (.seq (.z r_Z14_1) (.block 0 (.loop (.seq (.z r_Z14_2) (.seq (.cond (.t 9) .skip (.exit 0)) (.seq (.block 1 (.seq (.z r_Z14_3) (.seq (.z r_Z14_4) (.cond (.t 16) (.seq (.z r_Z14_5) .ret) .skip)))) (.z r_Z14_6))))))) (.seq (.z r_Z14_7) .ret))
theorem c_Z14 : cfun Tryz.prog [] 171 = some (19,dc_Z14,[(Res.tmp 4)]):=by kernel_rfl
def r_Z80_0 : List GI:=[gi 4 (.mov 4 (.k .nul))]
def r_Z80_1 : List GI:=[gi 9 (.mov 9 (.k .nul)),gt 5 9]
def r_Z80_2 : List GI:=[gk 6 0]
def r_Z80_3 : List GI:=[gt 10 6,gt 11 0,gb 12 .lss 10 11]
def r_Z80_4 : List GI:=[gk 7 7]
def r_Z80_5 : List GI:=[gk 8 0]
def r_Z80_6 : List GI:=[gt 15 8,gt 16 1,gn 17 16,gb 18 .lss 15 17]
def r_Z80_7 : List GI:=[gt 21 1,gt 22 8,ga 23 21 22 1,gl 24 23,gt 25 6,gb 26 .eql 24 25]
def r_Z80_8 : List GI:=[gk 7 4]
def r_Z80_9 : List GI:=[gt 19 8,gd 20 .add 19 1,gt 8 20]
def r_Z80_10 : List GI:=[gt 27 5,gt 28 7,gi 29 (.bsl 29 1 none [I 0] [(0,.t 28)]),gi 30 (.app 30 2000030 (.t 27) (.t 29) 1 8),gt 5 30]
def r_Z80_11 : List GI:=[gt 13 6,gd 14 .add 13 1,gt 6 14]
def r_Z80_12 : List GI:=[gt 31 5,gt 4 31]
def dc_Z80 : DC:=.seq (.z r_Z80_0) (.seq (.z r_Z80_1) (.seq (.seq (.z r_Z80_2) (.block 0 (.loop (.seq (.seq (.z r_Z80_3) (.cond (.t 12) .skip (.exit 0))) (.seq (.block 1 (.seq (.z r_Z80_4) (.seq (.seq (.z r_Z80_5) (.block 2 (.loop (.seq (.seq (.z r_Z80_6) (.cond (.t 18) .skip (.exit 2))) (.seq (.block 3 (.seq (.z r_Z80_7) (.cond (.t 26) (.z r_Z80_8) .skip))) (.z r_Z80_9)))))) (.z r_Z80_10)))) (.z r_Z80_11)))))) (.seq (.z r_Z80_12) .ret)))
theorem c_Z80 : cfun Tryz.prog [] 188 = some (32,dc_Z80,[(Res.tmp 4)]):=by kernel_rfl
def r_Z61_0 : List GI:=[gi 1 (.box 1 2000001 (.t 0) (some 5)),gi 2 (.alloc 2 2000002 [.v (.bool false),.v (.bool false),.v (.bool false),.v (.bool false),.v (.bool false),.v (.bool false)])]
def r_Z61_1 : List GI:=[gi 3 (.alloc 3 2000003 [.v (.bool false),.v (.bool false),.v (.bool false),.v (.bool false),.v (.bool false),.v (.bool false)])]
def r_Z61_2 : List GI:=[gf 8 1 0,gl 9 8,gd 10 .eql 9 1]
def r_Z61_3 : List GI:=[gf 11 1 1,gl 12 11,gi 13 (.iaa 13 3 (.t 12) 6 1),g0 (.sto 13 (.k (.v (.bool true))) none)]
def r_Z61_4 : List GI:=[gf 14 1 4,gl 15 14,gn 16 15,gk 17 0]
def r_Z61_5 : List GI:=[gb 18 .lss 17 16]
def r_Z61_6 : List GI:=[ga 19 15 17 5,gs 20 19 5,gi 5 (.alloc 5 2000005 [I 0,I 0,.v (.bool false),I 0,.nul]),g0 (.sto 5 (.t 20) (some 5))]
def r_Z61_7 : List GI:=[gs 21 5 5,gc 22 183 [.t 21],gk 23 0]
def r_Z61_8 : List GI:=[gd 24 .lss 23 6]
def r_Z61_9 : List GI:=[gt 25 23,gi 26 (.ida 26 (.t 22) (.t 23) 6 1 none),gt 6 25,gt 7 26]
def r_Z61_10 : List GI:=[gt 27 6,gt 28 6,gi 29 (.iaa 29 3 (.t 28) 6 1),gl 30 29,gt 31 30,⟨.mov 32 (.t 7),some 32,some (31,false),false⟩,gi 33 (.pick 33 (.t 31) (.k (.v (.bool true))) (.t 32)),gi 34 (.iaa 34 3 (.t 27) 6 1),g0 (.sto 34 (.t 33) none)]
def r_Z61_11 : List GI:=[gd 35 .add 23 1,gt 23 35]
def r_Z61_12 : List GI:=[gd 36 .add 17 1,gt 17 36]
def r_Z61_13 : List GI:=[gs 37 3 6,g0 (.sto 2 (.t 37) (some 6))]
def dc_Z61 : DC:=.seq (.z r_Z61_0) (.seq (.z r_Z61_1) (.seq (.seq (.z r_Z61_2) (.cond (.t 10) (.z r_Z61_3) .skip)) (.seq (.seq (.z r_Z61_4) (.block 0 (.loop (.seq (.z r_Z61_5) (.seq (.cond (.t 18) .skip (.exit 0)) (.seq (.block 1 (.seq (.z r_Z61_6) (.seq (.z r_Z61_7) (.block 2 (.loop (.seq (.z r_Z61_8) (.seq (.cond (.t 24) .skip (.exit 2)) (.seq (.block 3 (.seq (.z r_Z61_9) (.z r_Z61_10))) (.z r_Z61_11))))))))) (.z r_Z61_12))))))) (.seq (.z r_Z61_13) .ret))))
theorem c_Z61 : cfun Tryz.prog [] 183 = some (38,dc_Z61,[(Res.cell 2 (some 6))]):=by kernel_rfl
def r_Z87_0 : List GI:=[gi 1 (.box 1 2000001 (.t 0) (some 5)),gi 2 (.mov 2 (.k .nul))]
def r_Z87_1 : List GI:=[gs 6 1 5,gc 7 146 [.t 6,.k (I 6)],gi 8 (.un 8 UnOp.not (.t 7))]
def r_Z87_2 : List GI:=[gi 2 (.mov 2 (.k .nul))]
def r_Z87_3 : List GI:=[gi 3 (.mov 3 (.k .nul))]
def r_Z87_4 : List GI:=[gs 9 1 5,gc 10 183 [.t 9],gk 11 0]
def r_Z87_5 : List GI:=[gd 12 .lss 11 6]
def r_Z87_6 : List GI:=[gt 13 11,gi 14 (.ida 14 (.t 10) (.t 11) 6 1 none),gt 4 13,gt 5 14]
def r_Z87_7 : List GI:=[gt 15 5]
def r_Z87_8 : List GI:=[gt 16 3,gt 17 4,gi 18 (.bsl 18 1 none [I 0] [(0,.t 17)]),gi 19 (.app 19 2000019 (.t 16) (.t 18) 1 8),gt 3 19]
def r_Z87_9 : List GI:=[gd 20 .add 11 1,gt 11 20]
def r_Z87_10 : List GI:=[gt 21 3,gt 2 21]
def dc_Z87 : DC:=.seq (.z r_Z87_0) (.seq (.seq (.z r_Z87_1) (.cond (.t 8) (.seq (.z r_Z87_2) .ret) .skip)) (.seq (.z r_Z87_3) (.seq (.seq (.z r_Z87_4) (.block 0 (.loop (.seq (.z r_Z87_5) (.seq (.cond (.t 12) .skip (.exit 0)) (.seq (.block 1 (.seq (.z r_Z87_6) (.seq (.z r_Z87_7) (.cond (.t 15) (.z r_Z87_8) .skip)))) (.z r_Z87_9))))))) (.seq (.z r_Z87_10) .ret))))
theorem c_Z87 : cfun Tryz.prog [] 162 = some (22,dc_Z87,[(Res.tmp 2)]):=by kernel_rfl
def r_Z57_0 : List GI:=[gi 2 (.box 2 2000002 (.t 0) (some 5)),gi 4 (.alloc 4 2000004 [I 0,I 0,.v (.bool false),I 0,.nul])]
def r_Z57_1 : List GI:=[gi 5 (.mov 5 (.k .nul))]
def r_Z57_2 : List GI:=[gf 8 2 4,gl 9 8,gn 10 9,gk 11 0]
def r_Z57_3 : List GI:=[gb 12 .lss 11 10]
def r_Z57_4 : List GI:=[ga 13 9 11 5,gs 14 13 5,gi 7 (.alloc 7 2000007 [I 0,I 0,.v (.bool false),I 0,.nul]),g0 (.sto 7 (.t 14) (some 5))]
def r_Z57_5 : List GI:=[gt 15 5,gs 16 7 5,gt 17 1,gc 18 165 [.t 16,.t 17],gi 19 (.bsl 19 5 (some 5) [.agg [I 0,I 0,.v (.bool false),I 0,.nul]] [(0,.t 18)]),gi 20 (.app 20 2000020 (.t 15) (.t 19) 5 56),gt 5 20]
def r_Z57_6 : List GI:=[gd 21 .add 11 1,gt 11 21]
def r_Z57_7 : List GI:=[gt 22 5,gf 23 2 4,g0 (.sto 23 (.t 22) none)]
def r_Z57_8 : List GI:=[gt 24 1,gs 25 2 5,⟨.inv 26 (.t 24) name_impl_visit [.t 25],some 26,none,true⟩,g0 (.sto 4 (.t 26) (some 5))]
def dc_Z57 : DC:=.seq (.z r_Z57_0) (.seq (.z r_Z57_1) (.seq (.seq (.z r_Z57_2) (.block 0 (.loop (.seq (.z r_Z57_3) (.seq (.cond (.t 12) .skip (.exit 0)) (.seq (.block 1 (.seq (.z r_Z57_4) (.z r_Z57_5))) (.z r_Z57_6))))))) (.seq (.z r_Z57_7) (.seq (.z r_Z57_8) .ret))))
theorem c_Z57 : cfun Tryz.prog [] 165 = some (27,dc_Z57,[(Res.cell 4 (some 5))]):=by kernel_rfl
end
end Go.Proofs.YtgpdmgaemhelgaaGreat
