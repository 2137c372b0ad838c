/-
  Functions of the program read as code on plain data. Closed facts of the program alone.
-/
import Derived.KernelRfl
import Derived.Test.YtjngffbghkafaaaGreatRows
import Derived.Test.YtjngffbghkafaaaGreatJSVGo
import Derived.Test.YtjngffbghkafaaaGreatKSDcd
import Derived.Test.YtjngffbghkafaaaGreatJSVGi
namespace Go.Proofs.YtjngffbghkafaaaGreat
open Go.RowKit
noncomputable section
def r_Z88_0 : List GI:=[gi 4 (.mov 4 (.k (.v (.int .u64 0)))),gi 5 (.mov 5 (.k (.v (.int .u64 0))))]
def r_Z88_1 : List GI:=[gt 14 0,gi 15 (.bin 15 .and (.t 14) (.k (.v (.int .u64 4294967295)))),gt 6 15]
def r_Z88_2 : List GI:=[gt 16 0,gi 17 (.bin 17 .shr (.t 16) (.k (.v (.int .u64 32)))),gt 7 17]
def r_Z88_3 : List GI:=[gt 18 1,gi 19 (.bin 19 .and (.t 18) (.k (.v (.int .u64 4294967295)))),gt 8 19]
def r_Z88_4 : List GI:=[gt 20 1,gi 21 (.bin 21 .shr (.t 20) (.k (.v (.int .u64 32)))),gt 9 21]
def r_Z88_5 : List GI:=[gt 22 6,gt 23 8,gb 24 .mul 22 23,gt 10 24]
def r_Z88_6 : List GI:=[gt 25 7,gt 26 8,gb 27 .mul 25 26,gt 28 10,gi 29 (.bin 29 .shr (.t 28) (.k (.v (.int .u64 32)))),gb 30 .add 27 29,gt 11 30]
def r_Z88_7 : List GI:=[gt 31 11,gi 32 (.bin 32 .and (.t 31) (.k (.v (.int .u64 4294967295)))),gt 12 32]
def r_Z88_8 : List GI:=[gt 33 11,gi 34 (.bin 34 .shr (.t 33) (.k (.v (.int .u64 32)))),gt 13 34]
def r_Z88_9 : List GI:=[gt 35 12,gt 36 6,gt 37 9,gb 38 .mul 36 37,gb 39 .add 35 38,gt 12 39]
def r_Z88_10 : List GI:=[gt 40 7,gt 41 9,gb 42 .mul 40 41,gt 43 13,gb 44 .add 42 43,gt 45 12,gi 46 (.bin 46 .shr (.t 45) (.k (.v (.int .u64 32)))),gb 47 .add 44 46,gt 4 47]
def r_Z88_11 : List GI:=[gt 48 0,gt 49 1,gb 50 .mul 48 49,gt 5 50]
def dc_Z88 : DC:=.seq (.z r_Z88_0) (.seq (.z r_Z88_1) (.seq (.z r_Z88_2) (.seq (.z r_Z88_3) (.seq (.z r_Z88_4) (.seq (.z r_Z88_5) (.seq (.z r_Z88_6) (.seq (.z r_Z88_7) (.seq (.z r_Z88_8) (.seq (.z r_Z88_9) (.seq (.z r_Z88_10) (.seq (.z r_Z88_11) .ret)))))))))))
theorem c_Z88 : cfun Tryz.prog [] 244 = some (51,dc_Z88,[(Res.tmp 4),(Res.tmp 5)]):=by kernel_rfl
def r_Z7_0 : List GI:=[gi 4 (.mov 4 (.k .nul))]
def r_Z7_1 : List GI:=[gt 9 1,gd 10 .lss 9 0]
def r_Z7_2 : List GI:=[gt 13 0,gn 14 13,gi 15 (.cvt 15 .u64 (.t 14)),gt 16 1,gi 17 (.cvt 17 .u64 (.t 16)),gc 18 237 [.t 15,.t 17],gt 12 18,gi 19 (.ext 19 12 0),gi 20 (.ext 20 12 1),gt 5 19,gt 6 20]
def r_Z7_3 : List GI:=[gt 21 5,gi 22 (.bin 22 .gtr (.t 21) (.k (.v (.int .u64 0)))),gt 23 22,⟨.mov 24 (.t 6),some 24,some (23,false),false⟩,⟨.bin 25 .gtr (.t 24) (.k (.v (.int .u64 9223372036854775807))),some 25,some (23,false),false⟩,gi 26 (.pick 26 (.t 23) (.k (.v (.bool true))) (.t 25))]
def r_Z7_4 : List GI:=[gt 28 6,gi 29 (.cvt 29 .i64 (.t 28)),gi 30 (.mks 30 2000030 (.t 29) 2 16 (.agg [.v (.bool false),I 0])),gt 7 30]
def r_Z7_5 : List GI:=[gt 31 7,gt 32 0,gi 33 (.cpy 33 (.t 31) (.t 32) 2),gt 8 33]
def r_Z7_6 : List GI:=[gt 34 8,gt 35 7,gn 36 35,gb 37 .lss 34 36]
def r_Z7_7 : List GI:=[gt 38 8,gt 39 7,gt 40 8,gi 41 (.slc 41 (.t 39) (some (.t 40)) none 2),gt 42 7,gt 43 8,gi 44 (.slc 44 (.t 42) none (some (.t 43)) 2),gi 45 (.cpy 45 (.t 41) (.t 44) 2),gb 46 .add 38 45,gt 8 46]
def r_Z7_8 : List GI:=[gt 47 7,gt 4 47]
def dc_Z7 : DC:=.seq (.z r_Z7_0) (.seq (.seq (.z r_Z7_1) (.cond (.t 10) .no .skip)) (.seq (.z r_Z7_2) (.seq (.seq (.z r_Z7_3) (.cond (.t 26) .no .skip)) (.seq (.z r_Z7_4) (.seq (.z r_Z7_5) (.seq (.block 0 (.loop (.seq (.seq (.z r_Z7_6) (.cond (.t 37) .skip (.exit 0))) (.block 1 (.reg r_Z7_7 (some [0,0,0,6,0,0,48,126,255,511])))))) (.seq (.z r_Z7_8) .ret)))))))
theorem c_Z7 : cfun Tryz.prog [] 221 = some (48,dc_Z7,[(Res.tmp 4)]):=by kernel_rfl
def r_Z28_0 : List GI:=[gl 7 1,gf 8 2 0,gf 9 8 0,gl 10 9,gc 11 187 [.t 10],gi 12 (.bsl 12 1 none [.nul,.nul] [(0,.t 7),(1,.t 11)]),gc 13 186 [.t 12],gt 4 13]
def r_Z28_1 : List GI:=[gf 14 2 0,gf 15 14 1,gl 16 15,gn 17 16,gk 18 0]
def r_Z28_2 : List GI:=[gb 19 .lss 18 17]
def r_Z28_3 : List GI:=[ga 20 16 18 1,gl 21 20,gt 6 21]
def r_Z28_4 : List GI:=[gt 22 4,gl 23 1,gn 24 23,gi 25 (.slc 25 (.t 22) (some (.t 24)) none 2),gt 26 6,gi 27 (.cpy 27 (.t 25) (.t 26) 2)]
def r_Z28_5 : List GI:=[gf 28 2 2,gl 29 28,gt 30 4,⟨.inv 31 (.t 29) name_impl_value [.t 30],some 31,none,true⟩,gc 32 181 [.t 31],gd 33 .eql 32 2,gt 34 33,⟨.mov 35 (.t 0),some 35,some (34,true),false⟩,⟨.mov 36 (.t 4),some 36,some (34,true),false⟩,⟨.call 37 97 [.t 36],some 37,some (34,true),true⟩,⟨.cal 38 (.t 35) [.t 37],some 38,some (34,true),true⟩,⟨.un 39 UnOp.not (.t 38),some 39,some (34,true),false⟩,gi 40 (.pick 40 (.t 34) (.t 39) (.k (.v (.bool false))))]
def r_Z28_6 : List GI:=[gd 41 .add 18 1,gt 18 41]
def dc_Z28 : DC:=.seq (.reg r_Z28_0 (some [0,0,2,6,14,31,63,127])) (.seq (.z r_Z28_1) (.block 0 (.loop (.seq (.z r_Z28_2) (.seq (.cond (.t 19) .skip (.exit 0)) (.seq (.block 1 (.seq (.z r_Z28_3) (.seq (.z r_Z28_4) (.seq (.z r_Z28_5) (.cond (.t 40) .ret .skip))))) (.z r_Z28_6)))))))
theorem c_Z28 : cfun Tryz.prog [] 185 = some (42,dc_Z28,[]):=by kernel_rfl
def r_Z83_0 : List GI:=[gi 2 (.box 2 2000002 (.t 0) none),gi 3 (.box 3 2000003 (.t 1) none),gi 4 (.mov 4 (.k (.v .nilFunc)))]
def r_Z83_1 : List GI:=[gi 5 (.mkf 5 184 [.t 2,.t 3]),gt 4 5]
def dc_Z83 : DC:=.seq (.z r_Z83_0) (.seq (.z r_Z83_1) .ret)
theorem c_Z83 : cfun Tryz.prog [] 149 = some (6,dc_Z83,[(Res.tmp 4)]):=by kernel_rfl
def r_Z56_0 : List GI:=[gi 3 (.box 3 2000003 (.t 0) none)]
def r_Z56_1 : List GI:=[gl 7 1,gn 8 7,gk 9 0]
def r_Z56_2 : List GI:=[gb 10 .lss 9 8]
def r_Z56_3 : List GI:=[ga 11 7 9 1,gl 12 11,gt 5 12]
def r_Z56_4 : List GI:=[gl 13 2,gt 14 5,⟨.cal 15 (.t 13) [.t 14],some 15,none,true⟩]
def r_Z56_5 : List GI:=[gt 6 16]
def r_Z56_6 : List GI:=[gl 17 3,gt 18 6,⟨.cal 19 (.t 17) [.t 18],some 19,none,true⟩,gi 20 (.un 20 UnOp.not (.t 19))]
def r_Z56_7 : List GI:=[gd 21 .add 9 1,gt 9 21]
def dc_Z56 : DC:=.seq (.z r_Z56_0) (.seq (.z r_Z56_1) (.block 0 (.loop (.seq (.z r_Z56_2) (.seq (.cond (.t 10) .skip (.exit 0)) (.seq (.block 1 (.seq (.z r_Z56_3) (.seq (.z r_Z56_4) (.block 2 (.rng (.t 15) [16] (.z r_Z56_5) (.block 3 (.seq (.z r_Z56_6) (.cond (.t 20) .ret .skip)))))))) (.z r_Z56_7)))))))
theorem c_Z56 : cfun Tryz.prog [] 184 = some (22,dc_Z56,[]):=by kernel_rfl
def r_Z33_0 : List GI:=[gi 2 (.box 2 2000002 (.t 0) (some 3)),gi 3 (.box 3 2000003 (.t 1) none),gi 4 (.mov 4 (.k (.v .nilFunc)))]
def r_Z33_1 : List GI:=[gi 5 (.mkf 5 185 [.t 3,.t 2]),gt 4 5]
def dc_Z33 : DC:=.seq (.z r_Z33_0) (.seq (.z r_Z33_1) .ret)
theorem c_Z33 : cfun Tryz.prog [] 150 = some (6,dc_Z33,[(Res.tmp 4)]):=by kernel_rfl
def r_Z23_0 : List GI:=[gi 2 (.box 2 2000002 (.t 0) (some 3)),gi 3 (.box 3 2000003 (.t 1) none),gi 4 (.mov 4 (.k (.v .nilFunc)))]
def r_Z23_1 : List GI:=[gi 5 (.mkf 5 188 [.t 2,.t 3]),gt 4 5]
def dc_Z23 : DC:=.seq (.z r_Z23_0) (.seq (.z r_Z23_1) .ret)
theorem c_Z23 : cfun Tryz.prog [] 151 = some (6,dc_Z23,[(Res.tmp 4)]):=by kernel_rfl
def r_Z21_0 : List GI:=[gi 3 (.box 3 2000003 (.t 0) none)]
def r_Z21_1 : List GI:=[gi 4 (.alloc 4 2000004 [.v (.bool false)]),g0 (.sto 4 (.k (.v (.bool false))) none)]
def r_Z21_2 : List GI:=[gs 6 1 3,gl 7 2,gc 8 150 [.t 6,.t 7]]
def r_Z21_3 : List GI:=[gt 5 9]
def r_Z21_4 : List GI:=[g0 (.sto 4 (.k (.v (.bool true))) none)]
def r_Z21_5 : List GI:=[gl 10 3,gt 11 5,⟨.cal 12 (.t 10) [.t 11],some 12,none,true⟩,gi 13 (.un 13 UnOp.not (.t 12))]
def r_Z21_6 : List GI:=[gl 14 4,gi 15 (.un 15 UnOp.not (.t 14))]
def r_Z21_7 : List GI:=[gl 16 3,gl 17 2,gf 18 1 0,gf 19 18 0,gl 20 19,gc 21 187 [.t 20],gi 22 (.bsl 22 1 none [.nul,.nul] [(0,.t 17),(1,.t 21)]),gc 23 186 [.t 22],⟨.cal 24 (.t 16) [.t 23],some 24,none,true⟩]
def dc_Z21 : DC:=.seq (.z r_Z21_0) (.seq (.z r_Z21_1) (.seq (.seq (.z r_Z21_2) (.block 0 (.rng (.t 8) [9] (.z r_Z21_3) (.block 1 (.seq (.z r_Z21_4) (.seq (.z r_Z21_5) (.cond (.t 13) .ret .skip))))))) (.seq (.z r_Z21_6) (.cond (.t 15) (.reg r_Z21_7 (some [0,0,0,4,12,28,62,126,255])) .skip))))
theorem c_Z21 : cfun Tryz.prog [] 188 = some (25,dc_Z21,[]):=by kernel_rfl
def r_Z62_0 : List GI:=[gi 1 (.box 1 2000001 (.t 0) (some 2)),gi 2 (.alloc 2 2000002 [I 0,.nul])]
def r_Z62_1 : List GI:=[gf 5 1 0,gl 6 5,gi 7 (.build 7 [I 0,.nul] [(0,(none,.t 6))]),gi 3 (.alloc 3 2000003 [I 0,.nul]),g0 (.sto 3 (.t 7) (some 2))]
def r_Z62_2 : List GI:=[gk 4 0]
def r_Z62_3 : List GI:=[gt 8 4,gf 9 1 1,gl 10 9,gn 11 10,gb 12 .lss 8 11]
def r_Z62_4 : List GI:=[gt 15 4,gd 16 .eql 15 0,gt 17 16,⟨.fad 18 1 1,some 18,some (17,false),false⟩,⟨.lod 19 18 none,some 19,some (17,false),false⟩,⟨.mov 20 (.t 4),some 20,some (17,false),false⟩,⟨.bin 21 .sub (.t 20) (.k (I 1)),some 21,some (17,false),false⟩,⟨.iad 22 19 (.t 21) 1,some 22,some (17,false),false⟩,⟨.lod 23 22 none,some 23,some (17,false),false⟩,⟨.fad 24 1 1,some 24,some (17,false),false⟩,⟨.lod 25 24 none,some 25,some (17,false),false⟩,⟨.mov 26 (.t 4),some 26,some (17,false),false⟩,⟨.iad 27 25 (.t 26) 1,some 27,some (17,false),false⟩,⟨.lod 28 27 none,some 28,some (17,false),false⟩,⟨.call 29 129 [.t 23,.t 28],some 29,some (17,false),true⟩,⟨.bin 30 .neq (.t 29) (.k (I 0)),some 30,some (17,false),false⟩,gi 31 (.pick 31 (.t 17) (.k (.v (.bool true))) (.t 30))]
def r_Z62_5 : List GI:=[gf 32 3 1,gl 33 32,gf 34 1 1,gl 35 34,gt 36 4,ga 37 35 36 1,gl 38 37,gc 39 141 [.t 38],gi 40 (.bsl 40 1 none [.nul] [(0,.t 39)]),gi 41 (.app 41 2000041 (.t 33) (.t 40) 1 24),gf 42 3 1,g0 (.sto 42 (.t 41) none)]
def r_Z62_6 : List GI:=[gt 13 4,gd 14 .add 13 1,gt 4 14]
def r_Z62_7 : List GI:=[gs 43 3 2,g0 (.sto 2 (.t 43) (some 2))]
def dc_Z62 : DC:=.seq (.z r_Z62_0) (.seq (.z r_Z62_1) (.seq (.seq (.z r_Z62_2) (.block 0 (.loop (.seq (.seq (.z r_Z62_3) (.cond (.t 12) .skip (.exit 0))) (.seq (.block 1 (.seq (.reg r_Z62_4 (some [0,1,3,7,15,7,39,127,255,7,519,7,3591,7687,16383,32767,65535])) (.cond (.t 31) (.reg r_Z62_5 (some [0,1,0,4,0,28,60,124,252,511,1023,2047])) .skip))) (.z r_Z62_6)))))) (.seq (.z r_Z62_7) .ret)))
theorem c_Z62 : cfun Tryz.prog [] 103 = some (44,dc_Z62,[(Res.cell 2 (some 2))]):=by kernel_rfl
def r_Z130_0 : List GI:=[gi 2 (.box 2 2000002 (.t 0) (some 2)),gi 3 (.box 3 2000003 (.t 1) (some 2)),gi 4 (.alloc 4 2000004 [I 0,.nul])]
def r_Z130_1 : List GI:=[gf 5 2 0,gl 6 5,gi 7 (.mov 7 (.k .nul)),gf 8 2 1,gl 9 8,gi 10 (.app 10 2000010 (.t 7) (.t 9) 1 24),gf 11 3 1,gl 12 11,gi 13 (.app 13 2000013 (.t 10) (.t 12) 1 24),gc 14 98 [.t 6,.t 13],g0 (.sto 4 (.t 14) (some 2))]
def dc_Z130 : DC:=.seq (.z r_Z130_0) (.seq (.reg r_Z130_1 (some [0,1,0,0,8,28,0,64,252,511,1023])) .ret)
theorem c_Z130 : cfun Tryz.prog [] 102 = some (15,dc_Z130,[(Res.cell 4 (some 2))]):=by kernel_rfl
def r_Z126_0 : List GI:=[gi 2 (.box 2 2000002 (.t 0) (some 5)),gi 4 (.alloc 4 2000004 [I 0,.nul])]
def r_Z126_1 : List GI:=[gf 6 2 0,gl 7 6,gd 8 .eql 7 1]
def r_Z126_2 : List GI:=[gt 9 1,gf 10 2 1,gl 11 10,ga 12 9 11 2,gf 13 12 0,gl 14 13,gt 15 1,gf 16 2 1,gl 17 16,ga 18 15 17 2,gf 19 18 1,gl 20 19,gc 21 98 [.t 14,.t 20],g0 (.sto 4 (.t 21) (some 2))]
def r_Z126_3 : List GI:=[gf 22 2 4,gl 23 22,gi 24 (.iad 24 23 (.k (I 0)) 5),gs 25 24 5,gt 26 1,gc 27 59 [.t 25,.t 26],gi 5 (.alloc 5 2000005 [I 0,.nul]),g0 (.sto 5 (.t 27) (some 2))]
def r_Z126_4 : List GI:=[gf 28 2 0,gl 29 28]
def r_Z126_5 : List GI:=[gd 31 .eql 29 2,gt 30 31]
def r_Z126_6 : List GI:=[gs 32 5 2,gf 33 2 2,gl 34 33,gi 35 (.iad 35 34 (.k (I 0)) 5),gs 36 35 5,gc 37 99 [.t 32,.t 36],g0 (.sto 4 (.t 37) (some 2))]
def r_Z126_7 : List GI:=[gd 39 .eql 29 3,gt 38 39]
def r_Z126_8 : List GI:=[gs 40 5 2,gf 41 2 2,gl 42 41,gc 43 100 [.t 40,.t 42],g0 (.sto 4 (.t 43) (some 2))]
def r_Z126_9 : List GI:=[gd 45 .eql 29 4,gt 44 45]
def r_Z126_10 : List GI:=[gd 46 .eql 29 5,gt 44 46]
def r_Z126_11 : List GI:=[gs 47 5 2,gf 48 2 4,gl 49 48,gi 50 (.iad 50 49 (.k (I 1)) 5),gs 51 50 5,gt 52 1,gc 53 59 [.t 51,.t 52],gf 54 2 2,gl 55 54,gi 56 (.iad 56 55 (.k (I 0)) 5),gs 57 56 5,gf 58 2 0,gl 59 58,gd 60 .eql 59 5,gc 61 101 [.t 47,.t 53,.t 57,.t 60],g0 (.sto 4 (.t 61) (some 2))]
def r_Z126_12 : List GI:=[gd 63 .eql 29 6,gt 62 63]
def r_Z126_13 : List GI:=[gs 64 5 2,gf 65 2 4,gl 66 65,gi 67 (.iad 67 66 (.k (I 1)) 5),gs 68 67 5,gt 69 1,gc 70 59 [.t 68,.t 69],gc 71 102 [.t 64,.t 70],g0 (.sto 4 (.t 71) (some 2))]
def r_Z126_14 : List GI:=[gd 73 .eql 29 7,gt 72 73]
def r_Z126_15 : List GI:=[gs 74 5 2,gc 75 103 [.t 74],g0 (.sto 4 (.t 75) (some 2))]
def r_Z126_16 : List GI:=[gs 76 5 2,gf 77 2 3,gl 78 77,gc 79 104 [.t 76,.t 78],g0 (.sto 4 (.t 79) (some 2))]
def dc_Z126 : DC:=.seq (.z r_Z126_0) (.seq (.seq (.z r_Z126_1) (.cond (.t 8) (.seq (.reg r_Z126_2 (some [0,0,2,7,15,31,0,0,128,448,960,1984,4095,8191])) .ret) .skip)) (.seq (.z r_Z126_3) (.seq (.seq (.z r_Z126_4) (.block 0 (.seq (.z r_Z126_5) (.cond (.t 30) (.seq (.reg r_Z126_6 (some [0,0,2,6,14,31,63])) .ret) (.seq (.z r_Z126_7) (.cond (.t 38) (.seq (.z r_Z126_8) .ret) (.seq (.seq (.z r_Z126_9) (.cond (.t 44) .skip (.z r_Z126_10))) (.cond (.t 44) (.seq (.reg r_Z126_11 (some [0,0,2,6,14,0,62,0,128,384,896,0,2048,6144,16383,32767])) .ret) (.seq (.z r_Z126_12) (.cond (.t 62) (.seq (.reg r_Z126_13 (some [0,0,2,6,14,0,62,127,255])) .ret) (.seq (.z r_Z126_14) (.cond (.t 72) (.seq (.z r_Z126_15) .ret) .skip)))))))))))) (.seq (.z r_Z126_16) .ret))))
theorem c_Z126 : cfun Tryz.prog [] 59 = some (80,dc_Z126,[(Res.cell 4 (some 2))]):=by kernel_rfl
def r_Z54_0 : List GI:=[gi 2 (.box 2 2000002 (.t 0) none),gi 3 (.box 3 2000003 (.t 1) none),gi 4 (.mov 4 (.k (.v .nilFunc)))]
def r_Z54_1 : List GI:=[gi 5 (.mkf 5 180 [.t 2,.t 3]),gt 4 5]
def dc_Z54 : DC:=.seq (.z r_Z54_0) (.seq (.z r_Z54_1) .ret)
theorem c_Z54 : cfun Tryz.prog [] 146 = some (6,dc_Z54,[(Res.tmp 4)]):=by kernel_rfl
def r_Z84_0 : List GI:=[gi 2 (.box 2 2000002 (.t 0) (some 5)),gi 4 (.mov 4 (.k (.v .nilFunc)))]
def r_Z84_1 : List GI:=[gf 5 2 0,gl 6 5]
def r_Z84_2 : List GI:=[gd 8 .eql 6 2,gt 7 8]
def r_Z84_3 : List GI:=[gt 9 1,gi 10 (.iad 10 9 (.k (I 0)) 2),gf 11 10 1,gl 12 11,gf 13 2 2,gl 14 13,gi 15 (.iad 15 14 (.k (I 0)) 5),gs 16 15 5,gc 17 147 [.t 16],gc 18 146 [.t 12,.t 17],gt 4 18]
def r_Z84_4 : List GI:=[gd 20 .eql 6 3,gt 19 20]
def r_Z84_5 : List GI:=[gt 21 1,gi 22 (.iad 22 21 (.k (I 0)) 2),gf 23 22 1,gl 24 23,gf 25 2 2,gl 26 25,gc 27 148 [.t 24,.t 26],gt 4 27]
def r_Z84_6 : List GI:=[gd 29 .eql 6 4,gt 28 29]
def r_Z84_7 : List GI:=[gt 30 1,gi 31 (.iad 31 30 (.k (I 0)) 2),gf 32 31 1,gl 33 32,gt 34 1,gi 35 (.iad 35 34 (.k (I 1)) 2),gs 36 35 2,gf 37 2 2,gl 38 37,gi 39 (.iad 39 38 (.k (I 0)) 5),gs 40 39 5,gc 41 147 [.t 40],gi 42 (.build 42 [I 0,.nul,.v .nilIface] [(0,(some 2,.t 36)),(2,(none,.t 41))]),gi 43 (.mkm 43 150 (.t 42)),gc 44 149 [.t 33,.t 43],gt 4 44]
def r_Z84_8 : List GI:=[gd 46 .eql 6 5,gt 45 46]
def r_Z84_9 : List GI:=[gt 47 1,gi 48 (.iad 48 47 (.k (I 0)) 2),gf 49 48 1,gl 50 49,gt 51 1,gi 52 (.iad 52 51 (.k (I 1)) 2),gs 53 52 2,gf 54 2 2,gl 55 54,gi 56 (.iad 56 55 (.k (I 0)) 5),gs 57 56 5,gc 58 147 [.t 57],gi 59 (.build 59 [I 0,.nul,.v .nilIface] [(0,(some 2,.t 53)),(2,(none,.t 58))]),gi 60 (.mkm 60 151 (.t 59)),gc 61 149 [.t 50,.t 60],gt 4 61]
def r_Z84_10 : List GI:=[gd 63 .eql 6 6,gt 62 63]
def r_Z84_11 : List GI:=[gt 64 1,gi 65 (.iad 65 64 (.k (I 0)) 2),gf 66 65 1,gl 67 66,gt 68 1,gi 69 (.iad 69 68 (.k (I 1)) 2),gf 70 69 1,gl 71 70,gi 72 (.bsl 72 1 none [.nul,.nul] [(0,.t 67),(1,.t 71)]),gc 73 153 [.t 72],gc 74 152 [.t 73],gt 4 74]
def r_Z84_12 : List GI:=[gd 76 .eql 6 7,gt 75 76]
def r_Z84_13 : List GI:=[gt 77 1,gi 78 (.iad 78 77 (.k (I 0)) 2),gf 79 78 1,gl 80 79,gc 81 154 [.t 80],gt 4 81]
def r_Z84_14 : List GI:=[gt 82 1,gi 83 (.iad 83 82 (.k (I 0)) 2),gf 84 83 1,gl 85 84,gf 86 2 3,gl 87 86,⟨.call 88 155 [.t 85,.t 87,.k (.fn 156 [])],some 88,none,true⟩,gt 4 88]
def dc_Z84 : DC:=.seq (.z r_Z84_0) (.seq (.seq (.z r_Z84_1) (.block 0 (.seq (.z r_Z84_2) (.cond (.t 7) (.seq (.reg r_Z84_3 (some [0,1,3,7,0,16,48,112,240,511,1023])) .ret) (.seq (.z r_Z84_4) (.cond (.t 19) (.seq (.reg r_Z84_5 (some [0,1,3,7,0,16,63,127])) .ret) (.seq (.z r_Z84_6) (.cond (.t 28) (.seq (.reg r_Z84_7 (some [0,1,3,7,0,16,48,0,128,384,896,1920,4080,8176,16383,32767])) .ret) (.seq (.z r_Z84_8) (.cond (.t 45) (.seq (.reg r_Z84_9 (some [0,1,3,7,0,16,48,0,128,384,896,1920,4080,8176,16383,32767])) .ret) (.seq (.z r_Z84_10) (.cond (.t 62) (.seq (.reg r_Z84_11 (some [0,1,3,7,0,16,48,112,255,511,1023,2047])) .ret) (.seq (.z r_Z84_12) (.cond (.t 75) (.seq (.z r_Z84_13) .ret) .skip)))))))))))))) (.seq (.reg r_Z84_14 (some [0,1,3,7,0,16,63,127])) .ret))
theorem c_Z84 : cfun Tryz.prog [] 94 = some (89,dc_Z84,[(Res.tmp 4)]):=by kernel_rfl
def r_Z19_0 : List GI:=[gi 2 (.box 2 2000002 (.t 0) (some 5)),gi 4 (.alloc 4 2000004 [I 0,.nul])]
def r_Z19_1 : List GI:=[gi 5 (.mov 5 (.k .nul))]
def r_Z19_2 : List GI:=[gf 8 2 4,gl 9 8,gn 10 9,gk 11 0]
def r_Z19_3 : List GI:=[gb 12 .lss 11 10]
def r_Z19_4 : List GI:=[ga 13 9 11 5,gs 14 13 5,gi 7 (.alloc 7 2000007 [I 0,I 0,.nul,.nul,.nul]),g0 (.sto 7 (.t 14) (some 5))]
def r_Z19_5 : List GI:=[gt 15 5,gs 16 7 5,gt 17 1,gc 18 54 [.t 16,.t 17],gi 19 (.bsl 19 2 (some 2) [.agg [I 0,.nul]] [(0,.t 18)]),gi 20 (.app 20 2000020 (.t 15) (.t 19) 2 32),gt 5 20]
def r_Z19_6 : List GI:=[gd 21 .add 11 1,gt 11 21]
def r_Z19_7 : List GI:=[gt 22 1,gs 23 2 5,gt 24 5,⟨.cal 25 (.t 22) [.t 23,.t 24],some 25,none,true⟩,g0 (.sto 4 (.t 25) (some 2))]
def dc_Z19 : DC:=.seq (.z r_Z19_0) (.seq (.z r_Z19_1) (.seq (.seq (.z r_Z19_2) (.block 0 (.loop (.seq (.z r_Z19_3) (.seq (.cond (.t 12) .skip (.exit 0)) (.seq (.block 1 (.seq (.z r_Z19_4) (.z r_Z19_5))) (.z r_Z19_6))))))) (.seq (.z r_Z19_7) .ret)))
theorem c_Z19 : cfun Tryz.prog [] 54 = some (26,dc_Z19,[(Res.cell 4 (some 2))]):=by kernel_rfl
def r_Z114_0 : List GI:=[gi 3 (.box 3 2000003 (.t 0) (some 5)),gi 6 (.alloc 6 2000006 [I 0,.nul])]
def r_Z114_1 : List GI:=[gf 10 3 0,gl 11 10,gd 12 .eql 11 1]
def r_Z114_2 : List GI:=[gt 13 2,gf 14 3 1,gl 15 14,ga 16 13 15 2,gs 17 16 2,g0 (.sto 6 (.t 17) (some 2))]
def r_Z114_3 : List GI:=[gi 7 (.mov 7 (.k .nul))]
def r_Z114_4 : List GI:=[gt 18 1,gn 19 18,gk 20 0]
def r_Z114_5 : List GI:=[gb 21 .lss 20 19]
def r_Z114_6 : List GI:=[ga 22 18 20 2,gs 23 22 2,gi 9 (.alloc 9 2000009 [I 0,.nul]),g0 (.sto 9 (.t 23) (some 2))]
def r_Z114_7 : List GI:=[gt 24 7,gf 25 9 0,gl 26 25,gi 27 (.bsl 27 1 none [I 0] [(0,.t 26)]),gi 28 (.app 28 2000028 (.t 24) (.t 27) 1 8),gt 7 28]
def r_Z114_8 : List GI:=[gd 29 .add 20 1,gt 20 29]
def r_Z114_9 : List GI:=[gs 30 3 5,gt 31 7,gc 32 92 [.t 30,.t 31],gs 33 3 5,gt 34 1,gc 35 94 [.t 33,.t 34],gc 36 93 [.t 35],gi 37 (.build 37 [I 0,.nul] [(0,(none,.t 32)),(1,(none,.t 36))]),g0 (.sto 6 (.t 37) (some 2))]
def dc_Z114 : DC:=.seq (.z r_Z114_0) (.seq (.seq (.z r_Z114_1) (.cond (.t 12) (.seq (.z r_Z114_2) .ret) .skip)) (.seq (.z r_Z114_3) (.seq (.seq (.z r_Z114_4) (.block 0 (.loop (.seq (.z r_Z114_5) (.seq (.cond (.t 21) .skip (.exit 0)) (.seq (.block 1 (.seq (.z r_Z114_6) (.z r_Z114_7))) (.z r_Z114_8))))))) (.seq (.reg r_Z114_9 (some [0,0,3,0,0,31,63,127,255])) .ret))))
theorem c_Z114 : cfun Tryz.prog [] 56 = some (38,dc_Z114,[(Res.cell 6 (some 2))]):=by kernel_rfl
end
end Go.Proofs.YtjngffbghkafaaaGreat
