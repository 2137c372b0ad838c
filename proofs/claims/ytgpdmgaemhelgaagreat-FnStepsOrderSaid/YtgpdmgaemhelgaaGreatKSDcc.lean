/-
  Functions of the program read as code on plain data. Closed facts of the program alone.
-/
import Derived.KernelRfl
import Derived.Test.YtgpdmgaemhelgaaGreatRows
import Derived.Test.YtgpdmgaemhelgaaGreatJSVBox
import Derived.Test.YtgpdmgaemhelgaaGreatJSVYld
namespace Go.Proofs.YtgpdmgaemhelgaaGreat
open Go.RowKit
noncomputable section
def r_Z103_0 : List GI:=[gi 2 (.mov 2 (.k (.v (.pointer none))))]
def r_Z103_1 : List GI:=[gt 3 0,gn 4 3,gd 5 .gtr 4 2000]
def r_Z103_2 : List GI:=[gt 6 0,gi 7 (.slc 7 (.t 6) none (some (.k (I 2000))) 1),gt 0 7]
def r_Z103_3 : List GI:=[gt 8 0,gi 9 (.build 9 [.nul,I 0] [(0,(none,.t 8))]),gi 10 (.box 10 2000010 (.t 9) (some 2)),gt 2 10]
def dc_Z103 : DC:=.seq (.z r_Z103_0) (.seq (.seq (.z r_Z103_1) (.cond (.t 5) (.z r_Z103_2) .skip)) (.seq (.z r_Z103_3) .ret))
theorem c_Z103 : cfun Tryz.prog [] 48 = some (11,dc_Z103,[(Res.tmp 2)]):=by kernel_rfl
def r_Z66_0 : List GI:=[gk 4 0]
def r_Z66_1 : List GI:=[gt 5 1,gt 6 0,gt 7 1,gn 8 7,gc 9 65 [.t 6,.t 8],ga 10 5 9 1,gl 11 10,gt 4 11]
def dc_Z66 : DC:=.seq (.z r_Z66_0) (.seq (.z r_Z66_1) .ret)
theorem c_Z66 : cfun Tryz.prog [] 82 = some (12,dc_Z66,[(Res.tmp 4)]):=by kernel_rfl
def r_Z46_0 : List GI:=[gk 4 0]
def r_Z46_1 : List GI:=[gt 7 0,gt 8 0,gi 9 (.nilc 9 8),gf 10 9 1,gl 11 10,gd 12 .add 11 1,gi 13 (.nilc 13 7),gf 14 13 1,g0 (.sto 14 (.t 12) none)]
def r_Z46_2 : List GI:=[gt 15 1,gd 16 .lss 15 1,gt 17 16,⟨.mov 18 (.t 0),some 18,some (17,false),false⟩,⟨.nilc 19 18,some 19,some (17,false),false⟩,⟨.fad 20 19 0,some 20,some (17,false),false⟩,⟨.lod 21 20 none,some 21,some (17,false),false⟩,⟨.len 22 (.t 21),some 22,some (17,false),false⟩,⟨.bin 23 .eql (.t 22) (.k (I 0)),some 23,some (17,false),false⟩,gi 24 (.pick 24 (.t 17) (.k (.v (.bool true))) (.t 23))]
def r_Z46_3 : List GI:=[gk 4 0]
def r_Z46_4 : List GI:=[gt 25 0,gi 26 (.nilc 26 25),gf 27 26 1,gl 28 27,gd 29 .sub 28 1,gt 5 29]
def r_Z46_5 : List GI:=[gt 30 5,gt 31 0,gi 32 (.nilc 32 31),gf 33 32 0,gl 34 33,gn 35 34,gb 36 .lss 30 35]
def r_Z46_6 : List GI:=[gt 37 0,gi 38 (.nilc 38 37),gf 39 38 0,gl 40 39,gt 41 5,ga 42 40 41 1,gl 43 42,gi 44 (.cvt 44 .i64 (.t 43)),gt 45 1,gb 46 .rem 44 45,gt 4 46]
def r_Z46_7 : List GI:=[gt 47 0,gi 48 (.nilc 48 47),gf 49 48 0,gl 50 49,gt 51 5,gt 52 0,gi 53 (.nilc 53 52),gf 54 53 0,gl 55 54,gn 56 55,gb 57 .rem 51 56,ga 58 50 57 1,gl 59 58,gi 60 (.cvt 60 .i64 (.t 59)),gd 61 .mul 60 131,gt 62 0,gi 63 (.nilc 63 62),gf 64 63 0,gl 65 64,gt 66 5,gd 67 .mul 66 7,gd 68 .add 67 3,gt 69 0,gi 70 (.nilc 70 69),gf 71 70 0,gl 72 71,gn 73 72,gb 74 .rem 68 73,ga 75 65 74 1,gl 76 75,gi 77 (.cvt 77 .i64 (.t 76)),gd 78 .mul 77 1117,gb 79 .add 61 78,gt 80 5,gd 81 .mul 80 29,gb 82 .add 79 81,gt 83 5,gt 84 0,gi 85 (.nilc 85 84),gf 86 85 0,gl 87 86,gn 88 87,gb 89 .quo 83 88,gd 90 .mul 89 53,gb 91 .add 82 90,gt 6 91]
def r_Z46_8 : List GI:=[gt 92 6,gt 93 6,gd 94 .quo 93 64,gb 95 .xor 92 94,gt 6 95]
def r_Z46_9 : List GI:=[gt 96 6,gt 97 1,gb 98 .rem 96 97,gt 4 98]
def dc_Z46 : DC:=.seq (.z r_Z46_0) (.seq (.z r_Z46_1) (.seq (.seq (.z r_Z46_2) (.cond (.t 24) (.seq (.z r_Z46_3) .ret) .skip)) (.seq (.z r_Z46_4) (.seq (.seq (.z r_Z46_5) (.cond (.t 36) (.seq (.z r_Z46_6) .ret) .skip)) (.seq (.reg r_Z46_7 (some [0,1,3,7,0,0,32,96,224,480,1008,2047,4095,8191,16383,0,32768,98304,229376,0,524288,1572864,0,4194304,12582912,29360128,62914560,133693440,268402688,536838144,1073709056,2147450880,4294967295,0,8589934592,34359738367,0,0,137438953472,412316860416,962072674304,2061584302080,4329327034368,8727373545472,17592186044415,35184372088831])) (.seq (.z r_Z46_8) (.seq (.z r_Z46_9) .ret)))))))
theorem c_Z46 : cfun Tryz.prog [] 65 = some (99,dc_Z46,[(Res.tmp 4)]):=by kernel_rfl
def r_Z120_0 : List GI:=[gi 2 (.alloc 2 2000002 [.v (.bool false),I 0])]
def r_Z120_1 : List GI:=[gt 4 0,gc 5 180 [.t 4],gi 3 (.alloc 3 2000003 [.v (.bool false),I 0]),g0 (.sto 3 (.t 5) (some 2))]
def r_Z120_2 : List GI:=[gt 6 0,gc 7 65 [.t 6,.k (I 14)]]
def r_Z120_3 : List GI:=[gd 9 .eql 7 0,gt 8 9]
def r_Z120_4 : List GI:=[gi 10 (.build 10 [.v (.bool false),I 0] [(0,(none,.k (.v (.bool true)))),(1,(none,.k (I 1)))]),g0 (.sto 2 (.t 10) (some 2))]
def r_Z120_5 : List GI:=[gd 12 .eql 7 1,gt 11 12]
def r_Z120_6 : List GI:=[gt 13 0,gi 14 (.bsl 14 1 none [I 0,I 0,I 0,I 0] [(0,.k (I 10000)),(1,.k (.v (.int .i64 (-10000)))),(2,.k (I 9999)),(3,.k (.v (.int .i64 (-9999))))]),gc 15 82 [.t 13,.t 14],gi 16 (.build 16 [.v (.bool false),I 0] [(1,(none,.t 15))]),g0 (.sto 2 (.t 16) (some 2))]
def r_Z120_7 : List GI:=[gs 17 3 2,g0 (.sto 2 (.t 17) (some 2))]
def dc_Z120 : DC:=.seq (.z r_Z120_0) (.seq (.z r_Z120_1) (.seq (.seq (.z r_Z120_2) (.block 0 (.seq (.z r_Z120_3) (.cond (.t 8) (.seq (.z r_Z120_4) .ret) (.seq (.z r_Z120_5) (.cond (.t 11) (.seq (.z r_Z120_6) .ret) .skip)))))) (.seq (.z r_Z120_7) .ret)))
theorem c_Z120 : cfun Tryz.prog [] 157 = some (18,dc_Z120,[(Res.cell 2 (some 2))]):=by kernel_rfl
def r_Z67_0 : List GI:=[gi 2 (.alloc 2 2000002 [.v (.bool false),I 0])]
def r_Z67_1 : List GI:=[gt 3 0,gc 4 65 [.t 3,.k (I 5)],gd 5 .eql 4 0]
def r_Z67_2 : List GI:=[gi 6 (.build 6 [.v (.bool false),I 0] [(0,(none,.k (.v (.bool true))))]),g0 (.sto 2 (.t 6) (some 2))]
def r_Z67_3 : List GI:=[gt 7 0,gi 8 (.bsl 8 1 none [I 0,I 0,I 0,I 0,I 0] [(0,.k (I 0)),(1,.k (I 1)),(2,.k (I 2)),(3,.k (I 3)),(4,.k (.v (.int .i64 (-1))))]),gc 9 82 [.t 7,.t 8],gi 10 (.build 10 [.v (.bool false),I 0] [(1,(none,.t 9))]),g0 (.sto 2 (.t 10) (some 2))]
def dc_Z67 : DC:=.seq (.z r_Z67_0) (.seq (.seq (.z r_Z67_1) (.cond (.t 5) (.seq (.z r_Z67_2) .ret) .skip)) (.seq (.z r_Z67_3) .ret))
theorem c_Z67 : cfun Tryz.prog [] 180 = some (11,dc_Z67,[(Res.cell 2 (some 2))]):=by kernel_rfl
def r_Z133_0 : List GI:=[gi 4 (.alloc 4 2000004 [I 0,I 0,.v (.bool false),I 0,.nul])]
def r_Z133_1 : List GI:=[gt 6 0,gt 7 1,gc 8 156 [.t 6,.t 7,.k (I 3)],gi 5 (.alloc 5 2000005 [I 0,I 0,.v (.bool false),I 0,.nul]),g0 (.sto 5 (.t 8) (some 5))]
def r_Z133_2 : List GI:=[gt 9 0,gc 10 65 [.t 9,.k (I 18)]]
def r_Z133_3 : List GI:=[gd 12 .eql 10 0,gt 11 12]
def r_Z133_4 : List GI:=[gt 13 0,gi 14 (.bsl 14 1 none [I 0,I 0,I 0,I 0] [(0,.k (I 0)),(1,.k (I 12)),(2,.k (I 3)),(3,.k (I 10))]),gc 15 82 [.t 13,.t 14],gf 16 5 0,g0 (.sto 16 (.t 15) none)]
def r_Z133_5 : List GI:=[gd 18 .eql 10 1,gt 17 18]
def r_Z133_6 : List GI:=[gt 19 0,gt 20 1,gi 21 (.bsl 21 1 none [I 0,I 0,I 0] [(0,.k (.v (.int .i64 (-1)))),(1,.k (I 6)),(2,.t 20)]),gc 22 82 [.t 19,.t 21],gf 23 5 1,g0 (.sto 23 (.t 22) none)]
def r_Z133_7 : List GI:=[gd 25 .eql 10 2,gt 24 25]
def r_Z133_8 : List GI:=[gt 26 0,gc 27 157 [.t 26],gf 28 5 2,g0 (.sto 28 (.t 27) (some 2))]
def r_Z133_9 : List GI:=[gs 29 5 5,g0 (.sto 4 (.t 29) (some 5))]
def dc_Z133 : DC:=.seq (.z r_Z133_0) (.seq (.z r_Z133_1) (.seq (.seq (.z r_Z133_2) (.block 0 (.seq (.z r_Z133_3) (.cond (.t 11) (.z r_Z133_4) (.seq (.z r_Z133_5) (.cond (.t 17) (.z r_Z133_6) (.seq (.z r_Z133_7) (.cond (.t 24) (.z r_Z133_8) .skip)))))))) (.seq (.z r_Z133_9) .ret)))
theorem c_Z133 : cfun Tryz.prog [] 121 = some (30,dc_Z133,[(Res.cell 4 (some 5))]):=by kernel_rfl
def r_Z121_0 : List GI:=[gi 1 (.box 1 2000001 (.t 0) (some 2)),gi 2 (.alloc 2 2000002 [I 0,I 0,.v (.bool false),I 0,.nul])]
def r_Z121_1 : List GI:=[gs 3 1 2,gi 4 (.build 4 [I 0,I 0,.v (.bool false),I 0,.nul] [(0,(none,.k (I 2))),(2,(some 2,.t 3))]),g0 (.sto 2 (.t 4) (some 5))]
def dc_Z121 : DC:=.seq (.z r_Z121_0) (.seq (.z r_Z121_1) .ret)
theorem c_Z121 : cfun Tryz.prog [] 179 = some (5,dc_Z121,[(Res.cell 2 (some 5))]):=by kernel_rfl
def r_Z82_0 : List GI:=[gi 6 (.alloc 6 2000006 [I 0,I 0,.v (.bool false),I 0,.nul])]
def r_Z82_1 : List GI:=[gt 11 0,gc 12 65 [.t 11,.k (I 13)],gt 7 12]
def r_Z82_2 : List GI:=[gt 13 2,gd 14 .eql 13 0,gt 15 14,⟨.mov 16 (.t 7),some 16,some (15,false),false⟩,⟨.bin 17 .gtr (.t 16) (.k (I 10)),some 17,some (15,false),false⟩,gi 18 (.pick 18 (.t 15) (.k (.v (.bool true))) (.t 17))]
def r_Z82_3 : List GI:=[gt 19 0,gc 20 65 [.t 19,.k (I 3)],gd 21 .gtr 20 0]
def r_Z82_4 : List GI:=[gt 22 0,gt 23 1,gc 24 65 [.t 22,.t 23],gi 25 (.build 25 [I 0,I 0,.v (.bool false),I 0,.nul] [(0,(none,.k (I 1))),(1,(none,.t 24))]),g0 (.sto 6 (.t 25) (some 5))]
def r_Z82_5 : List GI:=[gt 26 0,gc 27 180 [.t 26],gc 28 179 [.t 27],g0 (.sto 6 (.t 28) (some 5))]
def r_Z82_6 : List GI:=[gt 29 7,gd 30 .rem 29 9,gi 31 (.bin 31 .add (.k (I 3)) (.t 30)),gt 8 31]
def r_Z82_7 : List GI:=[gt 32 8,gi 33 (.build 33 [I 0,I 0,.v (.bool false),I 0,.nul] [(0,(none,.t 32))]),gi 9 (.alloc 9 2000009 [I 0,I 0,.v (.bool false),I 0,.nul]),g0 (.sto 9 (.t 33) (some 5))]
def r_Z82_8 : List GI:=[gk 10 0]
def r_Z82_9 : List GI:=[gt 34 10,gt 35 8,gc 36 181 [.t 35],gb 37 .lss 34 36]
def r_Z82_10 : List GI:=[gf 40 9 4,gl 41 40,gt 42 0,gt 43 1,gt 44 2,gd 45 .sub 44 1,gc 46 156 [.t 42,.t 43,.t 45],gi 47 (.bsl 47 5 (some 5) [.agg [I 0,I 0,.v (.bool false),I 0,.nul]] [(0,.t 46)]),gi 48 (.app 48 2000048 (.t 41) (.t 47) 5 56),gf 49 9 4,g0 (.sto 49 (.t 48) none)]
def r_Z82_11 : List GI:=[gt 38 10,gd 39 .add 38 1,gt 10 39]
def r_Z82_12 : List GI:=[gs 50 9 5,g0 (.sto 6 (.t 50) (some 5))]
def dc_Z82 : DC:=.seq (.z r_Z82_0) (.seq (.z r_Z82_1) (.seq (.seq (.z r_Z82_2) (.cond (.t 18) (.seq (.seq (.z r_Z82_3) (.cond (.t 21) (.seq (.z r_Z82_4) .ret) .skip)) (.seq (.z r_Z82_5) .ret)) .skip)) (.seq (.z r_Z82_6) (.seq (.z r_Z82_7) (.seq (.seq (.z r_Z82_8) (.block 0 (.loop (.seq (.seq (.z r_Z82_9) (.cond (.t 37) .skip (.exit 0))) (.seq (.block 1 (.reg r_Z82_10 (some [0,1,0,0,0,16,60,124,255,511,1023]))) (.z r_Z82_11)))))) (.seq (.z r_Z82_12) .ret))))))
theorem c_Z82 : cfun Tryz.prog [] 156 = some (51,dc_Z82,[(Res.cell 6 (some 5))]):=by kernel_rfl
def r_Z122_0 : List GI:=[gi 1 (.box 1 2000001 (.t 0) (some 5)),gi 2 (.alloc 2 2000002 [I 0,I 0,.v (.bool false),I 0,.nul])]
def r_Z122_1 : List GI:=[gf 5 1 0,gl 6 5,gf 7 1 1,gl 8 7,gf 9 1 2,gs 10 9 2,gi 11 (.build 11 [I 0,I 0,.v (.bool false),I 0,.nul] [(0,(none,.t 6)),(1,(none,.t 8)),(2,(some 2,.t 10))]),gi 3 (.alloc 3 2000003 [I 0,I 0,.v (.bool false),I 0,.nul]),g0 (.sto 3 (.t 11) (some 5))]
def r_Z122_2 : List GI:=[gk 4 0]
def r_Z122_3 : List GI:=[gt 12 4,gf 13 1 4,gl 14 13,gn 15 14,gb 16 .lss 12 15]
def r_Z122_4 : List GI:=[gf 19 3 4,gl 20 19,gf 21 1 4,gl 22 21,gt 23 4,ga 24 22 23 5,gs 25 24 5,gc 26 110 [.t 25],gi 27 (.bsl 27 5 (some 5) [.agg [I 0,I 0,.v (.bool false),I 0,.nul]] [(0,.t 26)]),gi 28 (.app 28 2000028 (.t 20) (.t 27) 5 56),gf 29 3 4,g0 (.sto 29 (.t 28) none)]
def r_Z122_5 : List GI:=[gt 17 4,gd 18 .add 17 1,gt 4 18]
def r_Z122_6 : List GI:=[gs 30 3 5,g0 (.sto 2 (.t 30) (some 5))]
def dc_Z122 : DC:=.seq (.z r_Z122_0) (.seq (.z r_Z122_1) (.seq (.seq (.z r_Z122_2) (.block 0 (.loop (.seq (.seq (.z r_Z122_3) (.cond (.t 16) .skip (.exit 0))) (.seq (.block 1 (.reg r_Z122_4 (some [0,1,0,4,0,28,60,124,252,511,1023,2047]))) (.z r_Z122_5)))))) (.seq (.z r_Z122_6) .ret)))
theorem c_Z122 : cfun Tryz.prog [] 110 = some (31,dc_Z122,[(Res.cell 2 (some 5))]):=by kernel_rfl
def r_Z123_0 : List GI:=[gi 1 (.box 1 2000001 (.t 0) (some 5)),gi 2 (.alloc 2 2000002 [I 0,I 0,.nul,.nul,.nul])]
def r_Z123_1 : List GI:=[gf 6 1 0,gl 7 6,gf 8 1 1,gl 9 8,gi 10 (.mov 10 (.k .nul)),gf 11 1 3,gl 12 11,gi 13 (.app 13 2000013 (.t 10) (.t 12) 1 8),gi 14 (.build 14 [I 0,I 0,.nul,.nul,.nul] [(0,(none,.t 7)),(1,(none,.t 9)),(3,(none,.t 13))]),gi 3 (.alloc 3 2000003 [I 0,I 0,.nul,.nul,.nul]),g0 (.sto 3 (.t 14) (some 5))]
def r_Z123_2 : List GI:=[gk 4 0]
def r_Z123_3 : List GI:=[gt 15 4,gf 16 1 2,gl 17 16,gn 18 17,gb 19 .lss 15 18]
def r_Z123_4 : List GI:=[gf 22 3 2,gl 23 22,gf 24 1 2,gl 25 24,gt 26 4,ga 27 25 26 5,gs 28 27 5,gc 29 110 [.t 28],gi 30 (.bsl 30 5 (some 5) [.agg [I 0,I 0,.v (.bool false),I 0,.nul]] [(0,.t 29)]),gi 31 (.app 31 2000031 (.t 23) (.t 30) 5 56),gf 32 3 2,g0 (.sto 32 (.t 31) none)]
def r_Z123_5 : List GI:=[gt 20 4,gd 21 .add 20 1,gt 4 21]
def r_Z123_6 : List GI:=[gk 5 0]
def r_Z123_7 : List GI:=[gt 33 5,gf 34 1 4,gl 35 34,gn 36 35,gb 37 .lss 33 36]
def r_Z123_8 : List GI:=[gf 40 3 4,gl 41 40,gf 42 1 4,gl 43 42,gt 44 5,ga 45 43 44 5,gs 46 45 5,gc 47 64 [.t 46],gi 48 (.bsl 48 5 (some 5) [.agg [I 0,I 0,.nul,.nul,.nul]] [(0,.t 47)]),gi 49 (.app 49 2000049 (.t 41) (.t 48) 5 88),gf 50 3 4,g0 (.sto 50 (.t 49) none)]
def r_Z123_9 : List GI:=[gt 38 5,gd 39 .add 38 1,gt 5 39]
def r_Z123_10 : List GI:=[gs 51 3 5,g0 (.sto 2 (.t 51) (some 5))]
def dc_Z123 : DC:=.seq (.z r_Z123_0) (.seq (.reg r_Z123_1 (some [0,1,0,4,0,0,32,112,255,0,1023])) (.seq (.seq (.z r_Z123_2) (.block 0 (.loop (.seq (.seq (.z r_Z123_3) (.cond (.t 19) .skip (.exit 0))) (.seq (.block 1 (.reg r_Z123_4 (some [0,1,0,4,0,28,60,124,252,511,1023,2047]))) (.z r_Z123_5)))))) (.seq (.seq (.z r_Z123_6) (.block 2 (.loop (.seq (.seq (.z r_Z123_7) (.cond (.t 37) .skip (.exit 2))) (.seq (.block 3 (.reg r_Z123_8 (some [0,1,0,4,0,28,60,124,252,511,1023,2047]))) (.z r_Z123_9)))))) (.seq (.z r_Z123_10) .ret))))
theorem c_Z123 : cfun Tryz.prog [] 64 = some (52,dc_Z123,[(Res.cell 2 (some 5))]):=by kernel_rfl
def r_Z124_0 : List GI:=[gi 2 (.box 2 2000002 (.t 0) (some 5)),gi 3 (.box 3 2000003 (.t 1) (some 5)),gi 4 (.alloc 4 2000004 [I 0,I 0,.nul,.nul,.nul])]
def r_Z124_1 : List GI:=[gs 5 2 5,gi 6 (.bsl 6 5 (some 5) [.agg [I 0,I 0,.v (.bool false),I 0,.nul]] [(0,.t 5)]),gs 7 3 5,gi 8 (.bsl 8 5 (some 5) [.agg [I 0,I 0,.nul,.nul,.nul]] [(0,.t 7)]),gi 9 (.build 9 [I 0,I 0,.nul,.nul,.nul] [(0,(none,.k (I 2))),(2,(none,.t 6)),(4,(none,.t 8))]),g0 (.sto 4 (.t 9) (some 5))]
def dc_Z124 : DC:=.seq (.z r_Z124_0) (.seq (.z r_Z124_1) .ret)
theorem c_Z124 : cfun Tryz.prog [] 154 = some (10,dc_Z124,[(Res.cell 4 (some 5))]):=by kernel_rfl
def r_Z51_0 : List GI:=[gi 2 (.mov 2 (.k .nul))]
def r_Z51_1 : List GI:=[gt 3 0,gt 4 0,gi 5 (.nilc 5 4),gf 6 5 4,gl 7 6,gc 8 90 [.t 7],gi 9 (.nilc 9 3),gf 10 9 4,g0 (.sto 10 (.t 8) none)]
def r_Z51_2 : List GI:=[gt 11 0,gi 12 (.nilc 12 11),gf 13 12 4,gl 14 13,gt 2 14]
def dc_Z51 : DC:=.seq (.z r_Z51_0) (.seq (.z r_Z51_1) (.seq (.z r_Z51_2) .ret))
theorem c_Z51 : cfun Tryz.prog [] 135 = some (15,dc_Z51,[(Res.tmp 2)]):=by kernel_rfl
def r_Z1_0 : List GI:=[gi 2 (.mov 2 (.k .nul))]
def r_Z1_1 : List GI:=[gt 3 0,gi 4 (.isn 4 false (.t 3))]
def r_Z1_2 : List GI:=[gi 2 (.mov 2 (.k .nul))]
def r_Z1_3 : List GI:=[gi 5 (.mov 5 (.k .nul)),gt 6 0,gi 7 (.app 7 2000007 (.t 5) (.t 6) 5 56),gt 2 7]
def dc_Z1 : DC:=.seq (.z r_Z1_0) (.seq (.seq (.z r_Z1_1) (.cond (.t 4) (.seq (.z r_Z1_2) .ret) .skip)) (.seq (.z r_Z1_3) .ret))
theorem c_Z1 : cfun Tryz.prog [] 90 = some (8,dc_Z1,[(Res.tmp 2)]):=by kernel_rfl
def r_Z90_0 : List GI:=[gi 1 (.box 1 2000001 (.t 0) (some 5)),gi 2 (.alloc 2 2000002 [I 0,I 0,.v (.bool false),I 0,.nul])]
def r_Z90_1 : List GI:=[gs 3 1 5,⟨.call 4 134 [.t 3,.k (.fn 135 [])],some 4,none,true⟩,g0 (.sto 2 (.t 4) (some 5))]
def dc_Z90 : DC:=.seq (.z r_Z90_0) (.seq (.z r_Z90_1) .ret)
theorem c_Z90 : cfun Tryz.prog [] 91 = some (5,dc_Z90,[(Res.cell 2 (some 5))]):=by kernel_rfl
def r_Z6_0 : List GI:=[gi 2 (.box 2 2000002 (.t 0) (some 5)),gi 4 (.alloc 4 2000004 [I 0,I 0,.v (.bool false),I 0,.nul])]
def r_Z6_1 : List GI:=[gi 9 (.bslx 9 2000009 1 none [.v (.pointer none)] [(0,.t 2)]),gt 5 9]
def r_Z6_2 : List GI:=[gt 10 5,gn 11 10,gd 12 .gtr 11 0]
def r_Z6_3 : List GI:=[gt 13 5,gt 14 5,gn 15 14,gd 16 .sub 15 1,ga 17 13 16 1,gl 18 17,gt 6 18]
def r_Z6_4 : List GI:=[gt 19 5,gt 20 5,gn 21 20,gd 22 .sub 21 1,gi 23 (.slc 23 (.t 19) none (some (.t 22)) 1),gt 5 23]
def r_Z6_5 : List GI:=[gt 24 1,gt 25 6,⟨.cal 26 (.t 24) [.t 25],some 26,none,true⟩,gt 7 26]
def r_Z6_6 : List GI:=[gt 27 7,gn 28 27,gk 29 0]
def r_Z6_7 : List GI:=[gb 30 .lss 29 28]
def r_Z6_8 : List GI:=[gt 31 29,gt 8 31]
def r_Z6_9 : List GI:=[gt 32 5,gt 33 7,gt 34 8,ga 35 33 34 5,gi 36 (.bslx 36 2000036 1 none [.v (.pointer none)] [(0,.t 35)]),gi 37 (.app 37 2000037 (.t 32) (.t 36) 1 8),gt 5 37]
def r_Z6_10 : List GI:=[gd 38 .add 29 1,gt 29 38]
def r_Z6_11 : List GI:=[gs 39 2 5,g0 (.sto 4 (.t 39) (some 5))]
def dc_Z6 : DC:=.seq (.z r_Z6_0) (.seq (.seq (.z r_Z6_1) (.block 0 (.loop (.seq (.seq (.z r_Z6_2) (.cond (.t 12) .skip (.exit 0))) (.block 1 (.seq (.z r_Z6_3) (.seq (.z r_Z6_4) (.seq (.z r_Z6_5) (.seq (.z r_Z6_6) (.block 2 (.loop (.seq (.z r_Z6_7) (.seq (.cond (.t 30) .skip (.exit 2)) (.seq (.block 3 (.seq (.z r_Z6_8) (.z r_Z6_9))) (.z r_Z6_10))))))))))))))) (.seq (.z r_Z6_11) .ret))
theorem c_Z6 : cfun Tryz.prog [9,36] 134 = some (40,dc_Z6,[(Res.cell 4 (some 5))]):=by kernel_rfl
def r_Z70_0 : List GI:=[gi 3 (.box 3 2000003 (.t 0) (some 5)),gi 6 (.alloc 6 2000006 [I 0,I 0,.v (.bool false),I 0,.nul]),gi 7 (.mov 7 (.k (.v (.bool false))))]
def r_Z70_1 : List GI:=[gs 11 3 5,gt 12 1,gn 13 12,gc 14 146 [.t 11,.t 13],gi 15 (.un 15 UnOp.not (.t 14))]
def r_Z70_2 : List GI:=[gi 16 (.build 16 [I 0,I 0,.v (.bool false),I 0,.nul] []),g0 (.sto 6 (.t 16) (some 5)),gi 7 (.mov 7 (.k (.v (.bool false))))]
def r_Z70_3 : List GI:=[gt 17 1,gn 18 17,gk 19 0]
def r_Z70_4 : List GI:=[gb 20 .lss 19 18]
def r_Z70_5 : List GI:=[ga 21 17 19 5,gs 22 21 5,gi 9 (.alloc 9 2000009 [I 0,I 0,.v (.bool false),I 0,.nul]),g0 (.sto 9 (.t 22) (some 5))]
def r_Z70_6 : List GI:=[gs 23 9 5,gt 24 2,gc 25 146 [.t 23,.t 24],gi 26 (.un 26 UnOp.not (.t 25))]
def r_Z70_7 : List GI:=[gi 27 (.build 27 [I 0,I 0,.v (.bool false),I 0,.nul] []),g0 (.sto 6 (.t 27) (some 5)),gi 7 (.mov 7 (.k (.v (.bool false))))]
def r_Z70_8 : List GI:=[gd 28 .add 19 1,gt 19 28]
def r_Z70_9 : List GI:=[gs 29 3 5,gt 30 1,gi 31 (.build 31 [.nul] [(0,(none,.t 30))]),gi 32 (.ifc 32 191 (.t 31)),gc 33 165 [.t 29,.t 32],gi 10 (.alloc 10 2000010 [I 0,I 0,.v (.bool false),I 0,.nul]),g0 (.sto 10 (.t 33) (some 5))]
def r_Z70_10 : List GI:=[gs 34 10 5,gt 35 2,gc 36 146 [.t 34,.t 35],gi 37 (.un 37 UnOp.not (.t 36))]
def r_Z70_11 : List GI:=[gi 38 (.build 38 [I 0,I 0,.v (.bool false),I 0,.nul] []),g0 (.sto 6 (.t 38) (some 5)),gi 7 (.mov 7 (.k (.v (.bool false))))]
def r_Z70_12 : List GI:=[gs 39 10 5,g0 (.sto 6 (.t 39) (some 5)),gi 7 (.mov 7 (.k (.v (.bool true))))]
def dc_Z70 : DC:=.seq (.z r_Z70_0) (.seq (.seq (.z r_Z70_1) (.cond (.t 15) (.seq (.z r_Z70_2) .ret) .skip)) (.seq (.seq (.z r_Z70_3) (.block 0 (.loop (.seq (.z r_Z70_4) (.seq (.cond (.t 20) .skip (.exit 0)) (.seq (.block 1 (.seq (.z r_Z70_5) (.seq (.z r_Z70_6) (.cond (.t 26) (.seq (.z r_Z70_7) .ret) .skip)))) (.z r_Z70_8))))))) (.seq (.z r_Z70_9) (.seq (.seq (.z r_Z70_10) (.cond (.t 37) (.seq (.z r_Z70_11) .ret) .skip)) (.seq (.z r_Z70_12) .ret)))))
theorem c_Z70 : cfun Tryz.prog [] 170 = some (40,dc_Z70,[(Res.cell 6 (some 5)),(Res.tmp 7)]):=by kernel_rfl
def r_Z16_0 : List GI:=[gi 2 (.box 2 2000002 (.t 0) (some 1)),gi 3 (.box 3 2000003 (.t 1) (some 5)),gi 4 (.alloc 4 2000004 [I 0,I 0,.v (.bool false),I 0,.nul])]
def r_Z16_1 : List GI:=[gf 5 3 0,gl 6 5,gd 7 .eql 6 1]
def r_Z16_2 : List GI:=[gf 8 2 0,gl 9 8,gf 10 3 1,gl 11 10,ga 12 9 11 5,gs 13 12 5,gc 14 91 [.t 13],g0 (.sto 4 (.t 14) (some 5))]
def r_Z16_3 : List GI:=[gs 15 3 5,g0 (.sto 4 (.t 15) (some 5))]
def dc_Z16 : DC:=.seq (.z r_Z16_0) (.seq (.seq (.z r_Z16_1) (.cond (.t 7) (.seq (.z r_Z16_2) .ret) .skip)) (.seq (.z r_Z16_3) .ret))
theorem c_Z16 : cfun Tryz.prog [] 234 = some (16,dc_Z16,[(Res.cell 4 (some 5))]):=by kernel_rfl
end
end Go.Proofs.YtgpdmgaemhelgaaGreat
