/-
  Functions of the program read as code on plain data. Closed facts of the program alone.
-/
import Derived.KernelRfl
import Derived.Test.YtgpdmgaemhelgaaGreatRows
import Derived.Test.YtgpdmgaemhelgaaGreatJSVCall
namespace Go.Proofs.YtgpdmgaemhelgaaGreat
open Go.RowKit
noncomputable section
def r_Z112_0 : List GI:=[gi 2 (.box 2 2000002 (.t 0) (some 5)),gi 4 (.mov 4 (.k .nul))]
def r_Z112_1 : List GI:=[gs 5 2 5,gt 6 1,gc 7 53 [.t 5,.t 6],gd 8 .eql 7 0]
def r_Z112_2 : List GI:=[gi 4 (.mov 4 (.k .nul))]
def r_Z112_3 : List GI:=[gs 9 2 5,gt 10 1,gc 11 60 [.t 9,.t 10],gt 4 11]
def dc_Z112 : DC:=.seq (.z r_Z112_0) (.seq (.seq (.z r_Z112_1) (.cond (.t 8) (.seq (.z r_Z112_2) .ret) .skip)) (.seq (.z r_Z112_3) .ret))
theorem c_Z112 : cfun Tryz.prog [] 24 = some (12,dc_Z112,[(Res.tmp 4)]):=by kernel_rfl
def r_Z27_0 : List GI:=[gi 2 (.alloc 2 2000002 [I 0,I 0,.nul,.nul,.nul]),gi 3 (.mov 3 (.k .nul)),gi 4 (.alloc 4 2000004 [I 0,.nul])]
def r_Z27_1 : List GI:=[gt 8 0,gc 9 48 [.t 8],gt 5 9]
def r_Z27_2 : List GI:=[gt 11 5,gc 12 49 [.t 11],gt 10 12,gi 13 (.ext 13 10 0),gi 14 (.ext 14 10 1),gi 6 (.alloc 6 2000006 [I 0,I 0,.nul,.nul,.nul]),g0 (.sto 6 (.t 13) (some 5)),gt 7 14]
def r_Z27_3 : List GI:=[gs 15 6 5,gt 16 7,gt 17 5,gs 18 6 5,gt 19 7,gc 20 50 [.t 17,.t 18,.t 19],g0 (.sto 2 (.t 15) (some 5)),gt 3 16,g0 (.sto 4 (.t 20) (some 2))]
def dc_Z27 : DC:=.seq (.z r_Z27_0) (.seq (.z r_Z27_1) (.seq (.z r_Z27_2) (.seq (.reg r_Z27_3 (some [0,0,0,0,0,28,61,127,255])) .ret)))
theorem c_Z27 : cfun Tryz.prog [] 15 = some (21,dc_Z27,[(Res.cell 2 (some 5)),(Res.tmp 3),(Res.cell 4 (some 2))]):=by kernel_rfl
def r_Z123_0 : List GI:=[gi 4 (.box 4 2000004 (.t 1) (some 5)),gi 6 (.alloc 6 2000006 [I 0,.nul])]
def r_Z123_1 : List GI:=[gs 9 4 5,gt 10 2,gc 11 24 [.t 9,.t 10],gt 7 11]
def r_Z123_2 : List GI:=[gt 12 7,gn 13 12,gd 14 .gtr 13 0,gt 15 14,⟨.mov 16 (.t 0),some 16,some (15,true),false⟩,⟨.call 17 65 [.t 16,.k (I 5)],some 17,some (15,true),true⟩,⟨.bin 18 .gtr (.t 17) (.k (I 0)),some 18,some (15,true),false⟩,gi 19 (.pick 19 (.t 15) (.t 18) (.k (.v (.bool false))))]
def r_Z123_3 : List GI:=[gt 20 7,gt 21 0,gt 22 7,gn 23 22,gc 24 65 [.t 21,.t 23],ga 25 20 24 2,gs 26 25 2,gi 8 (.alloc 8 2000008 [I 0,.nul]),g0 (.sto 8 (.t 26) (some 2))]
def r_Z123_4 : List GI:=[gf 27 8 0,gl 28 27,gi 29 (.mov 29 (.k .nul)),gf 30 8 1,gl 31 30,gi 32 (.app 32 2000032 (.t 29) (.t 31) 1 8),gi 33 (.build 33 [I 0,.nul] [(0,(none,.t 28)),(1,(none,.t 32))]),g0 (.sto 6 (.t 33) (some 2))]
def r_Z123_5 : List GI:=[gt 34 0,gc 35 65 [.t 34,.k (I 13)],gt 36 0,gc 37 83 [.t 36],gi 38 (.build 38 [I 0,.nul] [(0,(none,.t 35)),(1,(none,.t 37))]),g0 (.sto 6 (.t 38) (some 2))]
def dc_Z123 : DC:=.seq (.z r_Z123_0) (.seq (.z r_Z123_1) (.seq (.seq (.z r_Z123_2) (.cond (.t 19) (.seq (.z r_Z123_3) (.seq (.reg r_Z123_4 (some [0,1,0,0,8,28,63,127])) .ret)) .skip)) (.seq (.z r_Z123_5) .ret)))
theorem c_Z123 : cfun Tryz.prog [] 50 = some (39,dc_Z123,[(Res.cell 6 (some 2))]):=by kernel_rfl
end
end Go.Proofs.YtgpdmgaemhelgaaGreat
namespace Go.Proofs.YtgpdmgaemhelgaaGreat
open Go.RowKit
noncomputable section
def r_Z113_0 : List GI:=[gi 4 (.box 4 2000004 (.t 1) (some 5)),gi 6 (.mov 6 (.k .nul))]
def r_Z113_1 : List GI:=[gt 8 0,gi 9 (.mov 9 (.k .nul)),gt 10 2,gi 11 (.app 11 2000011 (.t 9) (.t 10) 1 8),gi 12 (.bsl 12 1 none [.nul] [(0,.t 11)]),gi 13 (.app 13 2000013 (.t 8) (.t 12) 1 24),gt 0 13]
def r_Z113_2 : List GI:=[gk 7 0]
def r_Z113_3 : List GI:=[gt 14 7,gf 15 4 4,gl 16 15,gn 17 16,gb 18 .lss 14 17]
def r_Z113_4 : List GI:=[gt 21 0,gf 22 4 4,gl 23 22,gt 24 7,ga 25 23 24 5,gs 26 25 5,gi 27 (.mov 27 (.k .nul)),gt 28 2,gi 29 (.app 29 2000029 (.t 27) (.t 28) 1 8),gt 30 7,gi 31 (.bsl 31 1 none [I 0] [(0,.t 30)]),gi 32 (.app 32 2000032 (.t 29) (.t 31) 1 8),gc 33 109 [.t 21,.t 26,.t 32],gt 0 33]
def r_Z113_5 : List GI:=[gt 19 7,gd 20 .add 19 1,gt 7 20]
def r_Z113_6 : List GI:=[gt 34 0,gt 6 34]
def dc_Z113 : DC:=.seq (.z r_Z113_0) (.seq (.z r_Z113_1) (.seq (.seq (.z r_Z113_2) (.block 0 (.loop (.seq (.seq (.z r_Z113_3) (.cond (.t 18) .skip (.exit 0))) (.seq (.block 1 (.reg r_Z113_4 (some [0,0,2,0,14,30,0,0,192,0,512,1984,4095,8191]))) (.z r_Z113_5)))))) (.seq (.z r_Z113_6) .ret)))
theorem c_Z113 : cfun Tryz.prog [] 109 = some (35,dc_Z113,[(Res.tmp 6)]):=by kernel_rfl
end
end Go.Proofs.YtgpdmgaemhelgaaGreat
namespace Go.Proofs.YtgpdmgaemhelgaaGreat
open Go.RowKit
noncomputable section
def r_Z124_0 : List GI:=[gi 2 (.box 2 2000002 (.t 0) (some 5)),gi 4 (.mov 4 (.k .nul))]
def r_Z124_1 : List GI:=[gi 12 (.mov 12 (.k .nul)),gt 5 12]
def r_Z124_2 : List GI:=[gi 13 (.mov 13 (.k .nul)),gs 14 2 5,gi 15 (.mov 15 (.k .nul)),gc 16 109 [.t 13,.t 14,.t 15],gt 6 16]
def r_Z124_3 : List GI:=[gk 7 0]
def r_Z124_4 : List GI:=[gt 17 7,gt 18 6,gn 19 18,gb 20 .lss 17 19]
def r_Z124_5 : List GI:=[gk 8 1]
def r_Z124_6 : List GI:=[gt 23 8,gd 24 .leq 23 11]
def r_Z124_7 : List GI:=[gt 27 8,gi 28 (.mov 28 (.k .nul)),gt 29 6,gt 30 7,ga 31 29 30 1,gl 32 31,gi 33 (.app 33 2000033 (.t 28) (.t 32) 1 8),gi 34 (.build 34 [I 0,.nul] [(0,(none,.t 27)),(1,(none,.t 33))]),gi 9 (.alloc 9 2000009 [I 0,.nul]),g0 (.sto 9 (.t 34) (some 2))]
def r_Z124_8 : List GI:=[gs 36 2 5,gt 37 1,gs 38 9 2,gc 39 54 [.t 36,.t 37,.t 38],gt 35 39,gi 40 (.ext 40 35 0),gi 41 (.ext 41 35 1),gi 10 (.alloc 10 2000010 [I 0,I 0,.nul,.nul,.nul]),g0 (.sto 10 (.t 40) (some 5)),gt 11 41]
def r_Z124_9 : List GI:=[gt 42 11]
def r_Z124_10 : List GI:=[gt 43 5,gs 44 9 2,gi 45 (.bsl 45 2 (some 2) [.agg [I 0,.nul]] [(0,.t 44)]),gi 46 (.app 46 2000046 (.t 43) (.t 45) 2 32),gt 5 46]
def r_Z124_11 : List GI:=[gt 25 8,gd 26 .add 25 1,gt 8 26]
def r_Z124_12 : List GI:=[gt 21 7,gd 22 .add 21 1,gt 7 22]
def r_Z124_13 : List GI:=[gt 47 5,gt 4 47]
def dc_Z124 : DC:=.seq (.z r_Z124_0) (.seq (.z r_Z124_1) (.seq (.z r_Z124_2) (.seq (.seq (.z r_Z124_3) (.block 0 (.loop (.seq (.seq (.z r_Z124_4) (.cond (.t 20) .skip (.exit 0))) (.seq (.block 1 (.seq (.z r_Z124_5) (.block 2 (.loop (.seq (.seq (.z r_Z124_6) (.cond (.t 24) .skip (.exit 2))) (.seq (.block 3 (.seq (.z r_Z124_7) (.seq (.z r_Z124_8) (.seq (.z r_Z124_9) (.cond (.t 42) (.z r_Z124_10) .skip))))) (.z r_Z124_11))))))) (.z r_Z124_12)))))) (.seq (.z r_Z124_13) .ret))))
theorem c_Z124 : cfun Tryz.prog [] 60 = some (48,dc_Z124,[(Res.tmp 4)]):=by kernel_rfl
end
end Go.Proofs.YtgpdmgaemhelgaaGreat
namespace Go.Proofs.YtgpdmgaemhelgaaGreat
open Go.RowKit
noncomputable section
def r_Z134_0 : List GI:=[gi 3 (.box 3 2000003 (.t 0) (some 5)),gi 6 (.alloc 6 2000006 [I 0,I 0,.nul,.nul,.nul]),gi 7 (.mov 7 (.k (.v (.bool false))))]
def r_Z134_1 : List GI:=[gf 15 3 0,gl 16 15,gd 17 .eql 16 2,gt 14 17]
def r_Z134_2 : List GI:=[gs 18 3 5,gt 19 1,gt 20 2,gc 21 141 [.t 18,.t 19,.t 20],gi 22 (.ext 22 21 0),gi 23 (.ext 23 21 1),g0 (.sto 6 (.t 22) (some 5)),gt 7 23]
def r_Z134_3 : List GI:=[gt 25 1,gd 26 .eql 25 6,gt 27 26,⟨.fad 28 3 0,some 28,some (27,true),false⟩,⟨.lod 29 28 none,some 29,some (27,true),false⟩,⟨.bin 30 .eql (.t 29) (.k (I 4)),some 30,some (27,true),false⟩,gi 31 (.pick 31 (.t 27) (.t 30) (.k (.v (.bool false)))),gt 24 31]
def r_Z134_4 : List GI:=[gf 32 3 4,gl 33 32,gi 34 (.iad 34 33 (.k (I 0)) 5),gs 35 34 5,gt 36 2,gc 37 95 [.t 35,.t 36,.k (I 8)],gt 8 37]
def r_Z134_5 : List GI:=[gf 38 3 4,gl 39 38,gi 40 (.iad 40 39 (.k (I 1)) 5),gs 41 40 5,gt 42 2,gc 43 95 [.t 41,.t 42,.k (I 8)],gt 9 43]
def r_Z134_6 : List GI:=[gt 44 9,gt 45 8,gc 46 142 [.t 44,.t 45],gt 47 9,gc 48 142 [.k (I 0),.t 47],gi 49 (.app 49 2000049 (.t 46) (.t 48) 5 56),gt 10 49]
def r_Z134_7 : List GI:=[gf 50 3 2,gl 51 50,gi 52 (.iad 52 51 (.k (I 0)) 5),gs 53 52 5,gt 54 10,gc 55 143 [.t 53,.t 54],gi 56 (.bsl 56 5 (some 5) [.agg [I 0,I 0,.v (.bool false),I 0,.nul]] [(0,.t 55)]),gf 57 3 4,gl 58 57,gi 59 (.iad 59 58 (.k (I 1)) 5),gs 60 59 5,gf 61 3 4,gl 62 61,gi 63 (.iad 63 62 (.k (I 0)) 5),gs 64 63 5,gi 65 (.bsl 65 5 (some 5) [.agg [I 0,I 0,.nul,.nul,.nul],.agg [I 0,I 0,.nul,.nul,.nul]] [(0,.t 60),(1,.t 64)]),gi 66 (.build 66 [I 0,I 0,.nul,.nul,.nul] [(0,(none,.k (I 4))),(2,(none,.t 56)),(4,(none,.t 65))]),gi 11 (.alloc 11 2000011 [I 0,I 0,.nul,.nul,.nul]),g0 (.sto 11 (.t 66) (some 5))]
def r_Z134_8 : List GI:=[gt 67 10,gs 68 11 5,gi 69 (.bsl 69 5 (some 5) [.agg [I 0,I 0,.nul,.nul,.nul]] [(0,.t 68)]),gi 70 (.build 70 [I 0,I 0,.nul,.nul,.nul] [(0,(none,.k (I 3))),(2,(none,.t 67)),(4,(none,.t 69))]),g0 (.sto 6 (.t 70) (some 5)),gi 7 (.mov 7 (.k (.v (.bool true))))]
def r_Z134_9 : List GI:=[gt 72 1,gd 73 .eql 72 9,gt 74 73,⟨.fad 75 3 0,some 75,some (74,true),false⟩,⟨.lod 76 75 none,some 76,some (74,true),false⟩,⟨.bin 77 .eql (.t 76) (.k (I 7)),some 77,some (74,true),false⟩,gi 78 (.pick 78 (.t 74) (.t 77) (.k (.v (.bool false)))),gt 79 78,⟨.fad 80 3 4,some 80,some (79,true),false⟩,⟨.lod 81 80 none,some 81,some (79,true),false⟩,⟨.iad 82 81 (.k (I 0)) 5,some 82,some (79,true),false⟩,⟨.fad 83 82 0,some 83,some (79,true),false⟩,⟨.lod 84 83 none,some 84,some (79,true),false⟩,⟨.bin 85 .eql (.t 84) (.k (I 7)),some 85,some (79,true),false⟩,⟨.mov 86 (.t 85),some 86,some (79,true),false⟩,⟨.fad 87 3 4,some 87,some (86,false),false⟩,⟨.lod 88 87 none,some 88,some (86,false),false⟩,⟨.iad 89 88 (.k (I 0)) 5,some 89,some (86,false),false⟩,⟨.fad 90 89 0,some 90,some (86,false),false⟩,⟨.lod 91 90 none,some 91,some (86,false),false⟩,⟨.bin 92 .eql (.t 91) (.k (I 8)),some 92,some (86,false),false⟩,⟨.pick 93 (.t 86) (.k (.v (.bool true))) (.t 92),some 93,some (79,true),false⟩,gi 94 (.pick 94 (.t 79) (.t 93) (.k (.v (.bool false)))),gt 71 94]
def r_Z134_10 : List GI:=[gf 95 3 4,gl 96 95,gi 97 (.iad 97 96 (.k (I 0)) 5),gs 98 97 5,g0 (.sto 6 (.t 98) (some 5)),gi 7 (.mov 7 (.k (.v (.bool true))))]
def r_Z134_11 : List GI:=[gt 100 1,gd 101 .eql 100 11,gt 102 101,⟨.fad 103 3 0,some 103,some (102,true),false⟩,⟨.lod 104 103 none,some 104,some (102,true),false⟩,⟨.bin 105 .eql (.t 104) (.k (I 3)),some 105,some (102,true),false⟩,gi 106 (.pick 106 (.t 102) (.t 105) (.k (.v (.bool false)))),gt 107 106,⟨.fad 108 3 4,some 108,some (107,true),false⟩,⟨.lod 109 108 none,some 109,some (107,true),false⟩,⟨.iad 110 109 (.k (I 0)) 5,some 110,some (107,true),false⟩,⟨.fad 111 110 0,some 111,some (107,true),false⟩,⟨.lod 112 111 none,some 112,some (107,true),false⟩,⟨.bin 113 .eql (.t 112) (.k (I 3)),some 113,some (107,true),false⟩,gi 114 (.pick 114 (.t 107) (.t 113) (.k (.v (.bool false)))),gt 99 114]
def r_Z134_12 : List GI:=[gi 115 (.mov 115 (.k .nul)),gt 12 115]
def r_Z134_13 : List GI:=[gk 13 0]
def r_Z134_14 : List GI:=[gt 116 13,gf 117 3 2,gl 118 117,gn 119 118,gb 120 .lss 116 119]
def r_Z134_15 : List GI:=[gt 123 12,gf 124 3 2,gl 125 124,gt 126 13,ga 127 125 126 5,gs 128 127 5,gf 129 3 4,gl 130 129,gi 131 (.iad 131 130 (.k (I 0)) 5),gf 132 131 2,gl 133 132,gc 134 143 [.t 128,.t 133],gi 135 (.bsl 135 5 (some 5) [.agg [I 0,I 0,.v (.bool false),I 0,.nul]] [(0,.t 134)]),gi 136 (.app 136 2000136 (.t 123) (.t 135) 5 56),gt 12 136]
def r_Z134_16 : List GI:=[gt 121 13,gd 122 .add 121 1,gt 13 122]
def r_Z134_17 : List GI:=[gt 137 12,gf 138 3 4,gl 139 138,gi 140 (.iad 140 139 (.k (I 0)) 5),gf 141 140 4,gl 142 141,gi 143 (.build 143 [I 0,I 0,.nul,.nul,.nul] [(0,(none,.k (I 3))),(2,(none,.t 137)),(4,(none,.t 142))]),g0 (.sto 6 (.t 143) (some 5)),gi 7 (.mov 7 (.k (.v (.bool true))))]
def r_Z134_18 : List GI:=[gs 144 3 5,g0 (.sto 6 (.t 144) (some 5)),gi 7 (.mov 7 (.k (.v (.bool false))))]
def dc_Z134 : DC:=.seq (.z r_Z134_0) (.seq (.block 0 (.seq (.z r_Z134_1) (.cond (.t 14) (.seq (.z r_Z134_2) .ret) (.seq (.z r_Z134_3) (.cond (.t 24) (.seq (.z r_Z134_4) (.seq (.z r_Z134_5) (.seq (.z r_Z134_6) (.seq (.reg r_Z134_7 (some [0,1,3,7,0,31,63,0,128,384,896,0,2048,6144,14336,32640,65535,0,262143])) (.seq (.z r_Z134_8) .ret))))) (.seq (.z r_Z134_9) (.cond (.t 71) (.seq (.z r_Z134_10) .ret) (.seq (.z r_Z134_11) (.cond (.t 99) (.seq (.z r_Z134_12) (.seq (.seq (.z r_Z134_13) (.block 1 (.loop (.seq (.seq (.z r_Z134_14) (.cond (.t 120) .skip (.exit 1))) (.seq (.block 2 (.reg r_Z134_15 (some [0,0,2,0,14,30,0,64,192,448,960,2046,4094,8191,16383]))) (.z r_Z134_16)))))) (.seq (.z r_Z134_17) .ret))) .skip))))))))) (.seq (.z r_Z134_18) .ret))
theorem c_Z134 : cfun Tryz.prog [] 97 = some (145,dc_Z134,[(Res.cell 6 (some 5)),(Res.tmp 7)]):=by kernel_rfl
end
end Go.Proofs.YtgpdmgaemhelgaaGreat
namespace Go.Proofs.YtgpdmgaemhelgaaGreat
open Go.RowKit
noncomputable section
def r_Z92_0 : List GI:=[gi 3 (.box 3 2000003 (.t 0) (some 5)),gi 5 (.box 5 2000005 (.t 2) (some 2)),gi 6 (.alloc 6 2000006 [I 0,I 0,.nul,.nul,.nul]),gi 7 (.mov 7 (.k (.v (.bool false))))]
def r_Z92_1 : List GI:=[gs 8 3 5,gt 9 1,gc 10 53 [.t 8,.t 9],gd 11 .eql 10 0,gt 12 11,⟨.fad 13 5 1,some 13,some (12,false),false⟩,⟨.lod 14 13 none,some 14,some (12,false),false⟩,⟨.len 15 (.t 14),some 15,some (12,false),false⟩,⟨.bin 16 .gtr (.t 15) (.k (I 8)),some 16,some (12,false),false⟩,gi 17 (.pick 17 (.t 12) (.k (.v (.bool true))) (.t 16))]
def r_Z92_2 : List GI:=[gi 18 (.build 18 [I 0,I 0,.nul,.nul,.nul] []),g0 (.sto 6 (.t 18) (some 5)),gi 7 (.mov 7 (.k (.v (.bool false))))]
def r_Z92_3 : List GI:=[gs 19 3 5,gt 20 1,gs 21 5 2,gc 22 54 [.t 19,.t 20,.t 21],gi 23 (.ext 23 22 0),gi 24 (.ext 24 22 1),g0 (.sto 6 (.t 23) (some 5)),gt 7 24]
def dc_Z92 : DC:=.seq (.z r_Z92_0) (.seq (.seq (.z r_Z92_1) (.cond (.t 17) (.seq (.z r_Z92_2) .ret) .skip)) (.seq (.z r_Z92_3) .ret))
theorem c_Z92 : cfun Tryz.prog [] 17 = some (25,dc_Z92,[(Res.cell 6 (some 5)),(Res.tmp 7)]):=by kernel_rfl
def r_Z95_0 : List GI:=[gi 3 (.box 3 2000003 (.t 0) (some 5)),gi 5 (.box 5 2000005 (.t 2) (some 2)),gi 6 (.alloc 6 2000006 [I 0,I 0,.nul,.nul,.nul]),gi 7 (.mov 7 (.k (.v (.bool false))))]
def r_Z95_1 : List GI:=[gs 12 3 5,gf 13 5 1,gl 14 13,gc 15 96 [.t 12,.t 14],gt 11 15,gi 16 (.ext 16 11 0),gi 17 (.ext 17 11 1),gi 8 (.alloc 8 2000008 [I 0,I 0,.nul,.nul,.nul]),g0 (.sto 8 (.t 16) (some 5)),gt 9 17]
def r_Z95_2 : List GI:=[gt 18 9,gi 19 (.un 19 UnOp.not (.t 18))]
def r_Z95_3 : List GI:=[gi 20 (.build 20 [I 0,I 0,.nul,.nul,.nul] []),g0 (.sto 6 (.t 20) (some 5)),gi 7 (.mov 7 (.k (.v (.bool false))))]
def r_Z95_4 : List GI:=[gs 22 8 5,gf 23 5 0,gl 24 23,gt 25 1,gc 26 97 [.t 22,.t 24,.t 25],gt 21 26,gi 27 (.ext 27 21 0),gi 28 (.ext 28 21 1),g0 (.sto 8 (.t 27) (some 5)),gt 9 28]
def r_Z95_5 : List GI:=[gt 29 9,gi 30 (.un 30 UnOp.not (.t 29))]
def r_Z95_6 : List GI:=[gi 31 (.build 31 [I 0,I 0,.nul,.nul,.nul] []),g0 (.sto 6 (.t 31) (some 5)),gi 7 (.mov 7 (.k (.v (.bool false))))]
def r_Z95_7 : List GI:=[gs 32 3 5,gf 33 5 1,gl 34 33,gs 35 8 5,gc 36 98 [.t 32,.t 34,.t 35],gi 10 (.alloc 10 2000010 [I 0,I 0,.nul,.nul,.nul]),g0 (.sto 10 (.t 36) (some 5))]
def r_Z95_8 : List GI:=[gs 37 10 5,gt 38 1,gc 39 95 [.t 37,.t 38,.k (I 8)],gd 40 .eql 39 0]
def r_Z95_9 : List GI:=[gi 41 (.build 41 [I 0,I 0,.nul,.nul,.nul] []),g0 (.sto 6 (.t 41) (some 5)),gi 7 (.mov 7 (.k (.v (.bool false))))]
def r_Z95_10 : List GI:=[gs 42 10 5,g0 (.sto 6 (.t 42) (some 5)),gi 7 (.mov 7 (.k (.v (.bool true))))]
def dc_Z95 : DC:=.seq (.z r_Z95_0) (.seq (.z r_Z95_1) (.seq (.seq (.z r_Z95_2) (.cond (.t 19) (.seq (.z r_Z95_3) .ret) .skip)) (.seq (.z r_Z95_4) (.seq (.seq (.z r_Z95_5) (.cond (.t 30) (.seq (.z r_Z95_6) .ret) .skip)) (.seq (.z r_Z95_7) (.seq (.seq (.z r_Z95_8) (.cond (.t 40) (.seq (.z r_Z95_9) .ret) .skip)) (.seq (.z r_Z95_10) .ret)))))))
theorem c_Z95 : cfun Tryz.prog [] 54 = some (43,dc_Z95,[(Res.cell 6 (some 5)),(Res.tmp 7)]):=by kernel_rfl
def r_Z100_0 : List GI:=[gi 3 (.box 3 2000003 (.t 0) (some 5)),gi 5 (.box 5 2000005 (.t 2) (some 5)),gi 6 (.alloc 6 2000006 [I 0,I 0,.nul,.nul,.nul])]
def r_Z100_1 : List GI:=[gt 8 1,gn 9 8,gd 10 .eql 9 0]
def r_Z100_2 : List GI:=[gs 11 5 5,gc 12 64 [.t 11],g0 (.sto 6 (.t 12) (some 5))]
def r_Z100_3 : List GI:=[gs 13 3 5,gc 14 64 [.t 13],gi 7 (.alloc 7 2000007 [I 0,I 0,.nul,.nul,.nul]),g0 (.sto 7 (.t 14) (some 5))]
def r_Z100_4 : List GI:=[gf 15 7 4,gl 16 15,gt 17 1,gi 18 (.iad 18 17 (.k (I 0)) 1),gl 19 18,gf 20 3 4,gl 21 20,gt 22 1,gi 23 (.iad 23 22 (.k (I 0)) 1),gl 24 23,ga 25 21 24 5,gs 26 25 5,gt 27 1,gi 28 (.slc 28 (.t 27) (some (.k (I 1))) none 1),gs 29 5 5,gc 30 98 [.t 26,.t 28,.t 29],ga 31 16 19 5,g0 (.sto 31 (.t 30) (some 5))]
def r_Z100_5 : List GI:=[gs 32 7 5,g0 (.sto 6 (.t 32) (some 5))]
def dc_Z100 : DC:=.seq (.z r_Z100_0) (.seq (.seq (.z r_Z100_1) (.cond (.t 10) (.seq (.z r_Z100_2) .ret) .skip)) (.seq (.z r_Z100_3) (.seq (.reg r_Z100_4 (some [0,1,0,4,12,0,32,0,128,384,992,2016,0,4096,0,32736,65535,131071])) (.seq (.z r_Z100_5) .ret))))
theorem c_Z100 : cfun Tryz.prog [] 98 = some (33,dc_Z100,[(Res.cell 6 (some 5))]):=by kernel_rfl
end
end Go.Proofs.YtgpdmgaemhelgaaGreat
