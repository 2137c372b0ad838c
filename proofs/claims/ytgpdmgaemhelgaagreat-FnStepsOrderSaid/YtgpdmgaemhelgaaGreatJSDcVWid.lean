/-
  Functions of the program read as code on plain data. Closed facts of the program alone.
-/
import Derived.KernelRfl
import Derived.Test.YtgpdmgaemhelgaaGreatRows
import Derived.Test.YtgpdmgaemhelgaaGreatJSVBox
import Derived.Test.YtgpdmgaemhelgaaGreatJSVYld
namespace Go.Proofs.YtgpdmgaemhelgaaGreat
open Go.RowKit
noncomputable section
def r_Z88_0 : List GI:=[gi 2 (.box 2 2000002 (.t 0) (some 5)),gk 4 0]
def r_Z88_1 : List GI:=[gt 5 1,gc 6 55 [.t 5],gi 7 (.un 7 UnOp.not (.t 6))]
def r_Z88_2 : List GI:=[gk 4 0]
def r_Z88_3 : List GI:=[gs 8 2 5,gt 9 1,gc 10 56 [.t 8,.t 9,.k (I 8)],gt 4 10]
def dc_Z88 : DC:=.seq (.z r_Z88_0) (.seq (.seq (.z r_Z88_1) (.cond (.t 7) (.seq (.z r_Z88_2) .ret) .skip)) (.seq (.z r_Z88_3) .ret))
theorem c_Z88 : cfun Tryz.prog [] 19 = some (11,dc_Z88,[(Res.tmp 4)]):=by kernel_rfl
def r_Z142_0 : List GI:=[gi 2 (.box 2 2000002 (.t 0) (some 5)),gk 4 0]
def r_Z142_1 : List GI:=[gt 5 1,gc 6 94 [.t 5],gi 7 (.un 7 UnOp.not (.t 6))]
def r_Z142_2 : List GI:=[gk 4 0]
def r_Z142_3 : List GI:=[gs 8 2 5,gt 9 1,gc 10 95 [.t 8,.t 9,.k (I 8)],gt 4 10]
def dc_Z142 : DC:=.seq (.z r_Z142_0) (.seq (.seq (.z r_Z142_1) (.cond (.t 7) (.seq (.z r_Z142_2) .ret) .skip)) (.seq (.z r_Z142_3) .ret))
theorem c_Z142 : cfun Tryz.prog [] 53 = some (11,dc_Z142,[(Res.tmp 4)]):=by kernel_rfl
end
end Go.Proofs.YtgpdmgaemhelgaaGreat
namespace Go.Proofs.YtgpdmgaemhelgaaGreat
open Go.RowKit
noncomputable section
def r_Z64_0 : List GI:=[gi 3 (.box 3 2000003 (.t 0) (some 5)),gk 6 0]
def r_Z64_1 : List GI:=[gt 11 2,gd 12 .lss 11 0,gt 13 12,⟨.lod 14 3 (some 5),some 14,some (13,false),false⟩,⟨.call 15 100 [.t 14],some 15,some (13,false),true⟩,⟨.un 16 UnOp.not (.t 15),some 16,some (13,false),false⟩,gi 17 (.pick 17 (.t 13) (.k (.v (.bool true))) (.t 16))]
def r_Z64_2 : List GI:=[gk 6 0]
def r_Z64_3 : List GI:=[gf 18 3 0,gl 19 18,gd 20 .eql 19 1]
def r_Z64_4 : List GI:=[gf 21 3 1,gl 22 21,gd 23 .lss 22 0,gt 24 23,⟨.fad 25 3 1,some 25,some (24,false),false⟩,⟨.lod 26 25 none,some 26,some (24,false),false⟩,⟨.mov 27 (.t 1),some 27,some (24,false),false⟩,⟨.len 28 (.t 27),some 28,some (24,false),false⟩,⟨.bin 29 .geq (.t 26) (.t 28),some 29,some (24,false),false⟩,gi 30 (.pick 30 (.t 24) (.k (.v (.bool true))) (.t 29))]
def r_Z64_5 : List GI:=[gk 6 0]
def r_Z64_6 : List GI:=[gt 31 1,gf 32 3 1,gl 33 32,ga 34 31 33 1,gl 35 34,gt 6 35]
def r_Z64_7 : List GI:=[gi 7 (.mov 7 (.k .nul))]
def r_Z64_8 : List GI:=[gf 36 3 4,gl 37 36,gn 38 37,gk 39 0]
def r_Z64_9 : List GI:=[gb 40 .lss 39 38]
def r_Z64_10 : List GI:=[ga 41 37 39 5,gs 42 41 5,gi 9 (.alloc 9 2000009 [I 0,I 0,.nul,.nul,.nul]),g0 (.sto 9 (.t 42) (some 5))]
def r_Z64_11 : List GI:=[gs 43 9 5,gt 44 1,gt 45 2,gd 46 .sub 45 1,gc 47 56 [.t 43,.t 44,.t 46],gt 10 47]
def r_Z64_12 : List GI:=[gt 48 10,gd 49 .eql 48 0]
def r_Z64_13 : List GI:=[gk 6 0]
def r_Z64_14 : List GI:=[gt 50 7,gt 51 10,gi 52 (.bsl 52 1 none [I 0] [(0,.t 51)]),gi 53 (.app 53 2000053 (.t 50) (.t 52) 1 8),gt 7 53]
def r_Z64_15 : List GI:=[gd 54 .add 39 1,gt 39 54]
def r_Z64_16 : List GI:=[gs 55 3 5,gt 56 7,gc 57 101 [.t 55,.t 56],gi 58 (.un 58 UnOp.not (.t 57))]
def r_Z64_17 : List GI:=[gk 6 0]
def r_Z64_18 : List GI:=[gs 59 3 5,gt 60 7,gc 61 102 [.t 59,.t 60],gt 6 61]
def dc_Z64 : DC:=.seq (.z r_Z64_0) (.seq (.seq (.z r_Z64_1) (.cond (.t 17) (.seq (.z r_Z64_2) .ret) .skip)) (.seq (.seq (.z r_Z64_3) (.cond (.t 20) (.seq (.seq (.z r_Z64_4) (.cond (.t 30) (.seq (.z r_Z64_5) .ret) .skip)) (.seq (.z r_Z64_6) .ret)) .skip)) (.seq (.z r_Z64_7) (.seq (.seq (.z r_Z64_8) (.block 0 (.loop (.seq (.z r_Z64_9) (.seq (.cond (.t 40) .skip (.exit 0)) (.seq (.block 1 (.seq (.z r_Z64_10) (.seq (.z r_Z64_11) (.seq (.seq (.z r_Z64_12) (.cond (.t 49) (.seq (.z r_Z64_13) .ret) .skip)) (.z r_Z64_14))))) (.z r_Z64_15))))))) (.seq (.seq (.z r_Z64_16) (.cond (.t 58) (.seq (.z r_Z64_17) .ret) .skip)) (.seq (.z r_Z64_18) .ret))))))
theorem c_Z64 : cfun Tryz.prog [] 56 = some (62,dc_Z64,[(Res.tmp 6)]):=by kernel_rfl
end
end Go.Proofs.YtgpdmgaemhelgaaGreat
namespace Go.Proofs.YtgpdmgaemhelgaaGreat
open Go.RowKit
noncomputable section
def r_Z104_0 : List GI:=[gi 3 (.box 3 2000003 (.t 0) (some 5)),gk 6 0]
def r_Z104_1 : List GI:=[gi 10 (.mov 10 (.k .nul)),gt 7 10]
def r_Z104_2 : List GI:=[gs 11 3 5,gc 12 137 [.t 11],gi 13 (.un 13 UnOp.not (.t 12)),gt 14 13,⟨.fad 15 3 4,some 15,some (14,false),false⟩,⟨.lod 16 15 none,some 16,some (14,false),false⟩,⟨.len 17 (.t 16),some 17,some (14,false),false⟩,⟨.bin 18 .gtr (.t 17) (.k (I 0)),some 18,some (14,false),false⟩,⟨.mov 19 (.t 18),some 19,some (14,false),false⟩,⟨.mov 20 (.t 2),some 20,some (19,true),false⟩,⟨.bin 21 .eql (.t 20) (.k (I 0)),some 21,some (19,true),false⟩,⟨.pick 22 (.t 19) (.t 21) (.k (.v (.bool false))),some 22,some (14,false),false⟩,gi 23 (.pick 23 (.t 14) (.k (.v (.bool true))) (.t 22))]
def r_Z104_3 : List GI:=[gk 6 0]
def r_Z104_4 : List GI:=[gk 8 0]
def r_Z104_5 : List GI:=[gt 24 8,gf 25 3 4,gl 26 25,gn 27 26,gb 28 .lss 24 27]
def r_Z104_6 : List GI:=[gf 31 3 4,gl 32 31,gt 33 8,ga 34 32 33 5,gs 35 34 5,gt 36 1,gt 37 2,gd 38 .sub 37 1,gc 39 95 [.t 35,.t 36,.t 38],gt 9 39]
def r_Z104_7 : List GI:=[gt 40 9,gd 41 .eql 40 0]
def r_Z104_8 : List GI:=[gk 6 0]
def r_Z104_9 : List GI:=[gt 42 7,gt 43 9,gi 44 (.bsl 44 1 none [I 0] [(0,.t 43)]),gi 45 (.app 45 2000045 (.t 42) (.t 44) 1 8),gt 7 45]
def r_Z104_10 : List GI:=[gt 29 8,gd 30 .add 29 1,gt 8 30]
def r_Z104_11 : List GI:=[gf 46 3 0,gl 47 46]
def r_Z104_12 : List GI:=[gd 49 .eql 47 1,gt 48 49]
def r_Z104_13 : List GI:=[gf 50 3 1,gl 51 50,gt 52 1,gn 53 52,gd 54 .sub 53 1,gc 55 136 [.t 51,.k (I 0),.t 54]]
def r_Z104_14 : List GI:=[gt 56 1,gf 57 3 1,gl 58 57,ga 59 56 58 1,gl 60 59,gt 6 60]
def r_Z104_15 : List GI:=[gd 62 .eql 47 2,gt 61 62]
def r_Z104_16 : List GI:=[gf 63 3 2,gl 64 63,gi 65 (.iad 65 64 (.k (I 0)) 5),gs 66 65 5,gt 67 7,gi 68 (.iad 68 67 (.k (I 0)) 1),gl 69 68,gc 70 138 [.t 66,.t 69]]
def r_Z104_17 : List GI:=[gt 71 7,gi 72 (.iad 72 71 (.k (I 0)) 1),gl 73 72,gt 6 73]
def r_Z104_18 : List GI:=[gd 75 .eql 47 3,gt 74 75]
def r_Z104_19 : List GI:=[gf 76 3 2,gl 77 76,gt 78 7,gi 79 (.iad 79 78 (.k (I 0)) 1),gl 80 79,gc 81 139 [.t 77,.t 80],gt 6 81]
def r_Z104_20 : List GI:=[gd 83 .eql 47 4,gt 82 83]
def r_Z104_21 : List GI:=[gd 84 .eql 47 5,gt 82 84]
def r_Z104_22 : List GI:=[gt 85 7,gi 86 (.iad 86 85 (.k (I 0)) 1),gl 87 86,gt 88 7,gi 89 (.iad 89 88 (.k (I 1)) 1),gl 90 89,gb 91 .add 87 90,gd 92 .leq 91 6,gt 93 92,⟨.fad 94 3 2,some 94,some (93,true),false⟩,⟨.lod 95 94 none,some 95,some (93,true),false⟩,⟨.iad 96 95 (.k (I 0)) 5,some 96,some (93,true),false⟩,⟨.lod 97 96 (some 5),some 97,some (93,true),false⟩,⟨.mov 98 (.t 7),some 98,some (93,true),false⟩,⟨.iad 99 98 (.k (I 0)) 1,some 99,some (93,true),false⟩,⟨.lod 100 99 none,some 100,some (93,true),false⟩,⟨.mov 101 (.t 7),some 101,some (93,true),false⟩,⟨.iad 102 101 (.k (I 1)) 1,some 102,some (93,true),false⟩,⟨.lod 103 102 none,some 103,some (93,true),false⟩,⟨.bin 104 .add (.t 100) (.t 103),some 104,some (93,true),false⟩,⟨.call 105 138 [.t 97,.t 104],some 105,some (93,true),true⟩,gi 106 (.pick 106 (.t 93) (.t 105) (.k (.v (.bool false))))]
def r_Z104_23 : List GI:=[gt 107 7,gi 108 (.iad 108 107 (.k (I 0)) 1),gl 109 108,gt 110 7,gi 111 (.iad 111 110 (.k (I 1)) 1),gl 112 111,gb 113 .add 109 112,gt 6 113]
def r_Z104_24 : List GI:=[gd 115 .eql 47 6,gt 114 115]
def r_Z104_25 : List GI:=[gt 116 7,gi 117 (.iad 117 116 (.k (I 0)) 1),gl 118 117,gt 119 7,gi 120 (.iad 120 119 (.k (I 1)) 1),gl 121 120,gb 122 .eql 118 121]
def r_Z104_26 : List GI:=[gt 123 7,gi 124 (.iad 124 123 (.k (I 0)) 1),gl 125 124,gt 6 125]
def r_Z104_27 : List GI:=[gd 127 .eql 47 7,gt 126 127]
def r_Z104_28 : List GI:=[gt 128 7,gi 129 (.iad 129 128 (.k (I 0)) 1),gl 130 129,gt 6 130]
def r_Z104_29 : List GI:=[gd 132 .eql 47 8,gt 131 132]
def r_Z104_30 : List GI:=[gf 133 3 3,gl 134 133,gt 135 7,gi 136 (.iad 136 135 (.k (I 0)) 1),gl 137 136,gc 138 140 [.t 134,.t 137],gt 139 138,⟨.fad 140 3 3,some 140,some (139,true),false⟩,⟨.lod 141 140 none,some 141,some (139,true),false⟩,⟨.len 142 (.t 141),some 142,some (139,true),false⟩,⟨.bin 143 .lss (.t 142) (.k (I 6)),some 143,some (139,true),false⟩,gi 144 (.pick 144 (.t 139) (.t 143) (.k (.v (.bool false))))]
def r_Z104_31 : List GI:=[gf 145 3 3,gl 146 145,gn 147 146,gd 148 .add 147 1,gt 6 148]
def r_Z104_32 : List GI:=[gk 6 0]
def dc_Z104 : DC:=.seq (.z r_Z104_0) (.seq (.z r_Z104_1) (.seq (.seq (.z r_Z104_2) (.cond (.t 23) (.seq (.z r_Z104_3) .ret) .skip)) (.seq (.seq (.z r_Z104_4) (.block 0 (.loop (.seq (.seq (.z r_Z104_5) (.cond (.t 28) .skip (.exit 0))) (.seq (.block 1 (.seq (.z r_Z104_6) (.seq (.seq (.z r_Z104_7) (.cond (.t 41) (.seq (.z r_Z104_8) .ret) .skip)) (.z r_Z104_9)))) (.z r_Z104_10)))))) (.seq (.seq (.z r_Z104_11) (.block 2 (.seq (.z r_Z104_12) (.cond (.t 48) (.seq (.z r_Z104_13) (.cond (.t 55) (.seq (.z r_Z104_14) .ret) .skip)) (.seq (.z r_Z104_15) (.cond (.t 61) (.seq (.reg r_Z104_16 (some [0,1,3,7,0,16,48,127])) (.cond (.t 70) (.seq (.z r_Z104_17) .ret) .skip)) (.seq (.z r_Z104_18) (.cond (.t 74) (.seq (.reg r_Z104_19 (some [0,1,0,4,12,31,63])) .ret) (.seq (.seq (.z r_Z104_20) (.cond (.t 82) .skip (.z r_Z104_21))) (.cond (.t 82) (.seq (.reg r_Z104_22 (some [0,1,3,0,8,24,63,127,255,511,1023,2047,4095,511,8703,25087,511,66047,197119,516607,1048575,2097151])) (.cond (.t 106) (.seq (.reg r_Z104_23 (some [0,1,3,0,8,24,63,127])) .ret) .skip)) (.seq (.z r_Z104_24) (.cond (.t 114) (.seq (.reg r_Z104_25 (some [0,1,3,0,8,24,63])) (.cond (.t 122) (.seq (.z r_Z104_26) .ret) .skip)) (.seq (.z r_Z104_27) (.cond (.t 126) (.seq (.z r_Z104_28) .ret) (.seq (.z r_Z104_29) (.cond (.t 131) (.seq (.reg r_Z104_30 (some [0,1,0,4,12,31,63,127,255,511,1023,2047])) (.cond (.t 144) (.seq (.z r_Z104_31) .ret) .skip)) .skip)))))))))))))))) (.seq (.z r_Z104_32) .ret)))))
theorem c_Z104 : cfun Tryz.prog [] 95 = some (149,dc_Z104,[(Res.tmp 6)]):=by kernel_rfl
end
end Go.Proofs.YtgpdmgaemhelgaaGreat
namespace Go.Proofs.YtgpdmgaemhelgaaGreat
open Go.RowKit
noncomputable section
def r_Z111_0 : List GI:=[gi 2 (.box 2 2000002 (.t 0) (some 5)),gi 4 (.mov 4 (.k (.v (.bool false))))]
def r_Z111_1 : List GI:=[gf 7 2 0,gl 8 7]
def r_Z111_2 : List GI:=[gd 10 .eql 8 6,gt 9 10]
def r_Z111_3 : List GI:=[gt 11 1,gi 12 (.iad 12 11 (.k (I 0)) 1),gl 13 12,gt 14 1,gi 15 (.iad 15 14 (.k (I 1)) 1),gl 16 15,gb 17 .eql 13 16,gt 4 17]
def r_Z111_4 : List GI:=[gd 19 .eql 8 8,gt 18 19]
def r_Z111_5 : List GI:=[gf 20 2 3,gl 21 20,gt 22 1,gi 23 (.iad 23 22 (.k (I 0)) 1),gl 24 23,gc 25 145 [.t 21,.t 24],gt 4 25]
def r_Z111_6 : List GI:=[gf 26 2 2,gl 27 26,gn 28 27,gk 29 0]
def r_Z111_7 : List GI:=[gb 30 .lss 29 28]
def r_Z111_8 : List GI:=[ga 31 27 29 5,gs 32 31 5,gi 6 (.alloc 6 2000006 [I 0,I 0,.v (.bool false),I 0,.nul]),g0 (.sto 6 (.t 32) (some 5))]
def r_Z111_9 : List GI:=[gs 33 6 5,gt 34 1,gc 35 147 [.t 34],gc 36 146 [.t 33,.t 35],gi 37 (.un 37 UnOp.not (.t 36))]
def r_Z111_10 : List GI:=[gi 4 (.mov 4 (.k (.v (.bool false))))]
def r_Z111_11 : List GI:=[gd 38 .add 29 1,gt 29 38]
def r_Z111_12 : List GI:=[gi 4 (.mov 4 (.k (.v (.bool true))))]
def dc_Z111 : DC:=.seq (.z r_Z111_0) (.seq (.seq (.z r_Z111_1) (.block 0 (.seq (.z r_Z111_2) (.cond (.t 9) (.seq (.reg r_Z111_3 (some [0,1,3,0,8,24,63,127])) .ret) (.seq (.z r_Z111_4) (.cond (.t 18) (.seq (.reg r_Z111_5 (some [0,1,0,4,12,31,63])) .ret) .skip)))))) (.seq (.seq (.z r_Z111_6) (.block 1 (.loop (.seq (.z r_Z111_7) (.seq (.cond (.t 30) .skip (.exit 1)) (.seq (.block 2 (.seq (.z r_Z111_8) (.seq (.reg r_Z111_9 (some [0,0,2,7,15])) (.cond (.t 37) (.seq (.z r_Z111_10) .ret) .skip)))) (.z r_Z111_11))))))) (.seq (.z r_Z111_12) .ret)))
theorem c_Z111 : cfun Tryz.prog [] 101 = some (39,dc_Z111,[(Res.tmp 4)]):=by kernel_rfl
def r_Z147_0 : List GI:=[gk 2 0]
def r_Z147_1 : List GI:=[gk 3 0]
def r_Z147_2 : List GI:=[gt 6 0,gn 7 6,gk 8 0]
def r_Z147_3 : List GI:=[gb 9 .lss 8 7]
def r_Z147_4 : List GI:=[ga 10 6 8 1,gl 11 10,gt 5 11]
def r_Z147_5 : List GI:=[gt 12 3,gt 13 5,gb 14 .add 12 13,gt 3 14]
def r_Z147_6 : List GI:=[gd 15 .add 8 1,gt 8 15]
def r_Z147_7 : List GI:=[gt 16 3,gt 2 16]
def dc_Z147 : DC:=.seq (.z r_Z147_0) (.seq (.z r_Z147_1) (.seq (.seq (.z r_Z147_2) (.block 0 (.loop (.seq (.z r_Z147_3) (.seq (.cond (.t 9) .skip (.exit 0)) (.seq (.block 1 (.seq (.z r_Z147_4) (.z r_Z147_5))) (.z r_Z147_6))))))) (.seq (.z r_Z147_7) .ret)))
theorem c_Z147 : cfun Tryz.prog [] 147 = some (17,dc_Z147,[(Res.tmp 2)]):=by kernel_rfl
def r_Z96_0 : List GI:=[gi 2 (.box 2 2000002 (.t 0) (some 5)),gk 4 0]
def r_Z96_1 : List GI:=[gf 5 2 0,gl 6 5]
def r_Z96_2 : List GI:=[gd 8 .eql 6 3,gt 7 8]
def r_Z96_3 : List GI:=[gf 9 2 2,gl 10 9,gn 11 10,gt 4 11]
def r_Z96_4 : List GI:=[gd 13 .eql 6 4,gt 12 13]
def r_Z96_5 : List GI:=[gd 14 .eql 6 5,gt 12 14]
def r_Z96_6 : List GI:=[gt 15 1,gc 16 147 [.t 15],gt 4 16]
def r_Z96_7 : List GI:=[gd 18 .eql 6 8,gt 17 18]
def r_Z96_8 : List GI:=[gf 19 2 3,gl 20 19,gn 21 20,gd 22 .add 21 1,gt 4 22]
def r_Z96_9 : List GI:=[gt 23 1,gi 24 (.iad 24 23 (.k (I 0)) 1),gl 25 24,gt 4 25]
def dc_Z96 : DC:=.seq (.z r_Z96_0) (.seq (.seq (.z r_Z96_1) (.block 0 (.seq (.z r_Z96_2) (.cond (.t 7) (.seq (.z r_Z96_3) .ret) (.seq (.seq (.z r_Z96_4) (.cond (.t 12) .skip (.z r_Z96_5))) (.cond (.t 12) (.seq (.z r_Z96_6) .ret) (.seq (.z r_Z96_7) (.cond (.t 17) (.seq (.z r_Z96_8) .ret) .skip)))))))) (.seq (.z r_Z96_9) .ret))
theorem c_Z96 : cfun Tryz.prog [] 102 = some (26,dc_Z96,[(Res.tmp 4)]):=by kernel_rfl
end
end Go.Proofs.YtgpdmgaemhelgaaGreat
namespace Go.Proofs.YtgpdmgaemhelgaaGreat
open Go.RowKit
noncomputable section
def r_Z43_0 : List GI:=[gi 4 (.mov 4 (.k (.v (.bool false))))]
def r_Z43_1 : List GI:=[gt 8 0,gn 9 8,gd 10 .geq 9 6]
def r_Z43_2 : List GI:=[gi 4 (.mov 4 (.k (.v (.bool false))))]
def r_Z43_3 : List GI:=[gi 5 (.mov 5 (.k (.v (.int .i64 (-1)))))]
def r_Z43_4 : List GI:=[gt 11 0,gn 12 11,gk 13 0]
def r_Z43_5 : List GI:=[gb 14 .lss 13 12]
def r_Z43_6 : List GI:=[ga 15 11 13 1,gl 16 15,gt 7 16]
def r_Z43_7 : List GI:=[gt 17 7,gt 18 5,gb 19 .leq 17 18,gt 20 19,⟨.mov 21 (.t 7),some 21,some (20,false),false⟩,⟨.mov 22 (.t 1),some 22,some (20,false),false⟩,⟨.bin 23 .geq (.t 21) (.t 22),some 23,some (20,false),false⟩,gi 24 (.pick 24 (.t 20) (.k (.v (.bool true))) (.t 23))]
def r_Z43_8 : List GI:=[gi 4 (.mov 4 (.k (.v (.bool false))))]
def r_Z43_9 : List GI:=[gt 25 7,gt 5 25]
def r_Z43_10 : List GI:=[gd 26 .add 13 1,gt 13 26]
def r_Z43_11 : List GI:=[gi 4 (.mov 4 (.k (.v (.bool true))))]
def dc_Z43 : DC:=.seq (.z r_Z43_0) (.seq (.seq (.z r_Z43_1) (.cond (.t 10) (.seq (.z r_Z43_2) .ret) .skip)) (.seq (.z r_Z43_3) (.seq (.seq (.z r_Z43_4) (.block 0 (.loop (.seq (.z r_Z43_5) (.seq (.cond (.t 14) .skip (.exit 0)) (.seq (.block 1 (.seq (.z r_Z43_6) (.seq (.seq (.z r_Z43_7) (.cond (.t 24) (.seq (.z r_Z43_8) .ret) .skip)) (.z r_Z43_9)))) (.z r_Z43_10))))))) (.seq (.z r_Z43_11) .ret))))
theorem c_Z43 : cfun Tryz.prog [] 145 = some (27,dc_Z43,[(Res.tmp 4)]):=by kernel_rfl
def r_Z62_0 : List GI:=[gi 2 (.mov 2 (.k (.v (.bool false))))]
def r_Z62_1 : List GI:=[gt 5 0,gn 6 5,gd 7 .lss 6 1,gt 8 7,⟨.mov 9 (.t 0),some 9,some (8,false),false⟩,⟨.len 10 (.t 9),some 10,some (8,false),false⟩,⟨.bin 11 .gtr (.t 10) (.k (I 4)),some 11,some (8,false),false⟩,gi 12 (.pick 12 (.t 8) (.k (.v (.bool true))) (.t 11))]
def r_Z62_2 : List GI:=[gi 2 (.mov 2 (.k (.v (.bool false))))]
def r_Z62_3 : List GI:=[gt 13 0,gn 14 13,gk 15 0]
def r_Z62_4 : List GI:=[gb 16 .lss 15 14]
def r_Z62_5 : List GI:=[ga 17 13 15 1,gl 18 17,gt 4 18]
def r_Z62_6 : List GI:=[gt 19 4,gc 20 99 [.t 19],gi 21 (.un 21 UnOp.not (.t 20))]
def r_Z62_7 : List GI:=[gi 2 (.mov 2 (.k (.v (.bool false))))]
def r_Z62_8 : List GI:=[gd 22 .add 15 1,gt 15 22]
def r_Z62_9 : List GI:=[gi 2 (.mov 2 (.k (.v (.bool true))))]
def dc_Z62 : DC:=.seq (.z r_Z62_0) (.seq (.seq (.z r_Z62_1) (.cond (.t 12) (.seq (.z r_Z62_2) .ret) .skip)) (.seq (.seq (.z r_Z62_3) (.block 0 (.loop (.seq (.z r_Z62_4) (.seq (.cond (.t 16) .skip (.exit 0)) (.seq (.block 1 (.seq (.z r_Z62_5) (.seq (.z r_Z62_6) (.cond (.t 21) (.seq (.z r_Z62_7) .ret) .skip)))) (.z r_Z62_8))))))) (.seq (.z r_Z62_9) .ret)))
theorem c_Z62 : cfun Tryz.prog [] 55 = some (23,dc_Z62,[(Res.tmp 2)]):=by kernel_rfl
def r_Z47_0 : List GI:=[gk 4 0]
def r_Z47_1 : List GI:=[gk 5 0]
def r_Z47_2 : List GI:=[gt 6 5,gt 7 0,gn 8 7,gb 9 .lss 6 8]
def r_Z47_3 : List GI:=[gt 12 0,gt 13 5,ga 14 12 13 5,gs 15 14 5,gt 16 1,gc 17 138 [.t 15,.t 16],gi 18 (.un 18 UnOp.not (.t 17))]
def r_Z47_4 : List GI:=[gk 4 0]
def r_Z47_5 : List GI:=[gt 10 5,gd 11 .add 10 1,gt 5 11]
def r_Z47_6 : List GI:=[gt 19 0,gn 20 19,gd 21 .gtr 20 6]
def r_Z47_7 : List GI:=[gk 4 0]
def r_Z47_8 : List GI:=[gt 22 0,gn 23 22,gt 4 23]
def dc_Z47 : DC:=.seq (.z r_Z47_0) (.seq (.seq (.z r_Z47_1) (.block 0 (.loop (.seq (.seq (.z r_Z47_2) (.cond (.t 9) .skip (.exit 0))) (.seq (.block 1 (.seq (.z r_Z47_3) (.cond (.t 18) (.seq (.z r_Z47_4) .ret) .skip))) (.z r_Z47_5)))))) (.seq (.seq (.z r_Z47_6) (.cond (.t 21) (.seq (.z r_Z47_7) .ret) .skip)) (.seq (.z r_Z47_8) .ret)))
theorem c_Z47 : cfun Tryz.prog [] 139 = some (24,dc_Z47,[(Res.tmp 4)]):=by kernel_rfl
def r_Z106_0 : List GI:=[gi 4 (.mov 4 (.k (.v (.bool false))))]
def r_Z106_1 : List GI:=[gk 5 0]
def r_Z106_2 : List GI:=[gt 6 5,gt 7 0,gn 8 7,gb 9 .lss 6 8]
def r_Z106_3 : List GI:=[gt 12 0,gt 13 5,ga 14 12 13 1,gl 15 14,gt 16 1,gd 17 .sub 16 1,gc 18 136 [.t 15,.k (I 0),.t 17],gi 19 (.un 19 UnOp.not (.t 18)),gt 20 19,⟨.mov 21 (.t 5),some 21,some (20,false),false⟩,⟨.bin 22 .gtr (.t 21) (.k (I 0)),some 22,some (20,false),false⟩,⟨.mov 23 (.t 22),some 23,some (20,false),false⟩,⟨.mov 24 (.t 0),some 24,some (23,true),false⟩,⟨.mov 25 (.t 5),some 25,some (23,true),false⟩,⟨.iad 26 24 (.t 25) 1,some 26,some (23,true),false⟩,⟨.lod 27 26 none,some 27,some (23,true),false⟩,⟨.mov 28 (.t 0),some 28,some (23,true),false⟩,⟨.mov 29 (.t 5),some 29,some (23,true),false⟩,⟨.bin 30 .sub (.t 29) (.k (I 1)),some 30,some (23,true),false⟩,⟨.iad 31 28 (.t 30) 1,some 31,some (23,true),false⟩,⟨.lod 32 31 none,some 32,some (23,true),false⟩,⟨.bin 33 .leq (.t 27) (.t 32),some 33,some (23,true),false⟩,⟨.pick 34 (.t 23) (.t 33) (.k (.v (.bool false))),some 34,some (20,false),false⟩,gi 35 (.pick 35 (.t 20) (.k (.v (.bool true))) (.t 34))]
def r_Z106_4 : List GI:=[gi 4 (.mov 4 (.k (.v (.bool false))))]
def r_Z106_5 : List GI:=[gt 10 5,gd 11 .add 10 1,gt 5 11]
def r_Z106_6 : List GI:=[gi 4 (.mov 4 (.k (.v (.bool true))))]
def dc_Z106 : DC:=.seq (.z r_Z106_0) (.seq (.seq (.z r_Z106_1) (.block 0 (.loop (.seq (.seq (.z r_Z106_2) (.cond (.t 9) .skip (.exit 0))) (.seq (.block 1 (.seq (.reg r_Z106_3 (some [0,0,3,7,0,16,63,127,255,511,1023,2047,4095,4095,16383,32767,4095,4095,135167,462847,987135,2097151,4194303,8388607])) (.cond (.t 35) (.seq (.z r_Z106_4) .ret) .skip))) (.z r_Z106_5)))))) (.seq (.z r_Z106_6) .ret))
theorem c_Z106 : cfun Tryz.prog [] 140 = some (36,dc_Z106,[(Res.tmp 4)]):=by kernel_rfl
def r_Z69_0 : List GI:=[gi 2 (.mov 2 (.k (.v (.bool false))))]
def r_Z69_1 : List GI:=[gk 3 0]
def r_Z69_2 : List GI:=[gt 4 3,gt 5 0,gn 6 5,gb 7 .lss 4 6]
def r_Z69_3 : List GI:=[gt 10 0,gt 11 3,ga 12 10 11 1,gl 13 12,gc 14 136 [.t 13,.k (I 1),.k (I 6)],gi 15 (.un 15 UnOp.not (.t 14))]
def r_Z69_4 : List GI:=[gi 2 (.mov 2 (.k (.v (.bool false))))]
def r_Z69_5 : List GI:=[gt 8 3,gd 9 .add 8 1,gt 3 9]
def r_Z69_6 : List GI:=[gt 16 0,gn 17 16,gc 18 136 [.t 17,.k (I 1),.k (I 4)],gt 2 18]
def dc_Z69 : DC:=.seq (.z r_Z69_0) (.seq (.seq (.z r_Z69_1) (.block 0 (.loop (.seq (.seq (.z r_Z69_2) (.cond (.t 7) .skip (.exit 0))) (.seq (.block 1 (.seq (.z r_Z69_3) (.cond (.t 15) (.seq (.z r_Z69_4) .ret) .skip))) (.z r_Z69_5)))))) (.seq (.z r_Z69_6) .ret))
theorem c_Z69 : cfun Tryz.prog [] 94 = some (19,dc_Z69,[(Res.tmp 2)]):=by kernel_rfl
end
end Go.Proofs.YtgpdmgaemhelgaaGreat
namespace Go.Proofs.YtgpdmgaemhelgaaGreat
open Go.RowKit
noncomputable section
def r_Z39_0 : List GI:=[gi 1 (.box 1 2000001 (.t 0) (some 5)),gi 2 (.mov 2 (.k (.v (.bool false))))]
def r_Z39_1 : List GI:=[gf 6 1 0,gl 7 6,gc 8 144 [.t 7],gt 5 8,gi 9 (.ext 9 5 0),gi 10 (.ext 10 5 1),gi 3 (.alloc 3 2000003 [I 0,I 0,I 0]),g0 (.sto 3 (.t 9) (some 3)),gt 4 10]
def r_Z39_2 : List GI:=[gt 12 4,gi 13 (.un 13 UnOp.not (.t 12)),gt 14 13,⟨.fad 15 1 4,some 15,some (14,false),false⟩,⟨.lod 16 15 none,some 16,some (14,false),false⟩,⟨.len 17 (.t 16),some 17,some (14,false),false⟩,⟨.fad 18 3 2,some 18,some (14,false),false⟩,⟨.lod 19 18 none,some 19,some (14,false),false⟩,⟨.bin 20 .neq (.t 17) (.t 19),some 20,some (14,false),false⟩,gi 21 (.pick 21 (.t 14) (.k (.v (.bool true))) (.t 20)),gt 11 21]
def r_Z39_3 : List GI:=[gi 2 (.mov 2 (.k (.v (.bool false))))]
def r_Z39_4 : List GI:=[gf 23 1 2,gl 24 23,gn 25 24,gf 26 3 0,gl 27 26,gb 28 .lss 25 27,gt 29 28,⟨.fad 30 1 2,some 30,some (29,false),false⟩,⟨.lod 31 30 none,some 31,some (29,false),false⟩,⟨.len 32 (.t 31),some 32,some (29,false),false⟩,⟨.fad 33 3 1,some 33,some (29,false),false⟩,⟨.lod 34 33 none,some 34,some (29,false),false⟩,⟨.bin 35 .gtr (.t 32) (.t 34),some 35,some (29,false),false⟩,gi 36 (.pick 36 (.t 29) (.k (.v (.bool true))) (.t 35)),gt 22 36]
def r_Z39_5 : List GI:=[gi 2 (.mov 2 (.k (.v (.bool false))))]
def r_Z39_6 : List GI:=[gf 38 1 0,gl 39 38,gd 40 .neq 39 1,gt 41 40,⟨.fad 42 1 1,some 42,some (41,true),false⟩,⟨.lod 43 42 none,some 43,some (41,true),false⟩,⟨.bin 44 .neq (.t 43) (.k (I 0)),some 44,some (41,true),false⟩,gi 45 (.pick 45 (.t 41) (.t 44) (.k (.v (.bool false)))),gt 37 45]
def r_Z39_7 : List GI:=[gi 2 (.mov 2 (.k (.v (.bool false))))]
def r_Z39_8 : List GI:=[gf 46 1 0,gl 47 46,gd 48 .eql 47 8,gt 49 48,⟨.fad 50 1 3,some 50,some (49,false),false⟩,⟨.lod 51 50 none,some 51,some (49,false),false⟩,⟨.len 52 (.t 51),some 52,some (49,false),false⟩,⟨.bin 53 .eql (.t 52) (.k (I 0)),some 53,some (49,false),false⟩,gi 54 (.pick 54 (.t 49) (.k (.v (.bool true))) (.t 53)),gt 2 54]
def dc_Z39 : DC:=.seq (.z r_Z39_0) (.seq (.z r_Z39_1) (.seq (.block 0 (.seq (.z r_Z39_2) (.cond (.t 11) (.seq (.z r_Z39_3) .ret) (.seq (.z r_Z39_4) (.cond (.t 22) (.seq (.z r_Z39_5) .ret) (.seq (.z r_Z39_6) (.cond (.t 37) (.seq (.z r_Z39_7) .ret) .skip))))))) (.seq (.z r_Z39_8) .ret)))
theorem c_Z39 : cfun Tryz.prog [] 100 = some (55,dc_Z39,[(Res.tmp 2)]):=by kernel_rfl
def r_Z131_0 : List GI:=[gi 2 (.alloc 2 2000002 [I 0,I 0,I 0]),gi 3 (.mov 3 (.k (.v (.bool false))))]
def r_Z131_1 : List GI:=[gt 4 0]
def r_Z131_2 : List GI:=[gd 6 .eql 4 1,gt 5 6]
def r_Z131_3 : List GI:=[gi 7 (.build 7 [I 0,I 0,I 0] []),g0 (.sto 2 (.t 7) (some 3)),gi 3 (.mov 3 (.k (.v (.bool true))))]
def r_Z131_4 : List GI:=[gd 9 .eql 4 2,gt 8 9]
def r_Z131_5 : List GI:=[gi 10 (.build 10 [I 0,I 0,I 0] [(0,(none,.k (I 1))),(1,(none,.k (I 1))),(2,(none,.k (I 1)))]),g0 (.sto 2 (.t 10) (some 3)),gi 3 (.mov 3 (.k (.v (.bool true))))]
def r_Z131_6 : List GI:=[gd 12 .eql 4 3,gt 11 12]
def r_Z131_7 : List GI:=[gi 13 (.build 13 [I 0,I 0,I 0] [(0,(none,.k (I 1))),(1,(none,.k (I 6))),(2,(none,.k (I 1)))]),g0 (.sto 2 (.t 13) (some 3)),gi 3 (.mov 3 (.k (.v (.bool true))))]
def r_Z131_8 : List GI:=[gd 15 .eql 4 4,gt 14 15]
def r_Z131_9 : List GI:=[gd 16 .eql 4 5,gt 14 16]
def r_Z131_10 : List GI:=[gi 17 (.build 17 [I 0,I 0,I 0] [(0,(none,.k (I 1))),(1,(none,.k (I 1))),(2,(none,.k (I 2)))]),g0 (.sto 2 (.t 17) (some 3)),gi 3 (.mov 3 (.k (.v (.bool true))))]
def r_Z131_11 : List GI:=[gd 19 .eql 4 6,gt 18 19]
def r_Z131_12 : List GI:=[gi 20 (.build 20 [I 0,I 0,I 0] [(2,(none,.k (I 2)))]),g0 (.sto 2 (.t 20) (some 3)),gi 3 (.mov 3 (.k (.v (.bool true))))]
def r_Z131_13 : List GI:=[gd 22 .eql 4 7,gt 21 22]
def r_Z131_14 : List GI:=[gd 23 .eql 4 8,gt 21 23]
def r_Z131_15 : List GI:=[gi 24 (.build 24 [I 0,I 0,I 0] [(2,(none,.k (I 1)))]),g0 (.sto 2 (.t 24) (some 3)),gi 3 (.mov 3 (.k (.v (.bool true))))]
def r_Z131_16 : List GI:=[gi 25 (.build 25 [I 0,I 0,I 0] []),g0 (.sto 2 (.t 25) (some 3)),gi 3 (.mov 3 (.k (.v (.bool false))))]
def dc_Z131 : DC:=.seq (.z r_Z131_0) (.seq (.seq (.z r_Z131_1) (.block 0 (.seq (.z r_Z131_2) (.cond (.t 5) (.seq (.z r_Z131_3) .ret) (.seq (.z r_Z131_4) (.cond (.t 8) (.seq (.z r_Z131_5) .ret) (.seq (.z r_Z131_6) (.cond (.t 11) (.seq (.z r_Z131_7) .ret) (.seq (.seq (.z r_Z131_8) (.cond (.t 14) .skip (.z r_Z131_9))) (.cond (.t 14) (.seq (.z r_Z131_10) .ret) (.seq (.z r_Z131_11) (.cond (.t 18) (.seq (.z r_Z131_12) .ret) (.seq (.seq (.z r_Z131_13) (.cond (.t 21) .skip (.z r_Z131_14))) (.cond (.t 21) (.seq (.z r_Z131_15) .ret) .skip)))))))))))))) (.seq (.z r_Z131_16) .ret))
theorem c_Z131 : cfun Tryz.prog [] 144 = some (26,dc_Z131,[(Res.cell 2 (some 3)),(Res.tmp 3)]):=by kernel_rfl
def r_Z81_0 : List GI:=[gi 1 (.box 1 2000001 (.t 0) (some 5)),gi 2 (.mov 2 (.k (.v (.bool false))))]
def r_Z81_1 : List GI:=[gk 3 1]
def r_Z81_2 : List GI:=[gk 4 0]
def r_Z81_3 : List GI:=[gf 5 1 0,gl 6 5]
def r_Z81_4 : List GI:=[gd 8 .eql 6 1,gt 7 8]
def r_Z81_5 : List GI:=[gk 3 0]
def r_Z81_6 : List GI:=[gd 10 .eql 6 4,gt 9 10]
def r_Z81_7 : List GI:=[gd 11 .eql 6 5,gt 9 11]
def r_Z81_8 : List GI:=[gk 3 2]
def r_Z81_9 : List GI:=[gk 4 1]
def r_Z81_10 : List GI:=[gd 13 .eql 6 6,gt 12 13]
def r_Z81_11 : List GI:=[gk 3 2]
def r_Z81_12 : List GI:=[gd 15 .eql 6 2,gt 14 15]
def r_Z81_13 : List GI:=[gk 4 1]
def r_Z81_14 : List GI:=[gd 17 .eql 6 3,gt 16 17]
def r_Z81_15 : List GI:=[gf 18 1 2,gl 19 18,gn 20 19,gt 4 20]
def r_Z81_16 : List GI:=[gf 21 1 0,gl 22 21,gc 23 136 [.t 22,.k (I 1),.k (I 8)],gt 24 23,⟨.fad 25 1 4,some 25,some (24,true),false⟩,⟨.lod 26 25 none,some 26,some (24,true),false⟩,⟨.len 27 (.t 26),some 27,some (24,true),false⟩,⟨.mov 28 (.t 3),some 28,some (24,true),false⟩,⟨.bin 29 .eql (.t 27) (.t 28),some 29,some (24,true),false⟩,gi 30 (.pick 30 (.t 24) (.t 29) (.k (.v (.bool false)))),gt 31 30,⟨.fad 32 1 2,some 32,some (31,true),false⟩,⟨.lod 33 32 none,some 33,some (31,true),false⟩,⟨.len 34 (.t 33),some 34,some (31,true),false⟩,⟨.mov 35 (.t 4),some 35,some (31,true),false⟩,⟨.bin 36 .eql (.t 34) (.t 35),some 36,some (31,true),false⟩,gi 37 (.pick 37 (.t 31) (.t 36) (.k (.v (.bool false)))),gt 38 37,⟨.fad 39 1 1,some 39,some (38,true),false⟩,⟨.lod 40 39 none,some 40,some (38,true),false⟩,⟨.bin 41 .eql (.t 40) (.k (I 0)),some 41,some (38,true),false⟩,⟨.mov 42 (.t 41),some 42,some (38,true),false⟩,⟨.fad 43 1 0,some 43,some (42,false),false⟩,⟨.lod 44 43 none,some 44,some (42,false),false⟩,⟨.bin 45 .eql (.t 44) (.k (I 1)),some 45,some (42,false),false⟩,⟨.pick 46 (.t 42) (.k (.v (.bool true))) (.t 45),some 46,some (38,true),false⟩,gi 47 (.pick 47 (.t 38) (.t 46) (.k (.v (.bool false)))),gt 48 47,⟨.fad 49 1 3,some 49,some (48,true),false⟩,⟨.lod 50 49 none,some 50,some (48,true),false⟩,⟨.len 51 (.t 50),some 51,some (48,true),false⟩,⟨.bin 52 .eql (.t 51) (.k (I 0)),some 52,some (48,true),false⟩,⟨.mov 53 (.t 52),some 53,some (48,true),false⟩,⟨.fad 54 1 0,some 54,some (53,false),false⟩,⟨.lod 55 54 none,some 55,some (53,false),false⟩,⟨.bin 56 .eql (.t 55) (.k (I 8)),some 56,some (53,false),false⟩,⟨.pick 57 (.t 53) (.k (.v (.bool true))) (.t 56),some 57,some (48,true),false⟩,gi 58 (.pick 58 (.t 48) (.t 57) (.k (.v (.bool false)))),gt 2 58]
def dc_Z81 : DC:=.seq (.z r_Z81_0) (.seq (.z r_Z81_1) (.seq (.z r_Z81_2) (.seq (.seq (.z r_Z81_3) (.block 0 (.seq (.z r_Z81_4) (.cond (.t 7) (.z r_Z81_5) (.seq (.seq (.z r_Z81_6) (.cond (.t 9) .skip (.z r_Z81_7))) (.cond (.t 9) (.seq (.z r_Z81_8) (.z r_Z81_9)) (.seq (.z r_Z81_10) (.cond (.t 12) (.z r_Z81_11) (.seq (.z r_Z81_12) (.cond (.t 14) (.z r_Z81_13) (.seq (.z r_Z81_14) (.cond (.t 16) (.z r_Z81_15) .skip)))))))))))) (.seq (.z r_Z81_16) .ret))))
theorem c_Z81 : cfun Tryz.prog [] 137 = some (59,dc_Z81,[(Res.tmp 2)]):=by kernel_rfl
end
end Go.Proofs.YtgpdmgaemhelgaaGreat
