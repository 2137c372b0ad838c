/-
  Functions of the program read as code on plain data. Closed facts of the program alone.
-/
import Derived.KernelRfl
import Derived.Test.YtibknjpbbeackaaGreatRows
import Derived.Test.YtibknjpbbeackaaGreatJSVGo
import Derived.Test.YtibknjpbbeackaaGreatJSVTbD
import Derived.Test.YtibknjpbbeackaaGreatJSVFrzB
namespace Go.Proofs.YtibknjpbbeackaaGreat
open Go.RowKit
noncomputable section
def r_Z123_0 : List GI := [gi 6 (.alloc 6 2000006 [I 0, I 0, .v (.bool false), I 0, .nul])]
def r_Z123_1 : List GI := [gt 10 0, gt 11 1, gc 12 53 [.t 10, .t 11], gi 13 (.build 13 [I 0, I 0, .v (.bool false), I 0, .nul] [(0, (none, .k (I 1))), (1, (none, .t 12))]), gi 7 (.alloc 7 2000007 [I 0, I 0, .v (.bool false), I 0, .nul]), g0 (.sto 7 (.t 13) (some 5))]
def r_Z123_2 : List GI := [gt 14 0, gc 15 53 [.t 14, .k (I 4)], gi 16 (.build 16 [.v (.bool false), I 0] [(1, (none, .t 15))]), gc 17 168 [.t 16], gi 8 (.alloc 8 2000008 [I 0, I 0, .v (.bool false), I 0, .nul]), g0 (.sto 8 (.t 17) (some 5))]
def r_Z123_3 : List GI := [gt 18 0, gc 19 53 [.t 18, .k (I 3)], gd 20 .eql 19 0]
def r_Z123_4 : List GI := [gt 21 0, gt 22 1, gc 23 53 [.t 21, .t 22], gi 24 (.build 24 [I 0, I 0, .v (.bool false), I 0, .nul] [(0, (none, .k (I 1))), (1, (none, .t 23))]), g0 (.sto 8 (.t 24) (some 5))]
def r_Z123_5 : List GI := [gt 25 0, gc 26 53 [.t 25, .k (I 8)], gt 9 26]
def r_Z123_6 : List GI := [gt 27 9, gd 28 .eql 27 2, gt 29 28, ⟨.mov 30 (.t 2), some 30, some (29, true), false⟩, ⟨.bin 31 .eql (.t 30) (.k (I 0)), some 31, some (29, true), false⟩, gi 32 (.pick 32 (.t 29) (.t 31) (.k (.v (.bool false))))]
def r_Z123_7 : List GI := [gk 9 5]
def r_Z123_8 : List GI := [gt 33 9]
def r_Z123_9 : List GI := [gd 35 .eql 33 0, gt 34 35]
def r_Z123_10 : List GI := [gt 36 0, gt 37 1, gc 38 126 [.t 36, .t 37, .k (I 2)], g0 (.sto 6 (.t 38) (some 5))]
def r_Z123_11 : List GI := [gd 40 .eql 33 1, gt 39 40]
def r_Z123_12 : List GI := [gs 41 7 5, gi 42 (.bsl 42 5 (some 5) [.agg [I 0, I 0, .v (.bool false), I 0, .nul]] [(0, .t 41)]), gi 43 (.build 43 [I 0, I 0, .v (.bool false), I 0, .nul] [(0, (none, .k (I 11))), (4, (none, .t 42))]), gi 44 (.bsl 44 5 (some 5) [.agg [I 0, I 0, .v (.bool false), I 0, .nul]] [(0, .t 43)]), gi 45 (.build 45 [I 0, I 0, .v (.bool false), I 0, .nul] [(0, (none, .k (I 10))), (4, (none, .t 44))]), g0 (.sto 6 (.t 45) (some 5))]
def r_Z123_13 : List GI := [gd 47 .eql 33 2, gt 46 47]
def r_Z123_14 : List GI := [gt 48 0, gt 49 1, gt 50 2, gd 51 .sub 50 1, gc 52 167 [.t 48, .t 49, .t 51], gs 53 7 5, gs 54 8 5, gi 55 (.bsl 55 5 (some 5) [.agg [I 0, I 0, .v (.bool false), I 0, .nul], .agg [I 0, I 0, .v (.bool false), I 0, .nul]] [(0, .t 53), (1, .t 54)]), gi 56 (.build 56 [I 0, I 0, .v (.bool false), I 0, .nul] [(0, (none, .k (I 6))), (4, (none, .t 55))]), gi 57 (.bsl 57 5 (some 5) [.agg [I 0, I 0, .v (.bool false), I 0, .nul], .agg [I 0, I 0, .v (.bool false), I 0, .nul]] [(0, .t 52), (1, .t 56)]), gi 58 (.build 58 [I 0, I 0, .v (.bool false), I 0, .nul] [(0, (none, .k (I 8))), (4, (none, .t 57))]), g0 (.sto 6 (.t 58) (some 5))]
def r_Z123_15 : List GI := [gd 60 .eql 33 3, gt 59 60]
def r_Z123_16 : List GI := [gd 61 .eql 33 4, gt 59 61]
def r_Z123_17 : List GI := [gs 62 8 5, gs 63 7 5, gi 64 (.bsl 64 5 (some 5) [.agg [I 0, I 0, .v (.bool false), I 0, .nul], .agg [I 0, I 0, .v (.bool false), I 0, .nul]] [(0, .t 62), (1, .t 63)]), gi 65 (.build 65 [I 0, I 0, .v (.bool false), I 0, .nul] [(0, (none, .k (I 7))), (4, (none, .t 64))]), g0 (.sto 6 (.t 65) (some 5))]
def r_Z123_18 : List GI := [gd 67 .eql 33 5, gt 66 67]
def r_Z123_19 : List GI := [gs 68 7 5, gs 69 8 5, gi 70 (.bsl 70 5 (some 5) [.agg [I 0, I 0, .v (.bool false), I 0, .nul], .agg [I 0, I 0, .v (.bool false), I 0, .nul]] [(0, .t 68), (1, .t 69)]), gi 71 (.build 71 [I 0, I 0, .v (.bool false), I 0, .nul] [(0, (none, .k (I 7))), (4, (none, .t 70))]), g0 (.sto 6 (.t 71) (some 5))]
def r_Z123_20 : List GI := [gs 72 7 5, gs 73 8 5, gi 74 (.bsl 74 5 (some 5) [.agg [I 0, I 0, .v (.bool false), I 0, .nul], .agg [I 0, I 0, .v (.bool false), I 0, .nul]] [(0, .t 72), (1, .t 73)]), gi 75 (.build 75 [I 0, I 0, .v (.bool false), I 0, .nul] [(0, (none, .k (I 6))), (4, (none, .t 74))]), g0 (.sto 6 (.t 75) (some 5))]
def dc_Z123 : DC := .seq (.z r_Z123_0) (.seq (.z r_Z123_1) (.seq (.z r_Z123_2) (.seq (.seq (.z r_Z123_3) (.cond (.t 20) (.z r_Z123_4) .skip)) (.seq (.z r_Z123_5) (.seq (.seq (.z r_Z123_6) (.cond (.t 32) (.z r_Z123_7) .skip)) (.seq (.seq (.z r_Z123_8) (.block 0 (.seq (.z r_Z123_9) (.cond (.t 34) (.seq (.z r_Z123_10) .ret) (.seq (.z r_Z123_11) (.cond (.t 39) (.seq (.z r_Z123_12) .ret) (.seq (.z r_Z123_13) (.cond (.t 46) (.seq (.reg r_Z123_14 (some [0, 0, 0, 4, 15, 0, 0, 96, 224, 511, 1023, 2047])) .ret) (.seq (.seq (.z r_Z123_15) (.cond (.t 59) .skip (.z r_Z123_16))) (.cond (.t 59) (.seq (.z r_Z123_17) .ret) (.seq (.z r_Z123_18) (.cond (.t 66) (.seq (.z r_Z123_19) .ret) .skip)))))))))))) (.seq (.z r_Z123_20) .ret)))))))
theorem c_Z123 : cfun Tryz.prog [] 167 = some (76, dc_Z123, [(Res.cell 6 (some 5))]) := by kernel_rfl
def r_Z40_0 : List GI := [gi 4 (.alloc 4 2000004 [I 0, I 0, .v (.bool false), I 0, .nul])]
def r_Z40_1 : List GI := [gt 5 0, gt 6 1, gc 7 167 [.t 5, .t 6, .k (I 2)], g0 (.sto 4 (.t 7) (some 5))]
def dc_Z40 : DC := .seq (.z r_Z40_0) (.seq (.z r_Z40_1) .ret)
theorem c_Z40 : cfun Tryz.prog [] 125 = some (8, dc_Z40, [(Res.cell 4 (some 5))]) := by kernel_rfl
def r_Z58_0 : List GI := [gi 4 (.alloc 4 2000004 [I 0, I 0, .nul, .nul, .nul])]
def r_Z58_1 : List GI := [gt 13 0, gi 14 (.nilc 14 13), gf 15 14 0, gl 16 15, gt 5 16]
def r_Z58_2 : List GI := [gt 17 5, gt 18 0, gi 19 (.nilc 19 18), gf 20 19 1, gl 21 20, gn 22 21, gc 23 53 [.t 17, .t 22], gi 24 (.build 24 [I 0, I 0, .nul, .nul, .nul] [(0, (none, .k (I 1))), (1, (none, .t 23))]), gi 6 (.alloc 6 2000006 [I 0, I 0, .nul, .nul, .nul]), g0 (.sto 6 (.t 24) (some 5))]
def r_Z58_3 : List GI := [gt 25 1, gd 26 .eql 25 0, gt 27 26, ⟨.mov 28 (.t 5), some 28, some (27, false), false⟩, ⟨.call 29 53 [.t 28, .k (I 6)], some 29, some (27, false), true⟩, ⟨.bin 30 .eql (.t 29) (.k (I 0)), some 30, some (27, false), false⟩, gi 31 (.pick 31 (.t 27) (.k (.v (.bool true))) (.t 30))]
def r_Z58_4 : List GI := [gs 32 6 5, g0 (.sto 4 (.t 32) (some 5))]
def r_Z58_5 : List GI := [gt 33 0, gt 34 1, gd 35 .sub 34 1, gc 36 123 [.t 33, .t 35], gi 7 (.alloc 7 2000007 [I 0, I 0, .nul, .nul, .nul]), g0 (.sto 7 (.t 36) (some 5))]
def r_Z58_6 : List GI := [gs 37 7 5, gt 38 0, gi 39 (.nilc 39 38), gf 40 39 1, gl 41 40, gc 42 61 [.t 37, .t 41, .k (I 8)], gt 8 42]
def r_Z58_7 : List GI := [gt 43 5, gc 44 53 [.t 43, .k (I 10)]]
def r_Z58_8 : List GI := [gd 46 .eql 44 0, gt 45 46]
def r_Z58_9 : List GI := [gd 47 .eql 44 1, gt 45 47]
def r_Z58_10 : List GI := [gd 48 .eql 44 2, gt 45 48]
def r_Z58_11 : List GI := [gt 49 5, gt 50 8, gc 51 125 [.t 49, .t 50], gs 52 7 5, gc 53 124 [.t 51, .t 52], g0 (.sto 4 (.t 53) (some 5))]
def r_Z58_12 : List GI := [gd 55 .eql 44 3, gt 54 55]
def r_Z58_13 : List GI := [gd 56 .eql 44 4, gt 54 56]
def r_Z58_14 : List GI := [gi 57 (.mov 57 (.k .nul)), gt 9 57]
def r_Z58_15 : List GI := [gt 58 5, gc 59 53 [.t 58, .k (I 2)], gi 60 (.bin 60 .add (.k (I 1)) (.t 59)), gt 10 60]
def r_Z58_16 : List GI := [gt 61 10, gd 62 .gtr 61 0]
def r_Z58_17 : List GI := [gt 65 9, gt 66 5, gt 67 8, gt 68 5, gc 69 53 [.t 68, .k (I 2)], gc 70 126 [.t 66, .t 67, .t 69], gi 71 (.bsl 71 5 (some 5) [.agg [I 0, I 0, .v (.bool false), I 0, .nul]] [(0, .t 70)]), gi 72 (.app 72 2000072 (.t 65) (.t 71) 5 56), gt 9 72]
def r_Z58_18 : List GI := [gt 63 10, gd 64 .sub 63 1, gt 10 64]
def r_Z58_19 : List GI := [gt 73 9, gs 74 7 5, gi 75 (.bsl 75 5 (some 5) [.agg [I 0, I 0, .nul, .nul, .nul]] [(0, .t 74)]), gi 76 (.build 76 [I 0, I 0, .nul, .nul, .nul] [(0, (none, .k (I 3))), (2, (none, .t 73)), (4, (none, .t 75))]), g0 (.sto 4 (.t 76) (some 5))]
def r_Z58_20 : List GI := [gd 78 .eql 44 5, gt 77 78]
def r_Z58_21 : List GI := [gd 79 .eql 44 6, gt 77 79]
def r_Z58_22 : List GI := [gt 80 0, gi 81 (.nilc 81 80), gf 82 81 2, gl 83 82, gd 84 .gtr 83 0, gt 85 84, ⟨.mov 86 (.t 8), some 86, some (85, true), false⟩, ⟨.bin 87 .leq (.t 86) (.k (I 4)), some 87, some (85, true), false⟩, gi 88 (.pick 88 (.t 85) (.t 87) (.k (.v (.bool false))))]
def r_Z58_23 : List GI := [gt 89 0, gt 90 0, gi 91 (.nilc 91 90), gf 92 91 2, gl 93 92, gd 94 .sub 93 1, gi 95 (.nilc 95 89), gf 96 95 2, g0 (.sto 96 (.t 94) none)]
def r_Z58_24 : List GI := [gt 97 0, gt 98 5, gc 99 53 [.t 98, .k (I 2)], gc 100 123 [.t 97, .t 99], gi 11 (.alloc 11 2000011 [I 0, I 0, .nul, .nul, .nul]), g0 (.sto 11 (.t 100) (some 5))]
def r_Z58_25 : List GI := [gt 101 8, gs 102 11 5, gt 103 0, gi 104 (.nilc 104 103), gf 105 104 1, gl 106 105, gc 107 61 [.t 102, .t 106, .k (I 8)], gb 108 .add 101 107, gt 12 108]
def r_Z58_26 : List GI := [gt 109 12, gd 110 .leq 109 6]
def r_Z58_27 : List GI := [gt 111 5, gi 112 (.bsl 112 1 none [I 0, I 0] [(0, .k (I 4)), (1, .k (I 5))]), gc 113 80 [.t 111, .t 112], gt 114 5, gt 115 12, gc 116 125 [.t 114, .t 115], gi 117 (.bsl 117 5 (some 5) [.agg [I 0, I 0, .v (.bool false), I 0, .nul]] [(0, .t 116)]), gs 118 7 5, gs 119 11 5, gi 120 (.bsl 120 5 (some 5) [.agg [I 0, I 0, .nul, .nul, .nul], .agg [I 0, I 0, .nul, .nul, .nul]] [(0, .t 118), (1, .t 119)]), gi 121 (.build 121 [I 0, I 0, .nul, .nul, .nul] [(0, (none, .t 113)), (2, (none, .t 117)), (4, (none, .t 120))]), g0 (.sto 4 (.t 121) (some 5))]
def r_Z58_28 : List GI := [gd 123 .eql 44 7, gt 122 123]
def r_Z58_29 : List GI := [gt 124 0, gi 125 (.nilc 125 124), gf 126 125 3, gl 127 126, gd 128 .gtr 127 0]
def r_Z58_30 : List GI := [gt 129 0, gt 130 0, gi 131 (.nilc 131 130), gf 132 131 3, gl 133 132, gd 134 .sub 133 1, gi 135 (.nilc 135 129), gf 136 135 3, g0 (.sto 136 (.t 134) none)]
def r_Z58_31 : List GI := [gs 137 7 5, gt 138 5, gt 139 8, gc 140 125 [.t 138, .t 139], gs 141 7 5, gc 142 166 [.t 141], gc 143 124 [.t 140, .t 142], gi 144 (.bsl 144 5 (some 5) [.agg [I 0, I 0, .nul, .nul, .nul], .agg [I 0, I 0, .nul, .nul, .nul]] [(0, .t 137), (1, .t 143)]), gi 145 (.build 145 [I 0, I 0, .nul, .nul, .nul] [(0, (none, .k (I 6))), (4, (none, .t 144))]), g0 (.sto 4 (.t 145) (some 5))]
def r_Z58_32 : List GI := [gd 147 .eql 44 8, gt 146 147]
def r_Z58_33 : List GI := [gs 148 7 5, gi 149 (.bsl 149 5 (some 5) [.agg [I 0, I 0, .nul, .nul, .nul]] [(0, .t 148)]), gi 150 (.build 150 [I 0, I 0, .nul, .nul, .nul] [(0, (none, .k (I 7))), (4, (none, .t 149))]), g0 (.sto 4 (.t 150) (some 5))]
def r_Z58_34 : List GI := [gd 152 .eql 44 9, gt 151 152]
def r_Z58_35 : List GI := [gt 153 8, gd 154 .gtr 153 1]
def r_Z58_36 : List GI := [gt 155 5, gt 156 8, gc 157 53 [.t 155, .t 156], gi 158 (.bsl 158 1 none [I 0] [(0, .t 157)]), gs 159 7 5, gi 160 (.bsl 160 5 (some 5) [.agg [I 0, I 0, .nul, .nul, .nul]] [(0, .t 159)]), gi 161 (.build 161 [I 0, I 0, .nul, .nul, .nul] [(0, (none, .k (I 8))), (3, (none, .t 158)), (4, (none, .t 160))]), g0 (.sto 4 (.t 161) (some 5))]
def r_Z58_37 : List GI := [gs 162 7 5, gi 163 (.bsl 163 5 (some 5) [.agg [I 0, I 0, .nul, .nul, .nul]] [(0, .t 162)]), gi 164 (.build 164 [I 0, I 0, .nul, .nul, .nul] [(0, (none, .k (I 8))), (4, (none, .t 163))]), g0 (.sto 4 (.t 164) (some 5))]
def r_Z58_38 : List GI := [gt 165 5, gt 166 8, gc 167 125 [.t 165, .t 166], gs 168 7 5, gc 169 124 [.t 167, .t 168], g0 (.sto 4 (.t 169) (some 5))]
def dc_Z58 : DC := .seq (.z r_Z58_0) (.seq (.z r_Z58_1) (.seq (.z r_Z58_2) (.seq (.seq (.z r_Z58_3) (.cond (.t 31) (.seq (.z r_Z58_4) .ret) .skip)) (.seq (.z r_Z58_5) (.seq (.reg r_Z58_6 (some [0, 0, 2, 6, 14, 31, 63])) (.seq (.seq (.z r_Z58_7) (.block 0 (.seq (.seq (.z r_Z58_8) (.cond (.t 45) .skip (.seq (.z r_Z58_9) (.cond (.t 45) .skip (.z r_Z58_10))))) (.cond (.t 45) (.seq (.reg r_Z58_11 (some [0, 0, 3, 0, 15, 31])) .ret) (.seq (.seq (.z r_Z58_12) (.cond (.t 54) .skip (.z r_Z58_13))) (.cond (.t 54) (.seq (.z r_Z58_14) (.seq (.seq (.z r_Z58_15) (.block 1 (.loop (.seq (.seq (.z r_Z58_16) (.cond (.t 62) .skip (.exit 1))) (.seq (.block 2 (.z r_Z58_17)) (.z r_Z58_18)))))) (.seq (.z r_Z58_19) .ret))) (.seq (.seq (.z r_Z58_20) (.cond (.t 77) .skip (.z r_Z58_21))) (.cond (.t 77) (.seq (.z r_Z58_22) (.cond (.t 88) (.seq (.z r_Z58_23) (.seq (.z r_Z58_24) (.seq (.reg r_Z58_25 (some [0, 0, 0, 4, 12, 28, 62, 127, 255])) (.seq (.z r_Z58_26) (.cond (.t 110) (.seq (.reg r_Z58_27 (some [0, 0, 3, 0, 0, 31, 63, 0, 0, 384, 1023, 2047])) .ret) .skip))))) .skip)) (.seq (.z r_Z58_28) (.cond (.t 122) (.seq (.z r_Z58_29) (.cond (.t 128) (.seq (.z r_Z58_30) (.seq (.reg r_Z58_31 (some [0, 0, 0, 6, 0, 30, 62, 127, 255, 511])) .ret)) .skip)) (.seq (.z r_Z58_32) (.cond (.t 146) (.seq (.z r_Z58_33) .ret) (.seq (.z r_Z58_34) (.cond (.t 151) (.seq (.seq (.z r_Z58_35) (.cond (.t 154) (.seq (.reg r_Z58_36 (some [0, 0, 3, 7, 0, 16, 63, 127])) .ret) .skip)) (.seq (.z r_Z58_37) .ret)) .skip)))))))))))))) (.seq (.reg r_Z58_38 (some [0, 0, 3, 0, 15, 31])) .ret)))))))
theorem c_Z58 : cfun Tryz.prog [] 123 = some (170, dc_Z58, [(Res.cell 4 (some 5))]) := by kernel_rfl
def r_Z124_0 : List GI := [gi 2 (.box 2 2000002 (.t 0) (some 5)), gi 3 (.box 3 2000003 (.t 1) (some 5)), gi 4 (.alloc 4 2000004 [I 0, I 0, .nul, .nul, .nul])]
def r_Z124_1 : List GI := [gs 5 2 5, gi 6 (.bslx 6 2000006 5 (some 5) [.agg [I 0, I 0, .v (.bool false), I 0, .nul]] [(0, .t 5)]), gs 7 3 5, gi 8 (.bsl 8 5 (some 5) [.agg [I 0, I 0, .nul, .nul, .nul]] [(0, .t 7)]), gi 9 (.build 9 [I 0, I 0, .nul, .nul, .nul] [(0, (none, .k (I 2))), (2, (none, .t 6)), (4, (none, .t 8))]), g0 (.sto 4 (.t 9) (some 5))]
def dc_Z124 : DC := .seq (.z r_Z124_0) (.seq (.z r_Z124_1) .ret)
theorem c_Z124 : cfun Tryz.prog [6] 124 = some (10, dc_Z124, [(Res.cell 4 (some 5))]) := by kernel_rfl
def r_Z46_0 : List GI := [gi 4 (.alloc 4 2000004 [I 0, I 0, .nul, .nul, .nul])]
def r_Z46_1 : List GI := [gt 13 0, gi 14 (.nilc 14 13), gf 15 14 0, gl 16 15, gt 5 16]
def r_Z46_2 : List GI := [gt 17 5, gt 18 0, gi 19 (.nilc 19 18), gf 20 19 1, gl 21 20, gn 22 21, gc 23 53 [.t 17, .t 22], gi 24 (.build 24 [I 0, I 0, .nul, .nul, .nul] [(0, (none, .k (I 1))), (1, (none, .t 23))]), gi 6 (.alloc 6 2000006 [I 0, I 0, .nul, .nul, .nul]), g0 (.sto 6 (.t 24) (some 5))]
def r_Z46_3 : List GI := [gt 25 1, gd 26 .eql 25 0, gt 27 26, ⟨.mov 28 (.t 5), some 28, some (27, false), false⟩, ⟨.call 29 53 [.t 28, .k (I 6)], some 29, some (27, false), true⟩, ⟨.bin 30 .eql (.t 29) (.k (I 0)), some 30, some (27, false), false⟩, gi 31 (.pick 31 (.t 27) (.k (.v (.bool true))) (.t 30))]
def r_Z46_4 : List GI := [gs 32 6 5, g0 (.sto 4 (.t 32) (some 5))]
def r_Z46_5 : List GI := [gt 33 0, gt 34 1, gd 35 .sub 34 1, gc 36 123 [.t 33, .t 35], gi 7 (.alloc 7 2000007 [I 0, I 0, .nul, .nul, .nul]), g0 (.sto 7 (.t 36) (some 5))]
def r_Z46_6 : List GI := [gs 37 7 5, gt 38 0, gi 39 (.nilc 39 38), gf 40 39 1, gl 41 40, gc 42 61 [.t 37, .t 41, .k (I 8)], gt 8 42]
def r_Z46_7 : List GI := [gt 43 5, gc 44 53 [.t 43, .k (I 10)]]
def r_Z46_8 : List GI := [gd 46 .eql 44 0, gt 45 46]
def r_Z46_9 : List GI := [gd 47 .eql 44 1, gt 45 47]
def r_Z46_10 : List GI := [gd 48 .eql 44 2, gt 45 48]
def r_Z46_11 : List GI := [gt 49 5, gt 50 8, gc 51 125 [.t 49, .t 50], gs 52 7 5, gc 53 124 [.t 51, .t 52], g0 (.sto 4 (.t 53) (some 5))]
def r_Z46_12 : List GI := [gd 55 .eql 44 3, gt 54 55]
def r_Z46_13 : List GI := [gd 56 .eql 44 4, gt 54 56]
def r_Z46_14 : List GI := [gi 57 (.mov 57 (.k .nul)), gt 9 57]
def r_Z46_15 : List GI := [gt 58 5, gc 59 53 [.t 58, .k (I 2)], gi 60 (.bin 60 .add (.k (I 1)) (.t 59)), gt 10 60]
def r_Z46_16 : List GI := [gt 61 10, gd 62 .gtr 61 0]
def r_Z46_17 : List GI := [gt 65 9, gt 66 5, gt 67 8, gt 68 5, gc 69 53 [.t 68, .k (I 2)], gc 70 126 [.t 66, .t 67, .t 69], gi 71 (.bsl 71 5 (some 5) [.agg [I 0, I 0, .v (.bool false), I 0, .nul]] [(0, .t 70)]), gi 72 (.app 72 2000072 (.t 65) (.t 71) 5 56), gt 9 72]
def r_Z46_18 : List GI := [gt 63 10, gd 64 .sub 63 1, gt 10 64]
def r_Z46_19 : List GI := [gt 73 9, gs 74 7 5, gi 75 (.bsl 75 5 (some 5) [.agg [I 0, I 0, .nul, .nul, .nul]] [(0, .t 74)]), gi 76 (.build 76 [I 0, I 0, .nul, .nul, .nul] [(0, (none, .k (I 3))), (2, (none, .t 73)), (4, (none, .t 75))]), g0 (.sto 4 (.t 76) (some 5))]
def r_Z46_20 : List GI := [gd 78 .eql 44 5, gt 77 78]
def r_Z46_21 : List GI := [gd 79 .eql 44 6, gt 77 79]
def r_Z46_22 : List GI := [gt 80 0, gi 81 (.nilc 81 80), gf 82 81 2, gl 83 82, gd 84 .gtr 83 0, gt 85 84, ⟨.mov 86 (.t 8), some 86, some (85, true), false⟩, ⟨.bin 87 .leq (.t 86) (.k (I 4)), some 87, some (85, true), false⟩, gi 88 (.pick 88 (.t 85) (.t 87) (.k (.v (.bool false))))]
def r_Z46_23 : List GI := [gt 89 0, gt 90 0, gi 91 (.nilc 91 90), gf 92 91 2, gl 93 92, gd 94 .sub 93 1, gi 95 (.nilc 95 89), gf 96 95 2, g0 (.sto 96 (.t 94) none)]
def r_Z46_24 : List GI := [gt 97 0, gt 98 5, gc 99 53 [.t 98, .k (I 2)], gc 100 123 [.t 97, .t 99], gi 11 (.alloc 11 2000011 [I 0, I 0, .nul, .nul, .nul]), g0 (.sto 11 (.t 100) (some 5))]
def r_Z46_25 : List GI := [gt 101 8, gs 102 11 5, gt 103 0, gi 104 (.nilc 104 103), gf 105 104 1, gl 106 105, gc 107 61 [.t 102, .t 106, .k (I 8)], gb 108 .add 101 107, gt 12 108]
def r_Z46_26 : List GI := [gt 109 12, gd 110 .leq 109 6]
def r_Z46_27 : List GI := [gt 111 5, gi 112 (.bsl 112 1 none [I 0, I 0] [(0, .k (I 4)), (1, .k (I 5))]), gc 113 80 [.t 111, .t 112], gt 114 5, gt 115 12, gc 116 125 [.t 114, .t 115], gi 117 (.bslx 117 2000117 5 (some 5) [.agg [I 0, I 0, .v (.bool false), I 0, .nul]] [(0, .t 116)]), gs 118 7 5, gs 119 11 5, gi 120 (.bsl 120 5 (some 5) [.agg [I 0, I 0, .nul, .nul, .nul], .agg [I 0, I 0, .nul, .nul, .nul]] [(0, .t 118), (1, .t 119)]), gi 121 (.build 121 [I 0, I 0, .nul, .nul, .nul] [(0, (none, .t 113)), (2, (none, .t 117)), (4, (none, .t 120))]), g0 (.sto 4 (.t 121) (some 5))]
def r_Z46_28 : List GI := [gd 123 .eql 44 7, gt 122 123]
def r_Z46_29 : List GI := [gt 124 0, gi 125 (.nilc 125 124), gf 126 125 3, gl 127 126, gd 128 .gtr 127 0]
def r_Z46_30 : List GI := [gt 129 0, gt 130 0, gi 131 (.nilc 131 130), gf 132 131 3, gl 133 132, gd 134 .sub 133 1, gi 135 (.nilc 135 129), gf 136 135 3, g0 (.sto 136 (.t 134) none)]
def r_Z46_31 : List GI := [gs 137 7 5, gt 138 5, gt 139 8, gc 140 125 [.t 138, .t 139], gs 141 7 5, gc 142 166 [.t 141], gc 143 124 [.t 140, .t 142], gi 144 (.bsl 144 5 (some 5) [.agg [I 0, I 0, .nul, .nul, .nul], .agg [I 0, I 0, .nul, .nul, .nul]] [(0, .t 137), (1, .t 143)]), gi 145 (.build 145 [I 0, I 0, .nul, .nul, .nul] [(0, (none, .k (I 6))), (4, (none, .t 144))]), g0 (.sto 4 (.t 145) (some 5))]
def r_Z46_32 : List GI := [gd 147 .eql 44 8, gt 146 147]
def r_Z46_33 : List GI := [gs 148 7 5, gi 149 (.bsl 149 5 (some 5) [.agg [I 0, I 0, .nul, .nul, .nul]] [(0, .t 148)]), gi 150 (.build 150 [I 0, I 0, .nul, .nul, .nul] [(0, (none, .k (I 7))), (4, (none, .t 149))]), g0 (.sto 4 (.t 150) (some 5))]
def r_Z46_34 : List GI := [gd 152 .eql 44 9, gt 151 152]
def r_Z46_35 : List GI := [gt 153 8, gd 154 .gtr 153 1]
def r_Z46_36 : List GI := [gt 155 5, gt 156 8, gc 157 53 [.t 155, .t 156], gi 158 (.bslx 158 2000158 1 none [I 0] [(0, .t 157)]), gs 159 7 5, gi 160 (.bsl 160 5 (some 5) [.agg [I 0, I 0, .nul, .nul, .nul]] [(0, .t 159)]), gi 161 (.build 161 [I 0, I 0, .nul, .nul, .nul] [(0, (none, .k (I 8))), (3, (none, .t 158)), (4, (none, .t 160))]), g0 (.sto 4 (.t 161) (some 5))]
def r_Z46_37 : List GI := [gs 162 7 5, gi 163 (.bsl 163 5 (some 5) [.agg [I 0, I 0, .nul, .nul, .nul]] [(0, .t 162)]), gi 164 (.build 164 [I 0, I 0, .nul, .nul, .nul] [(0, (none, .k (I 8))), (4, (none, .t 163))]), g0 (.sto 4 (.t 164) (some 5))]
def r_Z46_38 : List GI := [gt 165 5, gt 166 8, gc 167 125 [.t 165, .t 166], gs 168 7 5, gc 169 124 [.t 167, .t 168], g0 (.sto 4 (.t 169) (some 5))]
def dc_Z46 : DC := .seq (.z r_Z46_0) (.seq (.z r_Z46_1) (.seq (.z r_Z46_2) (.seq (.seq (.z r_Z46_3) (.cond (.t 31) (.seq (.z r_Z46_4) .ret) .skip)) (.seq (.z r_Z46_5) (.seq (.reg r_Z46_6 (some [0, 0, 2, 6, 14, 31, 63])) (.seq (.seq (.z r_Z46_7) (.block 0 (.seq (.seq (.z r_Z46_8) (.cond (.t 45) .skip (.seq (.z r_Z46_9) (.cond (.t 45) .skip (.z r_Z46_10))))) (.cond (.t 45) (.seq (.reg r_Z46_11 (some [0, 0, 3, 0, 15, 31])) .ret) (.seq (.seq (.z r_Z46_12) (.cond (.t 54) .skip (.z r_Z46_13))) (.cond (.t 54) (.seq (.z r_Z46_14) (.seq (.seq (.z r_Z46_15) (.block 1 (.loop (.seq (.seq (.z r_Z46_16) (.cond (.t 62) .skip (.exit 1))) (.seq (.block 2 (.z r_Z46_17)) (.z r_Z46_18)))))) (.seq (.z r_Z46_19) .ret))) (.seq (.seq (.z r_Z46_20) (.cond (.t 77) .skip (.z r_Z46_21))) (.cond (.t 77) (.seq (.z r_Z46_22) (.cond (.t 88) (.seq (.z r_Z46_23) (.seq (.z r_Z46_24) (.seq (.reg r_Z46_25 (some [0, 0, 0, 4, 12, 28, 62, 127, 255])) (.seq (.z r_Z46_26) (.cond (.t 110) (.seq (.reg r_Z46_27 (some [0, 0, 3, 0, 0, 31, 63, 0, 0, 384, 1023, 2047])) .ret) .skip))))) .skip)) (.seq (.z r_Z46_28) (.cond (.t 122) (.seq (.z r_Z46_29) (.cond (.t 128) (.seq (.z r_Z46_30) (.seq (.reg r_Z46_31 (some [0, 0, 0, 6, 0, 30, 62, 127, 255, 511])) .ret)) .skip)) (.seq (.z r_Z46_32) (.cond (.t 146) (.seq (.z r_Z46_33) .ret) (.seq (.z r_Z46_34) (.cond (.t 151) (.seq (.seq (.z r_Z46_35) (.cond (.t 154) (.seq (.reg r_Z46_36 (some [0, 0, 3, 7, 0, 16, 63, 127])) .ret) .skip)) (.seq (.z r_Z46_37) .ret)) .skip)))))))))))))) (.seq (.reg r_Z46_38 (some [0, 0, 3, 0, 15, 31])) .ret)))))))
theorem c_Z46 : cfun Tryz.prog [117,158] 123 = some (170, dc_Z46, [(Res.cell 4 (some 5))]) := by kernel_rfl
def r_Z109_0 : List GI := [gi 4 (.alloc 4 2000004 [I 0, I 0, .nul, .nul, .nul])]
def r_Z109_1 : List GI := [gt 7 0, gt 8 1, gi 9 (.build 9 [.v (.pointer none), .nul, I 0, I 0] [(0, (none, .t 7)), (1, (none, .t 8)), (2, (none, .k (I 1))), (3, (none, .k (I 1)))]), gi 10 (.box 10 2000010 (.t 9) (some 4)), gt 5 10]
def r_Z109_2 : List GI := [gt 11 5, gt 12 0, gc 13 53 [.t 12, .k (I 4)], gi 14 (.bin 14 .add (.k (I 1)) (.t 13)), gc 15 123 [.t 11, .t 14], gi 6 (.alloc 6 2000006 [I 0, I 0, .nul, .nul, .nul]), g0 (.sto 6 (.t 15) (some 5))]
def r_Z109_3 : List GI := [gt 16 0, gc 17 53 [.t 16, .k (I 2)], gd 18 .eql 17 0]
def r_Z109_4 : List GI := [gt 19 0, gs 20 6 5, gt 21 1, gc 22 61 [.t 20, .t 21, .k (I 8)], gc 23 125 [.t 19, .t 22], gs 24 6 5, gc 25 124 [.t 23, .t 24], g0 (.sto 4 (.t 25) (some 5))]
def r_Z109_5 : List GI := [gs 26 6 5, g0 (.sto 4 (.t 26) (some 5))]
def dc_Z109 : DC := .seq (.z r_Z109_0) (.seq (.z r_Z109_1) (.seq (.z r_Z109_2) (.seq (.seq (.z r_Z109_3) (.cond (.t 18) (.seq (.reg r_Z109_4 (some [0, 0, 0, 6, 15, 0, 63, 127])) .ret) .skip)) (.seq (.z r_Z109_5) .ret))))
theorem c_Z109 : cfun Tryz.prog [] 79 = some (27, dc_Z109, [(Res.cell 4 (some 5))]) := by kernel_rfl
end
end Go.Proofs.YtibknjpbbeackaaGreat
namespace Go.Proofs.YtibknjpbbeackaaGreat
open Go.RowKit
theorem code_fz {a : Option Addr} {len cap : Nat} {zs : List Int} {w : World} (h : IsRow .u8 w a len cap zs) : ∃ cs : List Nat, (∀ b, b ∈ cs → b < 256) ∧ Fz w (allOf w) noNames (bytesD cs) (.slice a len cap) := by
  rcases h with ⟨rfl, rfl, rfl, rfl⟩ | ⟨x, rfl, hl, hm, hz, hc, hwz⟩
  · exact ⟨[], (fun b h => by cases h), .sl0 _ 1 none 0⟩
  · by_cases h0 : len = 0
    · subst h0
      exact ⟨[], (fun b h => by cases h), .sl0 _ 1 (some x) cap⟩
    · obtain ⟨b, off, sp⟩ := x
      have hsp : sp = none := by
        have := hc 0 (by omega)
        unfold World.cell? at this
        split at this
        · cases sp with
          | none => rfl
          | some s => simp [Addr.add] at this
        · cases this
      subst hsp
      have hc' : ∀ i, i < cap → w.cell? ⟨b, off + i, none⟩ = some (.int .u8 (zs.getD i 0)) := fun i hi => by have := hc i (by omega); rwa [Addr.add_lit] at this
      have hb : b < w.heap.size := by
        have := hc' 0 (by omega)
        unfold World.cell? at this
        split at this
        · rename_i h; exact (Array.getElem?_eq_some_iff.1 h).1
        · cases this
      have hrange : ∀ i, i < cap → 0 ≤ zs.getD i 0 ∧ zs.getD i 0 < 256 := fun i hi => by
        have hm : zs.getD i 0 ∈ zs := by rw [List.getD_eq_getElem?_getD, List.getElem?_eq_getElem (by omega)]; exact List.getElem_mem _
        have := hwz _ hm
        generalize zs.getD i 0 = z at this ⊢
        simp [Lit.wf, IntKind.min, IntKind.max, IntKind.bits, IntKind.signed] at this
        omega
      refine ⟨(List.range len).map fun i => (zs.getD i 0).toNat, fun n hn => ?_, ?_⟩
      · obtain ⟨i, hi, rfl⟩ := List.mem_map.1 hn
        have := hrange i (by have := List.mem_range.1 hi; omega)
        omega
      · have hlen : (((List.range len).map fun i => (zs.getD i 0).toNat).map byteD).length = len := by simp
        have := Fz.sl (w := w) (F := allOf w) noNames 1 (((List.range len).map fun i => (zs.getD i 0).toNat).map byteD) b off cap (fun k => .int .u8 (zs.getD k 0)) (by decide) (by rw [hlen]; exact hl) (fun e he => ?_) (fun k hk => ?_) (fun k d hd => ?_)
        · rw [hlen] at this
          exact this
        · obtain ⟨n, _, rfl⟩ := List.mem_map.1 he
          rfl
        · rw [hlen] at hk
          exact ⟨hc' k (by omega), hb, rfl⟩
        · have hf : ∀ l : List Nat, D.flat (l.map byteD) = l.map byteD := by
            intro l
            induction l with
            | nil => rfl
            | cons n l ih => rw [List.map_cons, D.flat, List.flatMap_cons, ← D.flat, ih]; rfl
          rw [hf, List.getElem?_map, List.getElem?_map] at hd
          have hk : k < len := by
            cases hr : (List.range len)[k]? with
            | none => rw [hr] at hd; cases hd
            | some j => have := (List.getElem?_eq_some_iff.1 hr).1; simpa using this
          rw [List.getElem?_range hk] at hd
          obtain rfl : byteD (zs.getD k 0).toNat = d := by simpa using hd
          have := hrange k (by omega)
          unfold byteD
          rw [Int.toNat_of_nonneg this.1]
          exact .v _ _
theorem walk_of {f : FuncId} (hdo : ∀ cs : List Nat, (∀ b, b ∈ cs → b < 256) → Does Tryz.prog f [] [bytesD cs] (Bo true) []) (a : Option Addr) (len cap : Nat) (zs : List Int) (w : World) (h : IsRow .u8 w a len cap zs) :
    Calls Tryz.prog f #[.slice a len cap] w fun e W' => e = .returned (.bool true) ∧ Below w.heap.size w W' := by
  obtain ⟨cs, hcs, hfz⟩ := code_fz h
  refine calls_of (hdo cs hcs) w [.slice a len cap] rfl (fun i d x hd hx => ?_)
  rcases i with _ | i
  · obtain rfl : bytesD cs = d := by simpa using hd
    obtain rfl : Value.slice a len cap = x := by simpa using hx
    exact hfz
  · simp at hd
end Go.Proofs.YtibknjpbbeackaaGreat
