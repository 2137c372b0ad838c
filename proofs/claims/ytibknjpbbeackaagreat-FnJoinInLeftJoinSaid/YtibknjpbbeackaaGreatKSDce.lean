/-
  Functions of the program read as code on plain data. Closed facts of the program alone.
-/
import Derived.KernelRfl
import Derived.Test.YtibknjpbbeackaaGreatRows
import Derived.Test.YtibknjpbbeackaaGreatJSVGo
import Derived.Test.YtibknjpbbeackaaGreatKSDcd
import Derived.Test.YtibknjpbbeackaaGreatJSVTbD
namespace Go.Proofs.YtibknjpbbeackaaGreat
open Go.RowKit
noncomputable section
def r_Z79_0 : List GI := [gi 2 (.box 2 2000002 (.t 0) (some 2)), gk 4 0, gk 5 0]
def r_Z79_1 : List GI := [gf 6 2 0, gl 7 6, gt 8 1, ⟨.inv 9 (.t 7) name_impl_value [.t 8], some 9, none, true⟩, gc 10 130 [.t 9], gf 11 2 1, gl 12 11, gt 13 1, ⟨.inv 14 (.t 12) name_impl_value [.t 13], some 14, none, true⟩, gc 15 130 [.t 14], gt 4 10, gt 5 15]
def dc_Z79 : DC := .seq (.z r_Z79_0) (.seq (.reg r_Z79_1 (some [0, 1, 0, 7, 15, 0, 32, 0, 255, 511, 1023, 2047])) .ret)
theorem c_Z79 : cfun Tryz.prog [] 227 = some (16, dc_Z79, [(Res.tmp 4), (Res.tmp 5)]) := by kernel_rfl
def r_Z29_0 : List GI := [gi 2 (.box 2 2000002 (.t 0) (some 2)), gi 4 (.alloc 4 2000004 [.v (.bool false), I 0])]
def r_Z29_1 : List GI := [gf 5 2 0, gs 6 5 2, gt 7 1, ⟨.call 8 214 [.t 6, .t 7, .k (.fn 220 [])], some 8, none, true⟩, g0 (.sto 4 (.t 8) (some 2))]
def dc_Z29 : DC := .seq (.z r_Z29_0) (.seq (.z r_Z29_1) .ret)
theorem c_Z29 : cfun Tryz.prog [] 219 = some (9, dc_Z29, [(Res.cell 4 (some 2))]) := by kernel_rfl
def r_Z25_0 : List GI := [gk 4 0]
def r_Z25_1 : List GI := [gt 5 0, gt 6 1, gb 7 .mul 5 6, gt 4 7]
def dc_Z25 : DC := .seq (.z r_Z25_0) (.seq (.z r_Z25_1) .ret)
theorem c_Z25 : cfun Tryz.prog [] 220 = some (8, dc_Z25, [(Res.tmp 4)]) := by kernel_rfl
def r_Z54_0 : List GI := [gi 2 (.box 2 2000002 (.t 0) (some 2)), gi 4 (.alloc 4 2000004 [.v (.bool false), I 0])]
def r_Z54_1 : List GI := [gf 5 2 0, gs 6 5 2, gt 7 1, ⟨.call 8 214 [.t 6, .t 7, .k (.fn 215 [])], some 8, none, true⟩, g0 (.sto 4 (.t 8) (some 2))]
def dc_Z54 : DC := .seq (.z r_Z54_0) (.seq (.z r_Z54_1) .ret)
theorem c_Z54 : cfun Tryz.prog [] 213 = some (9, dc_Z54, [(Res.cell 4 (some 2))]) := by kernel_rfl
def r_Z38_0 : List GI := [gk 4 0]
def r_Z38_1 : List GI := [gt 5 0, gt 6 1, gb 7 .add 5 6, gt 4 7]
def dc_Z38 : DC := .seq (.z r_Z38_0) (.seq (.z r_Z38_1) .ret)
theorem c_Z38 : cfun Tryz.prog [] 215 = some (8, dc_Z38, [(Res.tmp 4)]) := by kernel_rfl
def r_Z163_0 : List GI := [gi 1 (.box 1 2000001 (.t 0) (some 5)), gi 2 (.mov 2 (.k (.v .nilIface)))]
def r_Z163_1 : List GI := [gf 3 1 0, gl 4 3]
def r_Z163_2 : List GI := [gd 6 .eql 4 1, gt 5 6]
def r_Z163_3 : List GI := [gf 7 1 1, gl 8 7, gi 9 (.build 9 [I 0] [(0, (none, .t 8))]), gi 10 (.ifc 10 149 (.t 9)), gt 2 10]
def r_Z163_4 : List GI := [gd 12 .eql 4 2, gt 11 12]
def r_Z163_5 : List GI := [gf 13 1 2, gs 14 13 2, gi 15 (.build 15 [.v (.bool false), I 0] [(0, (some 2, .t 14))]), gi 16 (.ifc 16 151 (.t 15)), gt 2 16]
def r_Z163_6 : List GI := [gd 18 .eql 4 10, gt 17 18]
def r_Z163_7 : List GI := [gf 19 1 4, gl 20 19, gi 21 (.iad 21 20 (.k (I 0)) 5), gs 22 21 5, gc 23 89 [.t 22], gi 24 (.build 24 [.v .nilIface] [(0, (none, .t 23))]), gi 25 (.ifc 25 153 (.t 24)), gt 2 25]
def r_Z163_8 : List GI := [gd 27 .eql 4 11, gt 26 27]
def r_Z163_9 : List GI := [gf 28 1 4, gl 29 28, gi 30 (.iad 30 29 (.k (I 0)) 5), gs 31 30 5, gc 32 89 [.t 31], gi 33 (.build 33 [.v .nilIface] [(0, (none, .t 32))]), gi 34 (.ifc 34 154 (.t 33)), gt 2 34]
def r_Z163_10 : List GI := [gf 35 1 0, gl 36 35, gf 37 1 4, gl 38 37, gi 39 (.iad 39 38 (.k (I 0)) 5), gs 40 39 5, gc 41 89 [.t 40], gf 42 1 4, gl 43 42, gi 44 (.iad 44 43 (.k (I 1)) 5), gs 45 44 5, gc 46 89 [.t 45], gi 47 (.build 47 [.v .nilIface, .v .nilIface] [(0, (none, .t 41)), (1, (none, .t 46))]), gc 48 131 [.t 36, .t 47], gt 2 48]
def dc_Z163 : DC := .seq (.z r_Z163_0) (.seq (.seq (.z r_Z163_1) (.block 0 (.seq (.z r_Z163_2) (.cond (.t 5) (.seq (.z r_Z163_3) .ret) (.seq (.z r_Z163_4) (.cond (.t 11) (.seq (.z r_Z163_5) .ret) (.seq (.z r_Z163_6) (.cond (.t 17) (.seq (.z r_Z163_7) .ret) (.seq (.z r_Z163_8) (.cond (.t 26) (.seq (.z r_Z163_9) .ret) .skip)))))))))) (.seq (.reg r_Z163_10 (some [0, 1, 0, 4, 12, 28, 60, 0, 128, 384, 896, 2044, 4092, 8191, 16383])) .ret))
theorem c_Z163 : cfun Tryz.prog [] 89 = some (49, dc_Z163, [(Res.tmp 2)]) := by kernel_rfl
def r_Z154_0 : List GI := [gk 2 0]
def r_Z154_1 : List GI := [gt 3 0]
def r_Z154_2 : List GI := [gk 2 2]
def r_Z154_3 : List GI := [gk 2 0]
def dc_Z154 : DC := .seq (.z r_Z154_0) (.seq (.seq (.z r_Z154_1) (.cond (.t 3) (.seq (.z r_Z154_2) .ret) .skip)) (.seq (.z r_Z154_3) .ret))
theorem c_Z154 : cfun Tryz.prog [] 211 = some (4, dc_Z154, [(Res.tmp 2)]) := by kernel_rfl
def r_Z115_0 : List GI := [gk 2 0]
def r_Z115_1 : List GI := [gt 3 0, gi 4 (.bin 4 .sub (.k (I 2)) (.t 3)), gt 2 4]
def dc_Z115 : DC := .seq (.z r_Z115_0) (.seq (.z r_Z115_1) .ret)
theorem c_Z115 : cfun Tryz.prog [] 205 = some (5, dc_Z115, [(Res.tmp 2)]) := by kernel_rfl
def r_Z82_0 : List GI := [gi 2 (.alloc 2 2000002 [.v (.bool false), I 0])]
def r_Z82_1 : List GI := [gt 3 0]
def r_Z82_2 : List GI := [gd 5 .eql 3 0, gt 4 5]
def r_Z82_3 : List GI := [gi 6 (.build 6 [.v (.bool false), I 0] [(1, (none, .k (I 0)))]), g0 (.sto 2 (.t 6) (some 2))]
def r_Z82_4 : List GI := [gd 8 .eql 3 2, gt 7 8]
def r_Z82_5 : List GI := [gi 9 (.build 9 [.v (.bool false), I 0] [(1, (none, .k (I 1)))]), g0 (.sto 2 (.t 9) (some 2))]
def r_Z82_6 : List GI := [gi 10 (.build 10 [.v (.bool false), I 0] [(0, (none, .k (.v (.bool true))))]), g0 (.sto 2 (.t 10) (some 2))]
def dc_Z82 : DC := .seq (.z r_Z82_0) (.seq (.seq (.z r_Z82_1) (.block 0 (.seq (.z r_Z82_2) (.cond (.t 4) (.seq (.z r_Z82_3) .ret) (.seq (.z r_Z82_4) (.cond (.t 7) (.seq (.z r_Z82_5) .ret) .skip)))))) (.seq (.z r_Z82_6) .ret))
theorem c_Z82 : cfun Tryz.prog [] 206 = some (11, dc_Z82, [(Res.cell 2 (some 2))]) := by kernel_rfl
def r_Z42_0 : List GI := [gl 6 1, gn 7 6, gk 8 0]
def r_Z42_1 : List GI := [gb 9 .lss 8 7]
def r_Z42_2 : List GI := [ga 10 6 8 1, gl 11 10, gt 5 11]
def r_Z42_3 : List GI := [gl 12 2, gt 13 5, ⟨.inv 14 (.t 12) name_impl_value [.t 13], some 14, none, true⟩, gc 15 130 [.t 14], gd 16 .eql 15 2, gt 17 16, ⟨.mov 18 (.t 0), some 18, some (17, true), false⟩, ⟨.mov 19 (.t 5), some 19, some (17, true), false⟩, ⟨.cal 20 (.t 18) [.t 19], some 20, some (17, true), true⟩, ⟨.un 21 UnOp.not (.t 20), some 21, some (17, true), false⟩, gi 22 (.pick 22 (.t 17) (.t 21) (.k (.v (.bool false))))]
def r_Z42_4 : List GI := [gd 23 .add 8 1, gt 8 23]
def dc_Z42 : DC := .seq (.z r_Z42_0) (.block 0 (.loop (.seq (.z r_Z42_1) (.seq (.cond (.t 9) .skip (.exit 0)) (.seq (.block 1 (.seq (.z r_Z42_2) (.seq (.z r_Z42_3) (.cond (.t 22) .ret .skip)))) (.z r_Z42_4))))))
theorem c_Z42 : cfun Tryz.prog [] 129 = some (24, dc_Z42, []) := by kernel_rfl
def r_Z53_0 : List GI := [gi 2 (.box 2 2000002 (.t 0) none), gi 4 (.mov 4 (.k (.v .nilFunc)))]
def r_Z53_1 : List GI := [gi 5 (.alloc 5 2000005 [.nul])]
def r_Z53_2 : List GI := [gt 8 1, gn 9 8, gk 10 0]
def r_Z53_3 : List GI := [gb 11 .lss 10 9]
def r_Z53_4 : List GI := [ga 12 8 10 5, gs 13 12 5, gi 7 (.alloc 7 2000007 [I 0, I 0, .v (.bool false), I 0, .nul]), g0 (.sto 7 (.t 13) (some 5))]
def r_Z53_5 : List GI := [gl 14 5, gs 15 7 5, gc 16 89 [.t 15], gi 17 (.bsl 17 1 none [.v .nilIface] [(0, .t 16)]), gi 18 (.app 18 2000018 (.t 14) (.t 17) 1 16), g0 (.sto 5 (.t 18) none)]
def r_Z53_6 : List GI := [gd 19 .add 10 1, gt 10 19]
def r_Z53_7 : List GI := [gi 20 (.mkf 20 132 [.t 2, .t 5]), gt 4 20]
def dc_Z53 : DC := .seq (.z r_Z53_0) (.seq (.z r_Z53_1) (.seq (.seq (.z r_Z53_2) (.block 0 (.loop (.seq (.z r_Z53_3) (.seq (.cond (.t 11) .skip (.exit 0)) (.seq (.block 1 (.seq (.z r_Z53_4) (.reg r_Z53_5 (some [0, 0, 2, 6, 15, 31])))) (.z r_Z53_6))))))) (.seq (.z r_Z53_7) .ret)))
theorem c_Z53 : cfun Tryz.prog [] 90 = some (21, dc_Z53, [(Res.tmp 4)]) := by kernel_rfl
def r_Z37_0 : List GI := [gl 9 1, gn 10 9, gk 11 0]
def r_Z37_1 : List GI := [gb 12 .lss 11 10]
def r_Z37_2 : List GI := [ga 13 9 11 1, gl 14 13, gt 5 14]
def r_Z37_3 : List GI := [gi 6 (.mov 6 (.k .nul))]
def r_Z37_4 : List GI := [gl 15 2, gn 16 15, gk 17 0]
def r_Z37_5 : List GI := [gb 18 .lss 17 16]
def r_Z37_6 : List GI := [ga 19 15 17 1, gl 20 19, gt 8 20]
def r_Z37_7 : List GI := [gt 21 6, gt 22 8, gt 23 5, ⟨.inv 24 (.t 22) name_impl_value [.t 23], some 24, none, true⟩, gi 25 (.bsl 25 2 (some 2) [.agg [.v (.bool false), I 0]] [(0, .t 24)]), gi 26 (.app 26 2000026 (.t 21) (.t 25) 2 16), gt 6 26]
def r_Z37_8 : List GI := [gd 27 .add 17 1, gt 17 27]
def r_Z37_9 : List GI := [gt 28 0, gt 29 6, ⟨.cal 30 (.t 28) [.t 29], some 30, none, true⟩, gi 31 (.un 31 UnOp.not (.t 30))]
def r_Z37_10 : List GI := [gd 32 .add 11 1, gt 11 32]
def dc_Z37 : DC := .seq (.z r_Z37_0) (.block 0 (.loop (.seq (.z r_Z37_1) (.seq (.cond (.t 12) .skip (.exit 0)) (.seq (.block 1 (.seq (.z r_Z37_2) (.seq (.z r_Z37_3) (.seq (.seq (.z r_Z37_4) (.block 2 (.loop (.seq (.z r_Z37_5) (.seq (.cond (.t 18) .skip (.exit 2)) (.seq (.block 3 (.seq (.z r_Z37_6) (.z r_Z37_7))) (.z r_Z37_8))))))) (.seq (.z r_Z37_9) (.cond (.t 31) .ret .skip)))))) (.z r_Z37_10))))))
theorem c_Z37 : cfun Tryz.prog [] 132 = some (33, dc_Z37, []) := by kernel_rfl
def r_Z6_0 : List GI := [gi 2 (.mov 2 (.k .nul))]
def r_Z6_1 : List GI := [gk 3 0]
def r_Z6_2 : List GI := [gt 9 0, gn 10 9, gk 11 0]
def r_Z6_3 : List GI := [gb 12 .lss 11 10]
def r_Z6_4 : List GI := [ga 13 9 11 1, gl 14 13, gt 5 14]
def r_Z6_5 : List GI := [gt 15 3, gt 16 5, gn 17 16, gb 18 .add 15 17, gt 3 18]
def r_Z6_6 : List GI := [gt 19 3, gd 20 .lss 19 0]
def r_Z6_7 : List GI := [gd 22 .add 11 1, gt 11 22]
def r_Z6_8 : List GI := [gt 23 3, gc 24 171 [.k .nul, .t 23], gt 6 24]
def r_Z6_9 : List GI := [gt 25 0, gn 26 25, gk 27 0]
def r_Z6_10 : List GI := [gb 28 .lss 27 26]
def r_Z6_11 : List GI := [ga 29 25 27 1, gl 30 29, gt 8 30]
def r_Z6_12 : List GI := [gt 31 6, gt 32 8, gi 33 (.app 33 2000033 (.t 31) (.t 32) 2 16), gt 6 33]
def r_Z6_13 : List GI := [gd 34 .add 27 1, gt 27 34]
def r_Z6_14 : List GI := [gt 35 6, gt 2 35]
def dc_Z6 : DC := .seq (.z r_Z6_0) (.seq (.z r_Z6_1) (.seq (.seq (.z r_Z6_2) (.block 0 (.loop (.seq (.z r_Z6_3) (.seq (.cond (.t 12) .skip (.exit 0)) (.seq (.block 1 (.seq (.z r_Z6_4) (.seq (.z r_Z6_5) (.seq (.z r_Z6_6) (.cond (.t 20) .no .skip))))) (.z r_Z6_7))))))) (.seq (.z r_Z6_8) (.seq (.seq (.z r_Z6_9) (.block 2 (.loop (.seq (.z r_Z6_10) (.seq (.cond (.t 28) .skip (.exit 2)) (.seq (.block 3 (.seq (.z r_Z6_11) (.z r_Z6_12))) (.z r_Z6_13))))))) (.seq (.z r_Z6_14) .ret)))))
theorem c_Z6 : cfun Tryz.prog [] 135 = some (36, dc_Z6, [(Res.tmp 2)]) := by kernel_rfl
def r_Z9_0 : List GI := [gi 4 (.mov 4 (.k .nul))]
def r_Z9_1 : List GI := [gt 5 1, gd 6 .lss 5 0]
def r_Z9_2 : List GI := [gt 8 1, gt 9 0, gi 10 (.capn 10 (.t 9)), gt 11 0, gn 12 11, gb 13 .sub 10 12, gb 14 .sub 8 13, gt 1 14]
def r_Z9_3 : List GI := [gt 15 1, gd 16 .gtr 15 0]
def r_Z9_4 : List GI := [gt 17 0, gt 18 0, gi 19 (.capn 19 (.t 18)), gi 20 (.slc 20 (.t 17) none (some (.t 19)) 2), gt 21 1, gi 22 (.apm 22 2000022 (.t 20) (.t 21) 2 16 (.agg [.v (.bool false), I 0])), gt 23 0, gn 24 23, gi 25 (.slc 25 (.t 22) none (some (.t 24)) 2), gt 0 25]
def r_Z9_5 : List GI := [gt 26 0, gt 4 26]
def dc_Z9 : DC := .seq (.z r_Z9_0) (.seq (.seq (.z r_Z9_1) (.cond (.t 6) .no .skip)) (.seq (.seq (.z r_Z9_2) (.seq (.z r_Z9_3) (.cond (.t 16) (.z r_Z9_4) .skip))) (.seq (.z r_Z9_5) .ret)))
theorem c_Z9 : cfun Tryz.prog [] 171 = some (27, dc_Z9, [(Res.tmp 4)]) := by kernel_rfl
def r_Z103_0 : List GI := [gi 2 (.box 2 2000002 (.t 0) (some 2)), gi 4 (.alloc 4 2000004 [I 0, .nul])]
def r_Z103_1 : List GI := [gi 12 (.mov 12 (.k .nul)), gt 5 12]
def r_Z103_2 : List GI := [gi 13 (.mov 13 (.k .nul)), gt 6 13]
def r_Z103_3 : List GI := [gk 7 0]
def r_Z103_4 : List GI := [gt 14 7, gf 15 2 1, gl 16 15, gn 17 16, gb 18 .lss 14 17]
def r_Z103_5 : List GI := [gf 21 2 1, gl 22 21, gt 23 7, ga 24 22 23 1, gl 25 24, gt 26 1, gc 27 113 [.t 25, .t 26], gt 8 27]
def r_Z103_6 : List GI := [gk 9 0]
def r_Z103_7 : List GI := [gt 28 9, gt 29 5, gn 30 29, gb 31 .lss 28 30, gt 32 31, ⟨.mov 33 (.t 5), some 33, some (32, true), false⟩, ⟨.mov 34 (.t 9), some 34, some (32, true), false⟩, ⟨.iad 35 33 (.t 34) 1, some 35, some (32, true), false⟩, ⟨.lod 36 35 none, some 36, some (32, true), false⟩, ⟨.mov 37 (.t 8), some 37, some (32, true), false⟩, ⟨.call 38 107 [.t 36, .t 37], some 38, some (32, true), true⟩, ⟨.bin 39 .neq (.t 38) (.k (I 0)), some 39, some (32, true), false⟩, gi 40 (.pick 40 (.t 32) (.t 39) (.k (.v (.bool false))))]
def r_Z103_8 : List GI := [gt 41 9, gd 42 .add 41 1, gt 9 42]
def r_Z103_9 : List GI := [gt 43 9, gt 44 5, gn 45 44, gb 46 .eql 43 45]
def r_Z103_10 : List GI := [gt 47 5, gt 48 8, gi 49 (.bsl 49 1 none [.nul] [(0, .t 48)]), gi 50 (.app 50 2000050 (.t 47) (.t 49) 1 24), gt 5 50]
def r_Z103_11 : List GI := [gt 51 6, gi 52 (.bsl 52 1 none [I 0] [(0, .k (I 0))]), gi 53 (.app 53 2000053 (.t 51) (.t 52) 1 8), gt 6 53]
def r_Z103_12 : List GI := [gt 54 6, gt 55 9, gt 56 6, gt 57 9, ga 58 56 57 1, gl 59 58, gd 60 .add 59 1, ga 61 54 55 1, g0 (.sto 61 (.t 60) none)]
def r_Z103_13 : List GI := [gt 19 7, gd 20 .add 19 1, gt 7 20]
def r_Z103_14 : List GI := [gi 62 (.mov 62 (.k .nul)), gt 10 62]
def r_Z103_15 : List GI := [gk 11 0]
def r_Z103_16 : List GI := [gt 63 11, gt 64 5, gn 65 64, gb 66 .lss 63 65]
def r_Z103_17 : List GI := [gt 69 10, gt 70 5, gt 71 11, ga 72 70 71 1, gl 73 72, gt 74 6, gt 75 11, ga 76 74 75 1, gl 77 76, gi 78 (.build 78 [.v (.bool false), I 0] [(1, (none, .t 77))]), gi 79 (.bsl 79 2 (some 2) [.agg [.v (.bool false), I 0]] [(0, .t 78)]), gc 80 111 [.t 73, .t 79], gi 81 (.bsl 81 1 none [.nul] [(0, .t 80)]), gi 82 (.app 82 2000082 (.t 69) (.t 81) 1 24), gt 10 82]
def r_Z103_18 : List GI := [gt 67 11, gd 68 .add 67 1, gt 11 68]
def r_Z103_19 : List GI := [gt 83 1, gn 84 83, gd 85 .add 84 1, gt 86 10, gc 87 63 [.t 85, .t 86], g0 (.sto 4 (.t 87) (some 2))]
def dc_Z103 : DC := .seq (.z r_Z103_0) (.seq (.z r_Z103_1) (.seq (.z r_Z103_2) (.seq (.seq (.z r_Z103_3) (.block 0 (.loop (.seq (.seq (.z r_Z103_4) (.cond (.t 18) .skip (.exit 0))) (.seq (.block 1 (.seq (.z r_Z103_5) (.seq (.z r_Z103_6) (.seq (.block 2 (.loop (.seq (.seq (.z r_Z103_7) (.cond (.t 40) .skip (.exit 2))) (.block 3 (.z r_Z103_8))))) (.seq (.seq (.z r_Z103_9) (.cond (.t 46) (.seq (.z r_Z103_10) (.z r_Z103_11)) .skip)) (.z r_Z103_12)))))) (.z r_Z103_13)))))) (.seq (.z r_Z103_14) (.seq (.seq (.z r_Z103_15) (.block 4 (.loop (.seq (.seq (.z r_Z103_16) (.cond (.t 66) .skip (.exit 4))) (.seq (.block 5 (.reg r_Z103_17 (some [0, 0, 0, 6, 14, 0, 0, 96, 224, 480, 992, 2046, 4094, 8191, 16383]))) (.z r_Z103_18)))))) (.seq (.z r_Z103_19) .ret))))))
theorem c_Z103 : cfun Tryz.prog [] 69 = some (88, dc_Z103, [(Res.cell 4 (some 2))]) := by kernel_rfl
def r_Z148_0 : List GI := [gi 4 (.mov 4 (.k .nul))]
def r_Z148_1 : List GI := [gi 7 (.mov 7 (.k .nul)), gt 5 7]
def r_Z148_2 : List GI := [gk 6 0]
def r_Z148_3 : List GI := [gt 8 6, gt 9 1, gn 10 9, gb 11 .lss 8 10]
def r_Z148_4 : List GI := [gt 14 5, gt 15 0, gt 16 1, gt 17 6, ga 18 16 17 1, gl 19 18, ga 20 15 19 2, gs 21 20 2, gi 22 (.bsl 22 2 (some 2) [.agg [.v (.bool false), I 0]] [(0, .t 21)]), gi 23 (.app 23 2000023 (.t 14) (.t 22) 2 16), gt 5 23]
def r_Z148_5 : List GI := [gt 12 6, gd 13 .add 12 1, gt 6 13]
def r_Z148_6 : List GI := [gt 24 5, gt 4 24]
def dc_Z148 : DC := .seq (.z r_Z148_0) (.seq (.z r_Z148_1) (.seq (.seq (.z r_Z148_2) (.block 0 (.loop (.seq (.seq (.z r_Z148_3) (.cond (.t 11) .skip (.exit 0))) (.seq (.block 1 (.z r_Z148_4)) (.z r_Z148_5)))))) (.seq (.z r_Z148_6) .ret)))
theorem c_Z148 : cfun Tryz.prog [] 113 = some (25, dc_Z148, [(Res.tmp 4)]) := by kernel_rfl
def r_Z58_0 : List GI := [gi 1 (.box 1 2000001 (.t 0) none), gi 2 (.mov 2 (.k (.v .nilFunc)))]
def r_Z58_1 : List GI := [gi 3 (.mkf 3 140 [.t 1]), gt 2 3]
def dc_Z58 : DC := .seq (.z r_Z58_0) (.seq (.z r_Z58_1) .ret)
theorem c_Z58 : cfun Tryz.prog [] 96 = some (4, dc_Z58, [(Res.tmp 2)]) := by kernel_rfl
def r_Z41_0 : List GI := [gi 2 (.box 2 2000002 (.t 0) none)]
def r_Z41_1 : List GI := [gl 4 1, ⟨.call 5 141 [.t 4, .k (.fn 46 [])], some 5, none, true⟩, ⟨.call 6 74 [.t 5, .k (.fn 46 [])], some 6, none, true⟩]
def r_Z41_2 : List GI := [gt 3 7]
def r_Z41_3 : List GI := [gl 8 2, gt 9 3, gi 10 (.iad 10 9 (.k (I 0)) 1), gl 11 10, ⟨.cal 12 (.t 8) [.t 11], some 12, none, true⟩, gi 13 (.un 13 UnOp.not (.t 12))]
def dc_Z41 : DC := .seq (.z r_Z41_0) (.seq (.z r_Z41_1) (.block 0 (.rng (.t 6) [7] (.z r_Z41_2) (.block 1 (.seq (.reg r_Z41_3 (some [0, 0, 2, 6, 15, 31])) (.cond (.t 13) .ret .skip))))))
theorem c_Z41 : cfun Tryz.prog [] 140 = some (14, dc_Z41, []) := by kernel_rfl
def r_Z3_0 : List GI := [gi 2 (.mov 2 (.k .nul))]
def r_Z3_1 : List GI := [gk 3 0]
def r_Z3_2 : List GI := [gt 9 0, gn 10 9, gk 11 0]
def r_Z3_3 : List GI := [gb 12 .lss 11 10]
def r_Z3_4 : List GI := [ga 13 9 11 1, gl 14 13, gt 5 14]
def r_Z3_5 : List GI := [gt 15 3, gt 16 5, gn 17 16, gb 18 .add 15 17, gt 3 18]
def r_Z3_6 : List GI := [gt 19 3, gd 20 .lss 19 0]
def r_Z3_7 : List GI := [gd 22 .add 11 1, gt 11 22]
def r_Z3_8 : List GI := [gt 23 3, gc 24 139 [.k .nul, .t 23], gt 6 24]
def r_Z3_9 : List GI := [gt 25 0, gn 26 25, gk 27 0]
def r_Z3_10 : List GI := [gb 28 .lss 27 26]
def r_Z3_11 : List GI := [ga 29 25 27 1, gl 30 29, gt 8 30]
def r_Z3_12 : List GI := [gt 31 6, gt 32 8, gi 33 (.app 33 2000033 (.t 31) (.t 32) 1 24), gt 6 33]
def r_Z3_13 : List GI := [gd 34 .add 27 1, gt 27 34]
def r_Z3_14 : List GI := [gt 35 6, gt 2 35]
def dc_Z3 : DC := .seq (.z r_Z3_0) (.seq (.z r_Z3_1) (.seq (.seq (.z r_Z3_2) (.block 0 (.loop (.seq (.z r_Z3_3) (.seq (.cond (.t 12) .skip (.exit 0)) (.seq (.block 1 (.seq (.z r_Z3_4) (.seq (.z r_Z3_5) (.seq (.z r_Z3_6) (.cond (.t 20) .no .skip))))) (.z r_Z3_7))))))) (.seq (.z r_Z3_8) (.seq (.seq (.z r_Z3_9) (.block 2 (.loop (.seq (.z r_Z3_10) (.seq (.cond (.t 28) .skip (.exit 2)) (.seq (.block 3 (.seq (.z r_Z3_11) (.z r_Z3_12))) (.z r_Z3_13))))))) (.seq (.z r_Z3_14) .ret)))))
theorem c_Z3 : cfun Tryz.prog [] 95 = some (36, dc_Z3, [(Res.tmp 2)]) := by kernel_rfl
end
end Go.Proofs.YtibknjpbbeackaaGreat
