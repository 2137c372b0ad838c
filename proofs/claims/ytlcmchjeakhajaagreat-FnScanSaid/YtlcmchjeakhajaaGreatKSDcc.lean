/-
  Functions of the program read as code on plain data. Closed facts of the program alone.
-/
import Derived.KernelRfl
import Derived.Test.YtlcmchjeakhajaaGreatRows
import Derived.Test.YtlcmchjeakhajaaGreatJSVGo
import Derived.Test.YtlcmchjeakhajaaGreatJSVTbD
namespace Go.Proofs.YtlcmchjeakhajaaGreat
open Go.RowKit
noncomputable section
def name_impl_value : String := match Tryz.prog.info? 125 with
  | some i => ((i.methods.toList[1]?).map (fun m => m.name)).getD default
  | none => default
def r_Z85_0 : List GI := [gi 2 (.box 2 2000002 (.t 0) (some 2)), gi 3 (.box 3 2000003 (.t 1) (some 5)), gi 4 (.alloc 4 2000004 [I 0, .nul])]
def r_Z85_1 : List GI := [gi 7 (.mov 7 (.k .nul)), gt 5 7]
def r_Z85_2 : List GI := [gk 6 0]
def r_Z85_3 : List GI := [gt 8 6, gf 9 2 1, gl 10 9, gn 11 10, gb 12 .lss 8 11]
def r_Z85_4 : List GI := [gs 15 3 5, gf 16 2 1, gl 17 16, gt 18 6, ga 19 17 18 1, gl 20 19, gc 21 84 [.t 15, .t 20]]
def r_Z85_5 : List GI := [gt 22 5, gf 23 2 1, gl 24 23, gt 25 6, ga 26 24 25 1, gl 27 26, gi 28 (.bsl 28 1 none [.nul] [(0, .t 27)]), gi 29 (.app 29 2000029 (.t 22) (.t 28) 1 24), gt 5 29]
def r_Z85_6 : List GI := [gt 13 6, gd 14 .add 13 1, gt 6 14]
def r_Z85_7 : List GI := [gf 30 2 0, gl 31 30, gt 32 5, gc 33 40 [.t 31, .t 32], g0 (.sto 4 (.t 33) (some 2))]
def dc_Z85 : DC := .seq (.z r_Z85_0) (.seq (.z r_Z85_1) (.seq (.seq (.z r_Z85_2) (.block 0 (.loop (.seq (.seq (.z r_Z85_3) (.cond (.t 12) .skip (.exit 0))) (.seq (.block 1 (.seq (.reg r_Z85_4 (some [0, 0, 2, 0, 14, 30, 63])) (.cond (.t 21) (.z r_Z85_5) .skip))) (.z r_Z85_6)))))) (.seq (.z r_Z85_7) .ret)))
theorem c_Z85 : cfun Tryz.prog [] 41 = some (34, dc_Z85, [(Res.cell 4 (some 2))]) := by kernel_rfl
def r_Z165_0 : List GI := [gi 2 (.box 2 2000002 (.t 0) (some 5)), gi 4 (.mov 4 (.k (.v (.bool false))))]
def r_Z165_1 : List GI := [gs 5 2 5, gt 6 1, gc 7 85 [.t 5, .t 6], gc 8 130 [.t 7], gd 9 .eql 8 1, gt 4 9]
def dc_Z165 : DC := .seq (.z r_Z165_0) (.seq (.z r_Z165_1) .ret)
theorem c_Z165 : cfun Tryz.prog [] 84 = some (10, dc_Z165, [(Res.tmp 4)]) := by kernel_rfl
def r_Z107_0 : List GI := [gi 2 (.box 2 2000002 (.t 0) (some 5)), gi 4 (.mov 4 (.k (.v (.bool false))))]
def r_Z107_1 : List GI := [gt 5 1, gc 6 54 [.t 5], gt 7 6, ⟨.lod 8 2 (some 5), some 8, some (7, true), false⟩, ⟨.mov 9 (.t 1), some 9, some (7, true), false⟩, ⟨.call 10 140 [.t 8, .t 9, .k (I 8)], some 10, some (7, true), true⟩, gi 11 (.pick 11 (.t 7) (.t 10) (.k (.v (.bool false)))), gt 4 11]
def dc_Z107 : DC := .seq (.z r_Z107_0) (.seq (.z r_Z107_1) .ret)
theorem c_Z107 : cfun Tryz.prog [] 97 = some (12, dc_Z107, [(Res.tmp 4)]) := by kernel_rfl
def r_Z127_0 : List GI := [gk 2 0]
def r_Z127_1 : List GI := [gt 4 0, gd 5 .eql 4 1, gt 6 5, ⟨.mov 7 (.t 0), some 7, some (6, false), false⟩, ⟨.bin 8 .eql (.t 7) (.k (I 2)), some 8, some (6, false), false⟩, gi 9 (.pick 9 (.t 6) (.k (.v (.bool true))) (.t 8)), gt 3 9]
def r_Z127_2 : List GI := [gk 2 0]
def r_Z127_3 : List GI := [gt 11 0, gd 12 .eql 11 10, gt 13 12, ⟨.mov 14 (.t 0), some 14, some (13, false), false⟩, ⟨.bin 15 .eql (.t 14) (.k (I 11)), some 15, some (13, false), false⟩, gi 16 (.pick 16 (.t 13) (.k (.v (.bool true))) (.t 15)), gt 10 16]
def r_Z127_4 : List GI := [gk 2 1]
def r_Z127_5 : List GI := [gt 18 0, gi 19 (.bin 19 .leq (.k (I 3)) (.t 18)), gt 20 19, ⟨.mov 21 (.t 0), some 21, some (20, true), false⟩, ⟨.bin 22 .leq (.t 21) (.k (I 9)), some 22, some (20, true), false⟩, gi 23 (.pick 23 (.t 20) (.t 22) (.k (.v (.bool false)))), gt 17 23]
def r_Z127_6 : List GI := [gk 2 2]
def r_Z127_7 : List GI := [gi 2 (.mov 2 (.k (.v (.int .i64 (-1)))))]
def dc_Z127 : DC := .seq (.z r_Z127_0) (.seq (.block 0 (.seq (.z r_Z127_1) (.cond (.t 3) (.seq (.z r_Z127_2) .ret) (.seq (.z r_Z127_3) (.cond (.t 10) (.seq (.z r_Z127_4) .ret) (.seq (.z r_Z127_5) (.cond (.t 17) (.seq (.z r_Z127_6) .ret) .skip))))))) (.seq (.z r_Z127_7) .ret))
theorem c_Z127 : cfun Tryz.prog [] 156 = some (24, dc_Z127, [(Res.tmp 2)]) := by kernel_rfl
def r_Z81_0 : List GI := [gi 3 (.box 3 2000003 (.t 0) (some 5)), gi 6 (.mov 6 (.k (.v (.bool false))))]
def r_Z81_1 : List GI := [gt 9 2, gd 10 .lss 9 0, gt 11 10, ⟨.fad 12 3 4, some 12, some (11, false), false⟩, ⟨.lod 13 12 none, some 13, some (11, false), false⟩, ⟨.len 14 (.t 13), some 14, some (11, false), false⟩, ⟨.fad 15 3 0, some 15, some (11, false), false⟩, ⟨.lod 16 15 none, some 16, some (11, false), false⟩, ⟨.call 17 156 [.t 16], some 17, some (11, false), true⟩, ⟨.bin 18 .neq (.t 14) (.t 17), some 18, some (11, false), false⟩, gi 19 (.pick 19 (.t 11) (.k (.v (.bool true))) (.t 18))]
def r_Z81_2 : List GI := [gi 6 (.mov 6 (.k (.v (.bool false))))]
def r_Z81_3 : List GI := [gf 20 3 0, gl 21 20]
def r_Z81_4 : List GI := [gd 23 .eql 21 1, gt 22 23]
def r_Z81_5 : List GI := [gf 24 3 1, gl 25 24, gt 26 1, gc 27 157 [.t 25, .t 26], gt 28 27, ⟨.fad 29 3 2, some 29, some (28, true), false⟩, ⟨.lod 30 29 (some 2), some 30, some (28, true), false⟩, ⟨.build 31 [.v (.bool false), I 0] [], some 31, some (28, true), false⟩, ⟨.eqs 32 false [false, true] (.t 30) (.t 31), some 32, some (28, true), false⟩, gi 33 (.pick 33 (.t 28) (.t 32) (.k (.v (.bool false)))), gt 6 33]
def r_Z81_6 : List GI := [gd 35 .eql 21 2, gt 34 35]
def r_Z81_7 : List GI := [gf 36 3 1, gl 37 36, gd 38 .eql 37 0, gt 39 38, ⟨.fad 40 3 2, some 40, some (39, true), false⟩, ⟨.lod 41 40 (some 2), some 41, some (39, true), false⟩, ⟨.call 42 158 [.t 41], some 42, some (39, true), true⟩, gi 43 (.pick 43 (.t 39) (.t 42) (.k (.v (.bool false)))), gt 6 43]
def r_Z81_8 : List GI := [gf 44 3 1, gl 45 44, gd 46 .neq 45 0, gt 47 46, ⟨.fad 48 3 2, some 48, some (47, false), false⟩, ⟨.lod 49 48 (some 2), some 49, some (47, false), false⟩, ⟨.build 50 [.v (.bool false), I 0] [], some 50, some (47, false), false⟩, ⟨.eqs 51 true [false, true] (.t 49) (.t 50), some 51, some (47, false), false⟩, gi 52 (.pick 52 (.t 47) (.k (.v (.bool true))) (.t 51))]
def r_Z81_9 : List GI := [gi 6 (.mov 6 (.k (.v (.bool false))))]
def r_Z81_10 : List GI := [gf 53 3 4, gl 54 53, gn 55 54, gk 56 0]
def r_Z81_11 : List GI := [gb 57 .lss 56 55]
def r_Z81_12 : List GI := [ga 58 54 56 5, gs 59 58 5, gi 8 (.alloc 8 2000008 [I 0, I 0, .v (.bool false), I 0, .nul]), g0 (.sto 8 (.t 59) (some 5))]
def r_Z81_13 : List GI := [gs 60 8 5, gt 61 1, gt 62 2, gd 63 .sub 62 1, gc 64 140 [.t 60, .t 61, .t 63], gi 65 (.un 65 UnOp.not (.t 64))]
def r_Z81_14 : List GI := [gi 6 (.mov 6 (.k (.v (.bool false))))]
def r_Z81_15 : List GI := [gd 66 .add 56 1, gt 56 66]
def r_Z81_16 : List GI := [gi 6 (.mov 6 (.k (.v (.bool true))))]
def dc_Z81 : DC := .seq (.z r_Z81_0) (.seq (.seq (.reg r_Z81_1 (some [0, 1, 3, 7, 15, 31, 7, 71, 199, 511, 1023])) (.cond (.t 19) (.seq (.z r_Z81_2) .ret) .skip)) (.seq (.seq (.z r_Z81_3) (.block 0 (.seq (.z r_Z81_4) (.cond (.t 22) (.seq (.z r_Z81_5) .ret) (.seq (.z r_Z81_6) (.cond (.t 34) (.seq (.z r_Z81_7) .ret) .skip)))))) (.seq (.seq (.z r_Z81_8) (.cond (.t 52) (.seq (.z r_Z81_9) .ret) .skip)) (.seq (.seq (.z r_Z81_10) (.block 1 (.loop (.seq (.z r_Z81_11) (.seq (.cond (.t 57) .skip (.exit 1)) (.seq (.block 2 (.seq (.z r_Z81_12) (.seq (.z r_Z81_13) (.cond (.t 65) (.seq (.z r_Z81_14) .ret) .skip)))) (.z r_Z81_15))))))) (.seq (.z r_Z81_16) .ret)))))
theorem c_Z81 : cfun Tryz.prog [] 140 = some (67, dc_Z81, [(Res.tmp 6)]) := by kernel_rfl
def r_Z70_0 : List GI := [gi 1 (.box 1 2000001 (.t 0) (some 2)), gk 2 0]
def r_Z70_1 : List GI := [gf 4 1 0, gl 5 4, gt 3 5]
def r_Z70_2 : List GI := [gk 2 1]
def r_Z70_3 : List GI := [gf 7 1 1, gl 8 7, gd 9 .eql 8 0, gt 6 9]
def r_Z70_4 : List GI := [gk 2 0]
def r_Z70_5 : List GI := [gk 2 2]
def dc_Z70 : DC := .seq (.z r_Z70_0) (.seq (.block 0 (.seq (.z r_Z70_1) (.cond (.t 3) (.seq (.z r_Z70_2) .ret) (.seq (.z r_Z70_3) (.cond (.t 6) (.seq (.z r_Z70_4) .ret) .skip))))) (.seq (.z r_Z70_5) .ret))
theorem c_Z70 : cfun Tryz.prog [] 100 = some (10, dc_Z70, [(Res.tmp 2)]) := by kernel_rfl
def r_Z45_0 : List GI := [gi 2 (.box 2 2000002 (.t 0) (some 2)), gi 4 (.alloc 4 2000004 [.v (.bool false), I 0])]
def r_Z45_1 : List GI := [gf 8 2 0, gs 9 8 2, gt 10 1, gc 11 205 [.t 9, .t 10], gt 7 11, gi 12 (.ext 12 7 0), gi 13 (.ext 13 7 1), gt 5 12, gt 6 13]
def r_Z45_2 : List GI := [gt 14 5, gt 15 6, gi 16 (.mm 16 false (.t 14) (.t 15)), gc 17 184 [.t 16], g0 (.sto 4 (.t 17) (some 2))]
def dc_Z45 : DC := .seq (.z r_Z45_0) (.seq (.z r_Z45_1) (.seq (.z r_Z45_2) .ret))
theorem c_Z45 : cfun Tryz.prog [] 204 = some (18, dc_Z45, [(Res.cell 4 (some 2))]) := by kernel_rfl
def r_Z28_0 : List GI := [gi 2 (.box 2 2000002 (.t 0) (some 1)), gi 4 (.alloc 4 2000004 [.v (.bool false), I 0])]
def r_Z28_1 : List GI := [gt 5 1, gf 6 2 0, gl 7 6, ga 8 5 7 2, gs 9 8 2, g0 (.sto 4 (.t 9) (some 2))]
def dc_Z28 : DC := .seq (.z r_Z28_0) (.seq (.z r_Z28_1) .ret)
theorem c_Z28 : cfun Tryz.prog [] 185 = some (10, dc_Z28, [(Res.cell 4 (some 2))]) := by kernel_rfl
def r_Z24_0 : List GI := [gi 2 (.box 2 2000002 (.t 0) (some 2)), gi 4 (.alloc 4 2000004 [.v (.bool false), I 0])]
def r_Z24_1 : List GI := [gf 5 2 0, gs 6 5 2, g0 (.sto 4 (.t 6) (some 2))]
def dc_Z24 : DC := .seq (.z r_Z24_0) (.seq (.z r_Z24_1) .ret)
theorem c_Z24 : cfun Tryz.prog [] 186 = some (7, dc_Z24, [(Res.cell 4 (some 2))]) := by kernel_rfl
def r_Z22_0 : List GI := [gi 2 (.box 2 2000002 (.t 0) (some 2)), gi 4 (.alloc 4 2000004 [.v (.bool false), I 0])]
def r_Z22_1 : List GI := [gf 5 2 0, gs 6 5 2, gt 7 1, ⟨.call 8 192 [.t 6, .t 7, .k (.fn 196 [])], some 8, none, true⟩, g0 (.sto 4 (.t 8) (some 2))]
def dc_Z22 : DC := .seq (.z r_Z22_0) (.seq (.z r_Z22_1) .ret)
theorem c_Z22 : cfun Tryz.prog [] 195 = some (9, dc_Z22, [(Res.cell 4 (some 2))]) := by kernel_rfl
def r_Z20_0 : List GI := [gk 4 0]
def r_Z20_1 : List GI := [gt 5 0, gt 6 1, gb 7 .sub 5 6, gt 4 7]
def dc_Z20 : DC := .seq (.z r_Z20_0) (.seq (.z r_Z20_1) .ret)
theorem c_Z20 : cfun Tryz.prog [] 196 = some (8, dc_Z20, [(Res.tmp 4)]) := by kernel_rfl
def r_Z30_0 : List GI := [gi 2 (.box 2 2000002 (.t 0) (some 2)), gi 4 (.alloc 4 2000004 [.v (.bool false), I 0])]
def r_Z30_1 : List GI := [gf 5 2 0, gs 6 5 2, gt 7 1, ⟨.call 8 200 [.t 6, .t 7, .k (.fn 201 [])], some 8, none, true⟩, g0 (.sto 4 (.t 8) (some 2))]
def dc_Z30 : DC := .seq (.z r_Z30_0) (.seq (.z r_Z30_1) .ret)
theorem c_Z30 : cfun Tryz.prog [] 199 = some (9, dc_Z30, [(Res.cell 4 (some 2))]) := by kernel_rfl
def r_Z25_0 : List GI := [gi 4 (.mov 4 (.k (.v (.bool false))))]
def r_Z25_1 : List GI := [gt 5 0, gt 6 1, gb 7 .eql 5 6, gt 4 7]
def dc_Z25 : DC := .seq (.z r_Z25_0) (.seq (.z r_Z25_1) .ret)
theorem c_Z25 : cfun Tryz.prog [] 201 = some (8, dc_Z25, [(Res.tmp 4)]) := by kernel_rfl
def r_Z40_0 : List GI := [gi 2 (.box 2 2000002 (.t 0) (some 2)), gi 4 (.alloc 4 2000004 [.v (.bool false), I 0])]
def r_Z40_1 : List GI := [gf 5 2 0, gs 6 5 2, gt 7 1, ⟨.call 8 200 [.t 6, .t 7, .k (.fn 203 [])], some 8, none, true⟩, g0 (.sto 4 (.t 8) (some 2))]
def dc_Z40 : DC := .seq (.z r_Z40_0) (.seq (.z r_Z40_1) .ret)
theorem c_Z40 : cfun Tryz.prog [] 202 = some (9, dc_Z40, [(Res.cell 4 (some 2))]) := by kernel_rfl
def r_Z29_0 : List GI := [gi 4 (.mov 4 (.k (.v (.bool false))))]
def r_Z29_1 : List GI := [gt 5 0, gt 6 1, gb 7 .lss 5 6, gt 4 7]
def dc_Z29 : DC := .seq (.z r_Z29_0) (.seq (.z r_Z29_1) .ret)
theorem c_Z29 : cfun Tryz.prog [] 203 = some (8, dc_Z29, [(Res.tmp 4)]) := by kernel_rfl
def r_Z48_0 : List GI := [gi 2 (.box 2 2000002 (.t 0) (some 1)), gi 4 (.alloc 4 2000004 [.v (.bool false), I 0])]
def r_Z48_1 : List GI := [gf 5 2 0, gl 6 5, gt 7 1, ⟨.inv 8 (.t 6) name_impl_value [.t 7], some 8, none, true⟩, gc 9 100 [.t 8], gc 10 183 [.t 9], gc 11 184 [.t 10], g0 (.sto 4 (.t 11) (some 2))]
def dc_Z48 : DC := .seq (.z r_Z48_0) (.seq (.z r_Z48_1) .ret)
theorem c_Z48 : cfun Tryz.prog [] 187 = some (12, dc_Z48, [(Res.cell 4 (some 2))]) := by kernel_rfl
def r_Z41_0 : List GI := [gi 2 (.box 2 2000002 (.t 0) (some 1)), gi 4 (.alloc 4 2000004 [.v (.bool false), I 0])]
def r_Z41_1 : List GI := [gf 5 2 0, gl 6 5, gt 7 1, ⟨.inv 8 (.t 6) name_impl_value [.t 7], some 8, none, true⟩, gi 9 (.fld 9 (.t 8) 0 none), gc 10 189 [.t 9], gc 11 184 [.t 10], g0 (.sto 4 (.t 11) (some 2))]
def dc_Z41 : DC := .seq (.z r_Z41_0) (.seq (.z r_Z41_1) .ret)
theorem c_Z41 : cfun Tryz.prog [] 188 = some (12, dc_Z41, [(Res.cell 4 (some 2))]) := by kernel_rfl
def r_Z60_0 : List GI := [gi 2 (.box 2 2000002 (.t 0) (some 2)), gi 4 (.alloc 4 2000004 [.v (.bool false), I 0])]
def r_Z60_1 : List GI := [gf 8 2 0, gs 9 8 2, gt 10 1, gc 11 205 [.t 9, .t 10], gt 7 11, gi 12 (.ext 12 7 0), gi 13 (.ext 13 7 1), gt 5 12, gt 6 13]
def r_Z60_2 : List GI := [gt 14 5, gt 15 6, gi 16 (.mm 16 true (.t 14) (.t 15)), gc 17 184 [.t 16], g0 (.sto 4 (.t 17) (some 2))]
def dc_Z60 : DC := .seq (.z r_Z60_0) (.seq (.z r_Z60_1) (.seq (.z r_Z60_2) .ret))
theorem c_Z60 : cfun Tryz.prog [] 206 = some (18, dc_Z60, [(Res.cell 4 (some 2))]) := by kernel_rfl
def r_Z128_0 : List GI := [gi 3 (.box 3 2000003 (.t 1) (some 2)), gi 4 (.mov 4 (.k (.v .nilIface)))]
def r_Z128_1 : List GI := [gt 5 0]
def r_Z128_2 : List GI := [gd 7 .eql 5 3, gt 6 7]
def r_Z128_3 : List GI := [gs 8 3 2, gi 9 (.build 9 [.v .nilIface, .v .nilIface] [(0, (some 2, .t 8))]), gi 10 (.ifc 10 169 (.t 9)), gt 4 10]
def r_Z128_4 : List GI := [gd 12 .eql 5 4, gt 11 12]
def r_Z128_5 : List GI := [gs 13 3 2, gi 14 (.build 14 [.v .nilIface, .v .nilIface] [(0, (some 2, .t 13))]), gi 15 (.ifc 15 170 (.t 14)), gt 4 15]
def r_Z128_6 : List GI := [gd 17 .eql 5 5, gt 16 17]
def r_Z128_7 : List GI := [gs 18 3 2, gi 19 (.build 19 [.v .nilIface, .v .nilIface] [(0, (some 2, .t 18))]), gi 20 (.ifc 20 171 (.t 19)), gt 4 20]
def r_Z128_8 : List GI := [gd 22 .eql 5 6, gt 21 22]
def r_Z128_9 : List GI := [gs 23 3 2, gi 24 (.build 24 [.v .nilIface, .v .nilIface] [(0, (some 2, .t 23))]), gi 25 (.ifc 25 172 (.t 24)), gt 4 25]
def r_Z128_10 : List GI := [gd 27 .eql 5 7, gt 26 27]
def r_Z128_11 : List GI := [gs 28 3 2, gi 29 (.build 29 [.v .nilIface, .v .nilIface] [(0, (some 2, .t 28))]), gi 30 (.ifc 30 173 (.t 29)), gt 4 30]
def r_Z128_12 : List GI := [gd 32 .eql 5 8, gt 31 32]
def r_Z128_13 : List GI := [gs 33 3 2, gi 34 (.build 34 [.v .nilIface, .v .nilIface] [(0, (some 2, .t 33))]), gi 35 (.ifc 35 174 (.t 34)), gt 4 35]
def r_Z128_14 : List GI := [gs 36 3 2, gi 37 (.build 37 [.v .nilIface, .v .nilIface] [(0, (some 2, .t 36))]), gi 38 (.ifc 38 175 (.t 37)), gt 4 38]
def dc_Z128 : DC := .seq (.z r_Z128_0) (.seq (.seq (.z r_Z128_1) (.block 0 (.seq (.z r_Z128_2) (.cond (.t 6) (.seq (.z r_Z128_3) .ret) (.seq (.z r_Z128_4) (.cond (.t 11) (.seq (.z r_Z128_5) .ret) (.seq (.z r_Z128_6) (.cond (.t 16) (.seq (.z r_Z128_7) .ret) (.seq (.z r_Z128_8) (.cond (.t 21) (.seq (.z r_Z128_9) .ret) (.seq (.z r_Z128_10) (.cond (.t 26) (.seq (.z r_Z128_11) .ret) (.seq (.z r_Z128_12) (.cond (.t 31) (.seq (.z r_Z128_13) .ret) .skip)))))))))))))) (.seq (.z r_Z128_14) .ret))
theorem c_Z128 : cfun Tryz.prog [] 101 = some (39, dc_Z128, [(Res.tmp 4)]) := by kernel_rfl
def r_Z32_0 : List GI := [gi 3 (.box 3 2000003 (.t 0) (some 2)), gi 6 (.alloc 6 2000006 [.v (.bool false), I 0])]
def r_Z32_1 : List GI := [gs 11 3 2, gt 12 1, gc 13 190 [.t 11, .t 12], gt 10 13, gi 14 (.ext 14 10 0), gi 15 (.ext 15 10 1), gi 16 (.ext 16 10 2), gt 7 14, gt 8 15, gt 9 16]
def r_Z32_2 : List GI := [gt 17 9]
def r_Z32_3 : List GI := [gt 18 2, gt 19 7, gt 20 8, ⟨.cal 21 (.t 18) [.t 19, .t 20], some 21, none, true⟩, gc 22 194 [.t 21], g0 (.sto 6 (.t 22) (some 2))]
def r_Z32_4 : List GI := [gi 23 (.build 23 [.v (.bool false), I 0] [(0, (none, .k (.v (.bool true))))]), g0 (.sto 6 (.t 23) (some 2))]
def dc_Z32 : DC := .seq (.z r_Z32_0) (.seq (.seq (.z r_Z32_1) (.seq (.z r_Z32_2) (.cond (.t 17) (.seq (.z r_Z32_3) .ret) .skip))) (.seq (.z r_Z32_4) .ret))
theorem c_Z32 : cfun Tryz.prog [] 192 = some (24, dc_Z32, [(Res.cell 6 (some 2))]) := by kernel_rfl
def r_Z33_0 : List GI := [gi 3 (.box 3 2000003 (.t 0) (some 2)), gi 6 (.alloc 6 2000006 [.v (.bool false), I 0])]
def r_Z33_1 : List GI := [gs 11 3 2, gt 12 1, gc 13 190 [.t 11, .t 12], gt 10 13, gi 14 (.ext 14 10 0), gi 15 (.ext 15 10 1), gi 16 (.ext 16 10 2), gt 7 14, gt 8 15, gt 9 16]
def r_Z33_2 : List GI := [gt 17 9]
def r_Z33_3 : List GI := [gt 18 2, gt 19 7, gt 20 8, ⟨.cal 21 (.t 18) [.t 19, .t 20], some 21, none, true⟩, gc 22 189 [.t 21], gc 23 184 [.t 22], g0 (.sto 6 (.t 23) (some 2))]
def r_Z33_4 : List GI := [gi 24 (.build 24 [.v (.bool false), I 0] [(0, (none, .k (.v (.bool true))))]), g0 (.sto 6 (.t 24) (some 2))]
def dc_Z33 : DC := .seq (.z r_Z33_0) (.seq (.seq (.z r_Z33_1) (.seq (.z r_Z33_2) (.cond (.t 17) (.seq (.z r_Z33_3) .ret) .skip))) (.seq (.z r_Z33_4) .ret))
theorem c_Z33 : cfun Tryz.prog [] 200 = some (25, dc_Z33, [(Res.cell 6 (some 2))]) := by kernel_rfl
def r_Z61_0 : List GI := [gi 2 (.box 2 2000002 (.t 0) (some 2)), gk 4 0, gk 5 0, gi 6 (.mov 6 (.k (.v (.bool false))))]
def r_Z61_1 : List GI := [gf 9 2 0, gl 10 9, gt 11 1, ⟨.inv 12 (.t 10) name_impl_value [.t 11], some 12, none, true⟩, gf 13 2 1, gl 14 13, gt 15 1, ⟨.inv 16 (.t 14) name_impl_value [.t 15], some 16, none, true⟩, gi 7 (.alloc 7 2000007 [.v (.bool false), I 0]), gi 8 (.alloc 8 2000008 [.v (.bool false), I 0]), g0 (.sto 7 (.t 12) (some 2)), g0 (.sto 8 (.t 16) (some 2))]
def r_Z61_2 : List GI := [gf 17 7 1, gl 18 17, gf 19 8 1, gl 20 19, gf 21 7 0, gl 22 21, gi 23 (.un 23 UnOp.not (.t 22)), gt 24 23, ⟨.fad 25 8 0, some 25, some (24, true), false⟩, ⟨.lod 26 25 none, some 26, some (24, true), false⟩, ⟨.un 27 UnOp.not (.t 26), some 27, some (24, true), false⟩, gi 28 (.pick 28 (.t 24) (.t 27) (.k (.v (.bool false)))), gt 4 18, gt 5 20, gt 6 28]
def dc_Z61 : DC := .seq (.z r_Z61_0) (.seq (.reg r_Z61_1 (some [0, 1, 0, 7, 0, 16, 0, 127, 0, 0, 1023, 2047])) (.seq (.reg r_Z61_2 (some [0, 1, 0, 4, 0, 16, 48, 112, 240, 496, 1008, 2032, 243, 4351, 16383])) .ret))
theorem c_Z61 : cfun Tryz.prog [] 190 = some (29, dc_Z61, [(Res.tmp 4), (Res.tmp 5), (Res.tmp 6)]) := by kernel_rfl
def r_Z75_0 : List GI := [gi 2 (.box 2 2000002 (.t 0) (some 2)), gk 4 0, gk 5 0]
def r_Z75_1 : List GI := [gf 6 2 0, gl 7 6, gt 8 1, ⟨.inv 9 (.t 7) name_impl_value [.t 8], some 9, none, true⟩, gc 10 100 [.t 9], gf 11 2 1, gl 12 11, gt 13 1, ⟨.inv 14 (.t 12) name_impl_value [.t 13], some 14, none, true⟩, gc 15 100 [.t 14], gt 4 10, gt 5 15]
def dc_Z75 : DC := .seq (.z r_Z75_0) (.seq (.reg r_Z75_1 (some [0, 1, 0, 7, 15, 0, 32, 0, 255, 511, 1023, 2047])) .ret)
theorem c_Z75 : cfun Tryz.prog [] 205 = some (16, dc_Z75, [(Res.tmp 4), (Res.tmp 5)]) := by kernel_rfl
def r_Z27_0 : List GI := [gi 2 (.box 2 2000002 (.t 0) (some 2)), gi 4 (.alloc 4 2000004 [.v (.bool false), I 0])]
def r_Z27_1 : List GI := [gf 5 2 0, gs 6 5 2, gt 7 1, ⟨.call 8 192 [.t 6, .t 7, .k (.fn 198 [])], some 8, none, true⟩, g0 (.sto 4 (.t 8) (some 2))]
def dc_Z27 : DC := .seq (.z r_Z27_0) (.seq (.z r_Z27_1) .ret)
theorem c_Z27 : cfun Tryz.prog [] 197 = some (9, dc_Z27, [(Res.cell 4 (some 2))]) := by kernel_rfl
def r_Z23_0 : List GI := [gk 4 0]
def r_Z23_1 : List GI := [gt 5 0, gt 6 1, gb 7 .mul 5 6, gt 4 7]
def dc_Z23 : DC := .seq (.z r_Z23_0) (.seq (.z r_Z23_1) .ret)
theorem c_Z23 : cfun Tryz.prog [] 198 = some (8, dc_Z23, [(Res.tmp 4)]) := by kernel_rfl
def r_Z50_0 : List GI := [gi 2 (.box 2 2000002 (.t 0) (some 2)), gi 4 (.alloc 4 2000004 [.v (.bool false), I 0])]
def r_Z50_1 : List GI := [gf 5 2 0, gs 6 5 2, gt 7 1, ⟨.call 8 192 [.t 6, .t 7, .k (.fn 193 [])], some 8, none, true⟩, g0 (.sto 4 (.t 8) (some 2))]
def dc_Z50 : DC := .seq (.z r_Z50_0) (.seq (.z r_Z50_1) .ret)
theorem c_Z50 : cfun Tryz.prog [] 191 = some (9, dc_Z50, [(Res.cell 4 (some 2))]) := by kernel_rfl
def r_Z35_0 : List GI := [gk 4 0]
def r_Z35_1 : List GI := [gt 5 0, gt 6 1, gb 7 .add 5 6, gt 4 7]
def dc_Z35 : DC := .seq (.z r_Z35_0) (.seq (.z r_Z35_1) .ret)
theorem c_Z35 : cfun Tryz.prog [] 193 = some (8, dc_Z35, [(Res.tmp 4)]) := by kernel_rfl
def r_Z158_0 : List GI := [gi 1 (.box 1 2000001 (.t 0) (some 5)), gi 2 (.mov 2 (.k (.v .nilIface)))]
def r_Z158_1 : List GI := [gf 3 1 0, gl 4 3]
def r_Z158_2 : List GI := [gd 6 .eql 4 1, gt 5 6]
def r_Z158_3 : List GI := [gf 7 1 1, gl 8 7, gi 9 (.build 9 [I 0] [(0, (none, .t 8))]), gi 10 (.ifc 10 129 (.t 9)), gt 2 10]
def r_Z158_4 : List GI := [gd 12 .eql 4 2, gt 11 12]
def r_Z158_5 : List GI := [gf 13 1 2, gs 14 13 2, gi 15 (.build 15 [.v (.bool false), I 0] [(0, (some 2, .t 14))]), gi 16 (.ifc 16 131 (.t 15)), gt 2 16]
def r_Z158_6 : List GI := [gd 18 .eql 4 10, gt 17 18]
def r_Z158_7 : List GI := [gf 19 1 4, gl 20 19, gi 21 (.iad 21 20 (.k (I 0)) 5), gs 22 21 5, gc 23 63 [.t 22], gi 24 (.build 24 [.v .nilIface] [(0, (none, .t 23))]), gi 25 (.ifc 25 133 (.t 24)), gt 2 25]
def r_Z158_8 : List GI := [gd 27 .eql 4 11, gt 26 27]
def r_Z158_9 : List GI := [gf 28 1 4, gl 29 28, gi 30 (.iad 30 29 (.k (I 0)) 5), gs 31 30 5, gc 32 63 [.t 31], gi 33 (.build 33 [.v .nilIface] [(0, (none, .t 32))]), gi 34 (.ifc 34 134 (.t 33)), gt 2 34]
def r_Z158_10 : List GI := [gf 35 1 0, gl 36 35, gf 37 1 4, gl 38 37, gi 39 (.iad 39 38 (.k (I 0)) 5), gs 40 39 5, gc 41 63 [.t 40], gf 42 1 4, gl 43 42, gi 44 (.iad 44 43 (.k (I 1)) 5), gs 45 44 5, gc 46 63 [.t 45], gi 47 (.build 47 [.v .nilIface, .v .nilIface] [(0, (none, .t 41)), (1, (none, .t 46))]), gc 48 101 [.t 36, .t 47], gt 2 48]
def dc_Z158 : DC := .seq (.z r_Z158_0) (.seq (.seq (.z r_Z158_1) (.block 0 (.seq (.z r_Z158_2) (.cond (.t 5) (.seq (.z r_Z158_3) .ret) (.seq (.z r_Z158_4) (.cond (.t 11) (.seq (.z r_Z158_5) .ret) (.seq (.z r_Z158_6) (.cond (.t 17) (.seq (.z r_Z158_7) .ret) (.seq (.z r_Z158_8) (.cond (.t 26) (.seq (.z r_Z158_9) .ret) .skip)))))))))) (.seq (.reg r_Z158_10 (some [0, 1, 0, 4, 12, 28, 60, 0, 128, 384, 896, 2044, 4092, 8191, 16383])) .ret))
theorem c_Z158 : cfun Tryz.prog [] 63 = some (49, dc_Z158, [(Res.tmp 2)]) := by kernel_rfl
def r_Z149_0 : List GI := [gk 2 0]
def r_Z149_1 : List GI := [gt 3 0]
def r_Z149_2 : List GI := [gk 2 2]
def r_Z149_3 : List GI := [gk 2 0]
def dc_Z149 : DC := .seq (.z r_Z149_0) (.seq (.seq (.z r_Z149_1) (.cond (.t 3) (.seq (.z r_Z149_2) .ret) .skip)) (.seq (.z r_Z149_3) .ret))
theorem c_Z149 : cfun Tryz.prog [] 189 = some (4, dc_Z149, [(Res.tmp 2)]) := by kernel_rfl
def r_Z110_0 : List GI := [gk 2 0]
def r_Z110_1 : List GI := [gt 3 0, gi 4 (.bin 4 .sub (.k (I 2)) (.t 3)), gt 2 4]
def dc_Z110 : DC := .seq (.z r_Z110_0) (.seq (.z r_Z110_1) .ret)
theorem c_Z110 : cfun Tryz.prog [] 183 = some (5, dc_Z110, [(Res.tmp 2)]) := by kernel_rfl
def r_Z78_0 : List GI := [gi 2 (.alloc 2 2000002 [.v (.bool false), I 0])]
def r_Z78_1 : List GI := [gt 3 0]
def r_Z78_2 : List GI := [gd 5 .eql 3 0, gt 4 5]
def r_Z78_3 : List GI := [gi 6 (.build 6 [.v (.bool false), I 0] [(1, (none, .k (I 0)))]), g0 (.sto 2 (.t 6) (some 2))]
def r_Z78_4 : List GI := [gd 8 .eql 3 2, gt 7 8]
def r_Z78_5 : List GI := [gi 9 (.build 9 [.v (.bool false), I 0] [(1, (none, .k (I 1)))]), g0 (.sto 2 (.t 9) (some 2))]
def r_Z78_6 : List GI := [gi 10 (.build 10 [.v (.bool false), I 0] [(0, (none, .k (.v (.bool true))))]), g0 (.sto 2 (.t 10) (some 2))]
def dc_Z78 : DC := .seq (.z r_Z78_0) (.seq (.seq (.z r_Z78_1) (.block 0 (.seq (.z r_Z78_2) (.cond (.t 4) (.seq (.z r_Z78_3) .ret) (.seq (.z r_Z78_4) (.cond (.t 7) (.seq (.z r_Z78_5) .ret) .skip)))))) (.seq (.z r_Z78_6) .ret))
theorem c_Z78 : cfun Tryz.prog [] 184 = some (11, dc_Z78, [(Res.cell 2 (some 2))]) := by kernel_rfl
end
end Go.Proofs.YtlcmchjeakhajaaGreat
