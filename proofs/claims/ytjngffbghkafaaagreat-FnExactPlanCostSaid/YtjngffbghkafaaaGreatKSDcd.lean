/-
  Functions of the program read as code on plain data. Closed facts of the program alone.
-/
import Derived.KernelRfl
import Derived.Test.YtjngffbghkafaaaGreatRows
import Derived.Test.YtjngffbghkafaaaGreatJSVGo
import Derived.Test.YtjngffbghkafaaaGreatJSVGi
namespace Go.Proofs.YtjngffbghkafaaaGreat
open Go.RowKit
noncomputable section
def name_impl_value : String:=match Tryz.prog.info? 222 with
 | some i=>((i.methods.toList[1]?).map (fun m=>m.name)).getD default
 | none=>default
def r_Z24_0 : List GI:=[gi 2 (.box 2 2000002 (.t 0) (some 2)),gi 4 (.alloc 4 2000004 [.v (.bool false),I 0])]
def r_Z24_1 : List GI:=[gf 5 2 0,gs 6 5 2,gt 7 1,⟨.call 8 312 [.t 6,.t 7,.k (.fn 316 [])],some 8,none,true⟩,g0 (.sto 4 (.t 8) (some 2))]
def dc_Z24 : DC:=.seq (.z r_Z24_0) (.seq (.z r_Z24_1) .ret)
theorem c_Z24 : cfun Tryz.prog [] 315 = some (9,dc_Z24,[(Res.cell 4 (some 2))]):=by kernel_rfl
def r_Z22_0 : List GI:=[gk 4 0]
def r_Z22_1 : List GI:=[gt 5 0,gt 6 1,gb 7 .sub 5 6,gt 4 7]
def dc_Z22 : DC:=.seq (.z r_Z22_0) (.seq (.z r_Z22_1) .ret)
theorem c_Z22 : cfun Tryz.prog [] 316 = some (8,dc_Z22,[(Res.tmp 4)]):=by kernel_rfl
def r_Z32_0 : List GI:=[gi 2 (.box 2 2000002 (.t 0) (some 2)),gi 4 (.alloc 4 2000004 [.v (.bool false),I 0])]
def r_Z32_1 : List GI:=[gf 5 2 0,gs 6 5 2,gt 7 1,⟨.call 8 320 [.t 6,.t 7,.k (.fn 321 [])],some 8,none,true⟩,g0 (.sto 4 (.t 8) (some 2))]
def dc_Z32 : DC:=.seq (.z r_Z32_0) (.seq (.z r_Z32_1) .ret)
theorem c_Z32 : cfun Tryz.prog [] 319 = some (9,dc_Z32,[(Res.cell 4 (some 2))]):=by kernel_rfl
def r_Z27_0 : List GI:=[gi 4 (.mov 4 (.k (.v (.bool false))))]
def r_Z27_1 : List GI:=[gt 5 0,gt 6 1,gb 7 .eql 5 6,gt 4 7]
def dc_Z27 : DC:=.seq (.z r_Z27_0) (.seq (.z r_Z27_1) .ret)
theorem c_Z27 : cfun Tryz.prog [] 321 = some (8,dc_Z27,[(Res.tmp 4)]):=by kernel_rfl
def r_Z42_0 : List GI:=[gi 2 (.box 2 2000002 (.t 0) (some 2)),gi 4 (.alloc 4 2000004 [.v (.bool false),I 0])]
def r_Z42_1 : List GI:=[gf 5 2 0,gs 6 5 2,gt 7 1,⟨.call 8 320 [.t 6,.t 7,.k (.fn 323 [])],some 8,none,true⟩,g0 (.sto 4 (.t 8) (some 2))]
def dc_Z42 : DC:=.seq (.z r_Z42_0) (.seq (.z r_Z42_1) .ret)
theorem c_Z42 : cfun Tryz.prog [] 322 = some (9,dc_Z42,[(Res.cell 4 (some 2))]):=by kernel_rfl
def r_Z31_0 : List GI:=[gi 4 (.mov 4 (.k (.v (.bool false))))]
def r_Z31_1 : List GI:=[gt 5 0,gt 6 1,gb 7 .lss 5 6,gt 4 7]
def dc_Z31 : DC:=.seq (.z r_Z31_0) (.seq (.z r_Z31_1) .ret)
theorem c_Z31 : cfun Tryz.prog [] 323 = some (8,dc_Z31,[(Res.tmp 4)]):=by kernel_rfl
def r_Z48_0 : List GI:=[gi 2 (.box 2 2000002 (.t 0) (some 1)),gi 4 (.alloc 4 2000004 [.v (.bool false),I 0])]
def r_Z48_1 : List GI:=[gf 5 2 0,gl 6 5,gt 7 1,⟨.inv 8 (.t 6) name_impl_value [.t 7],some 8,none,true⟩,gc 9 181 [.t 8],gc 10 283 [.t 9],gc 11 284 [.t 10],g0 (.sto 4 (.t 11) (some 2))]
def dc_Z48 : DC:=.seq (.z r_Z48_0) (.seq (.z r_Z48_1) .ret)
theorem c_Z48 : cfun Tryz.prog [] 307 = some (12,dc_Z48,[(Res.cell 4 (some 2))]):=by kernel_rfl
def r_Z43_0 : List GI:=[gi 2 (.box 2 2000002 (.t 0) (some 1)),gi 4 (.alloc 4 2000004 [.v (.bool false),I 0])]
def r_Z43_1 : List GI:=[gf 5 2 0,gl 6 5,gt 7 1,⟨.inv 8 (.t 6) name_impl_value [.t 7],some 8,none,true⟩,gi 9 (.fld 9 (.t 8) 0 none),gc 10 309 [.t 9],gc 11 284 [.t 10],g0 (.sto 4 (.t 11) (some 2))]
def dc_Z43 : DC:=.seq (.z r_Z43_0) (.seq (.z r_Z43_1) .ret)
theorem c_Z43 : cfun Tryz.prog [] 308 = some (12,dc_Z43,[(Res.cell 4 (some 2))]):=by kernel_rfl
def r_Z59_0 : List GI:=[gi 2 (.box 2 2000002 (.t 0) (some 2)),gi 4 (.alloc 4 2000004 [.v (.bool false),I 0])]
def r_Z59_1 : List GI:=[gf 8 2 0,gs 9 8 2,gt 10 1,gc 11 325 [.t 9,.t 10],gt 7 11,gi 12 (.ext 12 7 0),gi 13 (.ext 13 7 1),gt 5 12,gt 6 13]
def r_Z59_2 : List GI:=[gt 14 5,gt 15 6,gi 16 (.mm 16 true (.t 14) (.t 15)),gc 17 284 [.t 16],g0 (.sto 4 (.t 17) (some 2))]
def dc_Z59 : DC:=.seq (.z r_Z59_0) (.seq (.z r_Z59_1) (.seq (.z r_Z59_2) .ret))
theorem c_Z59 : cfun Tryz.prog [] 326 = some (18,dc_Z59,[(Res.cell 4 (some 2))]):=by kernel_rfl
def r_Z113_0 : List GI:=[gi 3 (.box 3 2000003 (.t 1) (some 2)),gi 4 (.mov 4 (.k (.v .nilIface)))]
def r_Z113_1 : List GI:=[gt 5 0]
def r_Z113_2 : List GI:=[gd 7 .eql 5 3,gt 6 7]
def r_Z113_3 : List GI:=[gs 8 3 2,gi 9 (.build 9 [.v .nilIface,.v .nilIface] [(0,(some 2,.t 8))]),gi 10 (.ifc 10 263 (.t 9)),gt 4 10]
def r_Z113_4 : List GI:=[gd 12 .eql 5 4,gt 11 12]
def r_Z113_5 : List GI:=[gs 13 3 2,gi 14 (.build 14 [.v .nilIface,.v .nilIface] [(0,(some 2,.t 13))]),gi 15 (.ifc 15 264 (.t 14)),gt 4 15]
def r_Z113_6 : List GI:=[gd 17 .eql 5 5,gt 16 17]
def r_Z113_7 : List GI:=[gs 18 3 2,gi 19 (.build 19 [.v .nilIface,.v .nilIface] [(0,(some 2,.t 18))]),gi 20 (.ifc 20 265 (.t 19)),gt 4 20]
def r_Z113_8 : List GI:=[gd 22 .eql 5 6,gt 21 22]
def r_Z113_9 : List GI:=[gs 23 3 2,gi 24 (.build 24 [.v .nilIface,.v .nilIface] [(0,(some 2,.t 23))]),gi 25 (.ifc 25 266 (.t 24)),gt 4 25]
def r_Z113_10 : List GI:=[gd 27 .eql 5 7,gt 26 27]
def r_Z113_11 : List GI:=[gs 28 3 2,gi 29 (.build 29 [.v .nilIface,.v .nilIface] [(0,(some 2,.t 28))]),gi 30 (.ifc 30 267 (.t 29)),gt 4 30]
def r_Z113_12 : List GI:=[gd 32 .eql 5 8,gt 31 32]
def r_Z113_13 : List GI:=[gs 33 3 2,gi 34 (.build 34 [.v .nilIface,.v .nilIface] [(0,(some 2,.t 33))]),gi 35 (.ifc 35 268 (.t 34)),gt 4 35]
def r_Z113_14 : List GI:=[gs 36 3 2,gi 37 (.build 37 [.v .nilIface,.v .nilIface] [(0,(some 2,.t 36))]),gi 38 (.ifc 38 269 (.t 37)),gt 4 38]
def dc_Z113 : DC:=.seq (.z r_Z113_0) (.seq (.seq (.z r_Z113_1) (.block 0 (.seq (.z r_Z113_2) (.cond (.t 6) (.seq (.z r_Z113_3) .ret) (.seq (.z r_Z113_4) (.cond (.t 11) (.seq (.z r_Z113_5) .ret) (.seq (.z r_Z113_6) (.cond (.t 16) (.seq (.z r_Z113_7) .ret) (.seq (.z r_Z113_8) (.cond (.t 21) (.seq (.z r_Z113_9) .ret) (.seq (.z r_Z113_10) (.cond (.t 26) (.seq (.z r_Z113_11) .ret) (.seq (.z r_Z113_12) (.cond (.t 31) (.seq (.z r_Z113_13) .ret) .skip)))))))))))))) (.seq (.z r_Z113_14) .ret))
theorem c_Z113 : cfun Tryz.prog [] 182 = some (39,dc_Z113,[(Res.tmp 4)]):=by kernel_rfl
def r_Z34_0 : List GI:=[gi 3 (.box 3 2000003 (.t 0) (some 2)),gi 6 (.alloc 6 2000006 [.v (.bool false),I 0])]
def r_Z34_1 : List GI:=[gs 11 3 2,gt 12 1,gc 13 310 [.t 11,.t 12],gt 10 13,gi 14 (.ext 14 10 0),gi 15 (.ext 15 10 1),gi 16 (.ext 16 10 2),gt 7 14,gt 8 15,gt 9 16]
def r_Z34_2 : List GI:=[gt 17 9]
def r_Z34_3 : List GI:=[gt 18 2,gt 19 7,gt 20 8,⟨.cal 21 (.t 18) [.t 19,.t 20],some 21,none,true⟩,gc 22 314 [.t 21],g0 (.sto 6 (.t 22) (some 2))]
def r_Z34_4 : List GI:=[gi 23 (.build 23 [.v (.bool false),I 0] [(0,(none,.k (.v (.bool true))))]),g0 (.sto 6 (.t 23) (some 2))]
def dc_Z34 : DC:=.seq (.z r_Z34_0) (.seq (.seq (.z r_Z34_1) (.seq (.z r_Z34_2) (.cond (.t 17) (.seq (.z r_Z34_3) .ret) .skip))) (.seq (.z r_Z34_4) .ret))
theorem c_Z34 : cfun Tryz.prog [] 312 = some (24,dc_Z34,[(Res.cell 6 (some 2))]):=by kernel_rfl
def r_Z35_0 : List GI:=[gi 3 (.box 3 2000003 (.t 0) (some 2)),gi 6 (.alloc 6 2000006 [.v (.bool false),I 0])]
def r_Z35_1 : List GI:=[gs 11 3 2,gt 12 1,gc 13 310 [.t 11,.t 12],gt 10 13,gi 14 (.ext 14 10 0),gi 15 (.ext 15 10 1),gi 16 (.ext 16 10 2),gt 7 14,gt 8 15,gt 9 16]
def r_Z35_2 : List GI:=[gt 17 9]
def r_Z35_3 : List GI:=[gt 18 2,gt 19 7,gt 20 8,⟨.cal 21 (.t 18) [.t 19,.t 20],some 21,none,true⟩,gc 22 309 [.t 21],gc 23 284 [.t 22],g0 (.sto 6 (.t 23) (some 2))]
def r_Z35_4 : List GI:=[gi 24 (.build 24 [.v (.bool false),I 0] [(0,(none,.k (.v (.bool true))))]),g0 (.sto 6 (.t 24) (some 2))]
def dc_Z35 : DC:=.seq (.z r_Z35_0) (.seq (.seq (.z r_Z35_1) (.seq (.z r_Z35_2) (.cond (.t 17) (.seq (.z r_Z35_3) .ret) .skip))) (.seq (.z r_Z35_4) .ret))
theorem c_Z35 : cfun Tryz.prog [] 320 = some (25,dc_Z35,[(Res.cell 6 (some 2))]):=by kernel_rfl
def r_Z60_0 : List GI:=[gi 2 (.box 2 2000002 (.t 0) (some 2)),gk 4 0,gk 5 0,gi 6 (.mov 6 (.k (.v (.bool false))))]
def r_Z60_1 : List GI:=[gf 9 2 0,gl 10 9,gt 11 1,⟨.inv 12 (.t 10) name_impl_value [.t 11],some 12,none,true⟩,gf 13 2 1,gl 14 13,gt 15 1,⟨.inv 16 (.t 14) name_impl_value [.t 15],some 16,none,true⟩,gi 7 (.alloc 7 2000007 [.v (.bool false),I 0]),gi 8 (.alloc 8 2000008 [.v (.bool false),I 0]),g0 (.sto 7 (.t 12) (some 2)),g0 (.sto 8 (.t 16) (some 2))]
def r_Z60_2 : List GI:=[gf 17 7 1,gl 18 17,gf 19 8 1,gl 20 19,gf 21 7 0,gl 22 21,gi 23 (.un 23 UnOp.not (.t 22)),gt 24 23,⟨.fad 25 8 0,some 25,some (24,true),false⟩,⟨.lod 26 25 none,some 26,some (24,true),false⟩,⟨.un 27 UnOp.not (.t 26),some 27,some (24,true),false⟩,gi 28 (.pick 28 (.t 24) (.t 27) (.k (.v (.bool false)))),gt 4 18,gt 5 20,gt 6 28]
def dc_Z60 : DC:=.seq (.z r_Z60_0) (.seq (.reg r_Z60_1 (some [0,1,0,7,0,16,0,127,0,0,1023,2047])) (.seq (.reg r_Z60_2 (some [0,1,0,4,0,16,48,112,240,496,1008,2032,243,4351,16383])) .ret))
theorem c_Z60 : cfun Tryz.prog [] 310 = some (29,dc_Z60,[(Res.tmp 4),(Res.tmp 5),(Res.tmp 6)]):=by kernel_rfl
def r_Z71_0 : List GI:=[gi 2 (.box 2 2000002 (.t 0) (some 2)),gk 4 0,gk 5 0]
def r_Z71_1 : List GI:=[gf 6 2 0,gl 7 6,gt 8 1,⟨.inv 9 (.t 7) name_impl_value [.t 8],some 9,none,true⟩,gc 10 181 [.t 9],gf 11 2 1,gl 12 11,gt 13 1,⟨.inv 14 (.t 12) name_impl_value [.t 13],some 14,none,true⟩,gc 15 181 [.t 14],gt 4 10,gt 5 15]
def dc_Z71 : DC:=.seq (.z r_Z71_0) (.seq (.reg r_Z71_1 (some [0,1,0,7,15,0,32,0,255,511,1023,2047])) .ret)
theorem c_Z71 : cfun Tryz.prog [] 325 = some (16,dc_Z71,[(Res.tmp 4),(Res.tmp 5)]):=by kernel_rfl
def r_Z29_0 : List GI:=[gi 2 (.box 2 2000002 (.t 0) (some 2)),gi 4 (.alloc 4 2000004 [.v (.bool false),I 0])]
def r_Z29_1 : List GI:=[gf 5 2 0,gs 6 5 2,gt 7 1,⟨.call 8 312 [.t 6,.t 7,.k (.fn 318 [])],some 8,none,true⟩,g0 (.sto 4 (.t 8) (some 2))]
def dc_Z29 : DC:=.seq (.z r_Z29_0) (.seq (.z r_Z29_1) .ret)
theorem c_Z29 : cfun Tryz.prog [] 317 = some (9,dc_Z29,[(Res.cell 4 (some 2))]):=by kernel_rfl
def r_Z25_0 : List GI:=[gk 4 0]
def r_Z25_1 : List GI:=[gt 5 0,gt 6 1,gb 7 .mul 5 6,gt 4 7]
def dc_Z25 : DC:=.seq (.z r_Z25_0) (.seq (.z r_Z25_1) .ret)
theorem c_Z25 : cfun Tryz.prog [] 318 = some (8,dc_Z25,[(Res.tmp 4)]):=by kernel_rfl
def r_Z50_0 : List GI:=[gi 2 (.box 2 2000002 (.t 0) (some 2)),gi 4 (.alloc 4 2000004 [.v (.bool false),I 0])]
def r_Z50_1 : List GI:=[gf 5 2 0,gs 6 5 2,gt 7 1,⟨.call 8 312 [.t 6,.t 7,.k (.fn 313 [])],some 8,none,true⟩,g0 (.sto 4 (.t 8) (some 2))]
def dc_Z50 : DC:=.seq (.z r_Z50_0) (.seq (.z r_Z50_1) .ret)
theorem c_Z50 : cfun Tryz.prog [] 311 = some (9,dc_Z50,[(Res.cell 4 (some 2))]):=by kernel_rfl
def r_Z37_0 : List GI:=[gk 4 0]
def r_Z37_1 : List GI:=[gt 5 0,gt 6 1,gb 7 .add 5 6,gt 4 7]
def dc_Z37 : DC:=.seq (.z r_Z37_0) (.seq (.z r_Z37_1) .ret)
theorem c_Z37 : cfun Tryz.prog [] 313 = some (8,dc_Z37,[(Res.tmp 4)]):=by kernel_rfl
def r_Z153_0 : List GI:=[gi 1 (.box 1 2000001 (.t 0) (some 5)),gi 2 (.mov 2 (.k (.v .nilIface)))]
def r_Z153_1 : List GI:=[gf 3 1 0,gl 4 3]
def r_Z153_2 : List GI:=[gd 6 .eql 4 1,gt 5 6]
def r_Z153_3 : List GI:=[gf 7 1 1,gl 8 7,gi 9 (.build 9 [I 0] [(0,(none,.t 8))]),gi 10 (.ifc 10 226 (.t 9)),gt 2 10]
def r_Z153_4 : List GI:=[gd 12 .eql 4 2,gt 11 12]
def r_Z153_5 : List GI:=[gf 13 1 2,gs 14 13 2,gi 15 (.build 15 [.v (.bool false),I 0] [(0,(some 2,.t 14))]),gi 16 (.ifc 16 228 (.t 15)),gt 2 16]
def r_Z153_6 : List GI:=[gd 18 .eql 4 10,gt 17 18]
def r_Z153_7 : List GI:=[gf 19 1 4,gl 20 19,gi 21 (.iad 21 20 (.k (I 0)) 5),gs 22 21 5,gc 23 147 [.t 22],gi 24 (.build 24 [.v .nilIface] [(0,(none,.t 23))]),gi 25 (.ifc 25 230 (.t 24)),gt 2 25]
def r_Z153_8 : List GI:=[gd 27 .eql 4 11,gt 26 27]
def r_Z153_9 : List GI:=[gf 28 1 4,gl 29 28,gi 30 (.iad 30 29 (.k (I 0)) 5),gs 31 30 5,gc 32 147 [.t 31],gi 33 (.build 33 [.v .nilIface] [(0,(none,.t 32))]),gi 34 (.ifc 34 231 (.t 33)),gt 2 34]
def r_Z153_10 : List GI:=[gf 35 1 0,gl 36 35,gf 37 1 4,gl 38 37,gi 39 (.iad 39 38 (.k (I 0)) 5),gs 40 39 5,gc 41 147 [.t 40],gf 42 1 4,gl 43 42,gi 44 (.iad 44 43 (.k (I 1)) 5),gs 45 44 5,gc 46 147 [.t 45],gi 47 (.build 47 [.v .nilIface,.v .nilIface] [(0,(none,.t 41)),(1,(none,.t 46))]),gc 48 182 [.t 36,.t 47],gt 2 48]
def dc_Z153 : DC:=.seq (.z r_Z153_0) (.seq (.seq (.z r_Z153_1) (.block 0 (.seq (.z r_Z153_2) (.cond (.t 5) (.seq (.z r_Z153_3) .ret) (.seq (.z r_Z153_4) (.cond (.t 11) (.seq (.z r_Z153_5) .ret) (.seq (.z r_Z153_6) (.cond (.t 17) (.seq (.z r_Z153_7) .ret) (.seq (.z r_Z153_8) (.cond (.t 26) (.seq (.z r_Z153_9) .ret) .skip)))))))))) (.seq (.reg r_Z153_10 (some [0,1,0,4,12,28,60,0,128,384,896,2044,4092,8191,16383])) .ret))
theorem c_Z153 : cfun Tryz.prog [] 147 = some (49,dc_Z153,[(Res.tmp 2)]):=by kernel_rfl
def r_Z135_0 : List GI:=[gk 2 0]
def r_Z135_1 : List GI:=[gt 3 0]
def r_Z135_2 : List GI:=[gk 2 2]
def r_Z135_3 : List GI:=[gk 2 0]
def dc_Z135 : DC:=.seq (.z r_Z135_0) (.seq (.seq (.z r_Z135_1) (.cond (.t 3) (.seq (.z r_Z135_2) .ret) .skip)) (.seq (.z r_Z135_3) .ret))
theorem c_Z135 : cfun Tryz.prog [] 309 = some (4,dc_Z135,[(Res.tmp 2)]):=by kernel_rfl
def r_Z98_0 : List GI:=[gk 2 0]
def r_Z98_1 : List GI:=[gt 3 0,gi 4 (.bin 4 .sub (.k (I 2)) (.t 3)),gt 2 4]
def dc_Z98 : DC:=.seq (.z r_Z98_0) (.seq (.z r_Z98_1) .ret)
theorem c_Z98 : cfun Tryz.prog [] 283 = some (5,dc_Z98,[(Res.tmp 2)]):=by kernel_rfl
def r_Z73_0 : List GI:=[gi 2 (.alloc 2 2000002 [.v (.bool false),I 0])]
def r_Z73_1 : List GI:=[gt 3 0]
def r_Z73_2 : List GI:=[gd 5 .eql 3 0,gt 4 5]
def r_Z73_3 : List GI:=[gi 6 (.build 6 [.v (.bool false),I 0] [(1,(none,.k (I 0)))]),g0 (.sto 2 (.t 6) (some 2))]
def r_Z73_4 : List GI:=[gd 8 .eql 3 2,gt 7 8]
def r_Z73_5 : List GI:=[gi 9 (.build 9 [.v (.bool false),I 0] [(1,(none,.k (I 1)))]),g0 (.sto 2 (.t 9) (some 2))]
def r_Z73_6 : List GI:=[gi 10 (.build 10 [.v (.bool false),I 0] [(0,(none,.k (.v (.bool true))))]),g0 (.sto 2 (.t 10) (some 2))]
def dc_Z73 : DC:=.seq (.z r_Z73_0) (.seq (.seq (.z r_Z73_1) (.block 0 (.seq (.z r_Z73_2) (.cond (.t 4) (.seq (.z r_Z73_3) .ret) (.seq (.z r_Z73_4) (.cond (.t 7) (.seq (.z r_Z73_5) .ret) .skip)))))) (.seq (.z r_Z73_6) .ret))
theorem c_Z73 : cfun Tryz.prog [] 284 = some (11,dc_Z73,[(Res.cell 2 (some 2))]):=by kernel_rfl
def r_Z41_0 : List GI:=[gl 6 1,gn 7 6,gk 8 0]
def r_Z41_1 : List GI:=[gb 9 .lss 8 7]
def r_Z41_2 : List GI:=[ga 10 6 8 1,gl 11 10,gt 5 11]
def r_Z41_3 : List GI:=[gl 12 2,gt 13 5,⟨.inv 14 (.t 12) name_impl_value [.t 13],some 14,none,true⟩,gc 15 181 [.t 14],gd 16 .eql 15 2,gt 17 16,⟨.mov 18 (.t 0),some 18,some (17,true),false⟩,⟨.mov 19 (.t 5),some 19,some (17,true),false⟩,⟨.cal 20 (.t 18) [.t 19],some 20,some (17,true),true⟩,⟨.un 21 UnOp.not (.t 20),some 21,some (17,true),false⟩,gi 22 (.pick 22 (.t 17) (.t 21) (.k (.v (.bool false))))]
def r_Z41_4 : List GI:=[gd 23 .add 8 1,gt 8 23]
def dc_Z41 : DC:=.seq (.z r_Z41_0) (.block 0 (.loop (.seq (.z r_Z41_1) (.seq (.cond (.t 9) .skip (.exit 0)) (.seq (.block 1 (.seq (.z r_Z41_2) (.seq (.z r_Z41_3) (.cond (.t 22) .ret .skip)))) (.z r_Z41_4))))))
theorem c_Z41 : cfun Tryz.prog [] 180 = some (24,dc_Z41,[]):=by kernel_rfl
def r_Z163_0 : List GI:=[gi 4 (.mov 4 (.k .nul))]
def r_Z163_1 : List GI:=[gt 5 0,gc 6 141 [.t 5],gt 7 1,gi 8 (.app 8 2000008 (.t 6) (.t 7) 2 16),gt 4 8]
def dc_Z163 : DC:=.seq (.z r_Z163_0) (.seq (.z r_Z163_1) .ret)
theorem c_Z163 : cfun Tryz.prog [] 163 = some (9,dc_Z163,[(Res.tmp 4)]):=by kernel_rfl
def r_Z168_0 : List GI:=[gi 2 (.mov 2 (.k .nul))]
def r_Z168_1 : List GI:=[gi 5 (.mov 5 (.k .nul)),gt 3 5]
def r_Z168_2 : List GI:=[gk 4 0]
def r_Z168_3 : List GI:=[gt 6 4,gt 7 0,gb 8 .lss 6 7]
def r_Z168_4 : List GI:=[gt 11 3,gi 12 (.build 12 [.v (.bool false),I 0] [(0,(none,.k (.v (.bool true))))]),gi 13 (.bsl 13 2 (some 2) [.agg [.v (.bool false),I 0]] [(0,.t 12)]),gi 14 (.app 14 2000014 (.t 11) (.t 13) 2 16),gt 3 14]
def r_Z168_5 : List GI:=[gt 9 4,gd 10 .add 9 1,gt 4 10]
def r_Z168_6 : List GI:=[gt 15 3,gt 2 15]
def dc_Z168 : DC:=.seq (.z r_Z168_0) (.seq (.z r_Z168_1) (.seq (.seq (.z r_Z168_2) (.block 0 (.loop (.seq (.seq (.z r_Z168_3) (.cond (.t 8) .skip (.exit 0))) (.seq (.block 1 (.z r_Z168_4)) (.z r_Z168_5)))))) (.seq (.z r_Z168_6) .ret)))
theorem c_Z168 : cfun Tryz.prog [] 164 = some (16,dc_Z168,[(Res.tmp 2)]):=by kernel_rfl
def r_Z63_0 : List GI:=[gi 2 (.box 2 2000002 (.t 0) (some 2)),gi 4 (.alloc 4 2000004 [I 0,.nul])]
def r_Z63_1 : List GI:=[gi 9 (.mov 9 (.k .nul)),gt 5 9]
def r_Z63_2 : List GI:=[gk 6 0]
def r_Z63_3 : List GI:=[gt 10 6,gf 11 2 1,gl 12 11,gn 13 12,gb 14 .lss 10 13]
def r_Z63_4 : List GI:=[gi 17 (.mov 17 (.k .nul)),gt 7 17]
def r_Z63_5 : List GI:=[gk 8 0]
def r_Z63_6 : List GI:=[gt 18 8,gt 19 1,gn 20 19,gb 21 .lss 18 20]
def r_Z63_7 : List GI:=[gt 24 7,gt 25 1,gt 26 8,ga 27 25 26 5,gs 28 27 5,gf 29 2 1,gl 30 29,gt 31 6,ga 32 30 31 1,gl 33 32,gc 34 162 [.t 28,.t 33],gi 35 (.bsl 35 2 (some 2) [.agg [.v (.bool false),I 0]] [(0,.t 34)]),gi 36 (.app 36 2000036 (.t 24) (.t 35) 2 16),gt 7 36]
def r_Z63_8 : List GI:=[gt 22 8,gd 23 .add 22 1,gt 8 23]
def r_Z63_9 : List GI:=[gt 37 5,gt 38 7,gi 39 (.bsl 39 1 none [.nul] [(0,.t 38)]),gi 40 (.app 40 2000040 (.t 37) (.t 39) 1 24),gt 5 40]
def r_Z63_10 : List GI:=[gt 15 6,gd 16 .add 15 1,gt 6 16]
def r_Z63_11 : List GI:=[gt 41 1,gn 42 41,gt 43 5,gc 44 98 [.t 42,.t 43],g0 (.sto 4 (.t 44) (some 2))]
def dc_Z63 : DC:=.seq (.z r_Z63_0) (.seq (.z r_Z63_1) (.seq (.seq (.z r_Z63_2) (.block 0 (.loop (.seq (.seq (.z r_Z63_3) (.cond (.t 14) .skip (.exit 0))) (.seq (.block 1 (.seq (.z r_Z63_4) (.seq (.seq (.z r_Z63_5) (.block 2 (.loop (.seq (.seq (.z r_Z63_6) (.cond (.t 21) .skip (.exit 2))) (.seq (.block 3 (.reg r_Z63_7 (some [0,0,0,6,14,0,32,0,224,480,1022,2046,4095,8191]))) (.z r_Z63_8)))))) (.z r_Z63_9)))) (.z r_Z63_10)))))) (.seq (.z r_Z63_11) .ret)))
theorem c_Z63 : cfun Tryz.prog [] 100 = some (45,dc_Z63,[(Res.cell 4 (some 2))]):=by kernel_rfl
def r_Z49_0 : List GI:=[gi 2 (.box 2 2000002 (.t 0) none),gi 4 (.mov 4 (.k (.v .nilFunc)))]
def r_Z49_1 : List GI:=[gi 5 (.alloc 5 2000005 [.nul])]
def r_Z49_2 : List GI:=[gt 8 1,gn 9 8,gk 10 0]
def r_Z49_3 : List GI:=[gb 11 .lss 10 9]
def r_Z49_4 : List GI:=[ga 12 8 10 5,gs 13 12 5,gi 7 (.alloc 7 2000007 [I 0,I 0,.v (.bool false),I 0,.nul]),g0 (.sto 7 (.t 13) (some 5))]
def r_Z49_5 : List GI:=[gl 14 5,gs 15 7 5,gc 16 147 [.t 15],gi 17 (.bsl 17 1 none [.v .nilIface] [(0,.t 16)]),gi 18 (.app 18 2000018 (.t 14) (.t 17) 1 16),g0 (.sto 5 (.t 18) none)]
def r_Z49_6 : List GI:=[gd 19 .add 10 1,gt 10 19]
def r_Z49_7 : List GI:=[gi 20 (.mkf 20 183 [.t 2,.t 5]),gt 4 20]
def dc_Z49 : DC:=.seq (.z r_Z49_0) (.seq (.z r_Z49_1) (.seq (.seq (.z r_Z49_2) (.block 0 (.loop (.seq (.z r_Z49_3) (.seq (.cond (.t 11) .skip (.exit 0)) (.seq (.block 1 (.seq (.z r_Z49_4) (.reg r_Z49_5 (some [0,0,2,6,15,31])))) (.z r_Z49_6))))))) (.seq (.z r_Z49_7) .ret)))
theorem c_Z49 : cfun Tryz.prog [] 148 = some (21,dc_Z49,[(Res.tmp 4)]):=by kernel_rfl
def r_Z36_0 : List GI:=[gl 9 1,gn 10 9,gk 11 0]
def r_Z36_1 : List GI:=[gb 12 .lss 11 10]
def r_Z36_2 : List GI:=[ga 13 9 11 1,gl 14 13,gt 5 14]
def r_Z36_3 : List GI:=[gi 6 (.mov 6 (.k .nul))]
def r_Z36_4 : List GI:=[gl 15 2,gn 16 15,gk 17 0]
def r_Z36_5 : List GI:=[gb 18 .lss 17 16]
def r_Z36_6 : List GI:=[ga 19 15 17 1,gl 20 19,gt 8 20]
def r_Z36_7 : List GI:=[gt 21 6,gt 22 8,gt 23 5,⟨.inv 24 (.t 22) name_impl_value [.t 23],some 24,none,true⟩,gi 25 (.bsl 25 2 (some 2) [.agg [.v (.bool false),I 0]] [(0,.t 24)]),gi 26 (.app 26 2000026 (.t 21) (.t 25) 2 16),gt 6 26]
def r_Z36_8 : List GI:=[gd 27 .add 17 1,gt 17 27]
def r_Z36_9 : List GI:=[gt 28 0,gt 29 6,⟨.cal 30 (.t 28) [.t 29],some 30,none,true⟩,gi 31 (.un 31 UnOp.not (.t 30))]
def r_Z36_10 : List GI:=[gd 32 .add 11 1,gt 11 32]
def dc_Z36 : DC:=.seq (.z r_Z36_0) (.block 0 (.loop (.seq (.z r_Z36_1) (.seq (.cond (.t 12) .skip (.exit 0)) (.seq (.block 1 (.seq (.z r_Z36_2) (.seq (.z r_Z36_3) (.seq (.seq (.z r_Z36_4) (.block 2 (.loop (.seq (.z r_Z36_5) (.seq (.cond (.t 18) .skip (.exit 2)) (.seq (.block 3 (.seq (.z r_Z36_6) (.z r_Z36_7))) (.z r_Z36_8))))))) (.seq (.z r_Z36_9) (.cond (.t 31) .ret .skip)))))) (.z r_Z36_10))))))
theorem c_Z36 : cfun Tryz.prog [] 183 = some (33,dc_Z36,[]):=by kernel_rfl
end
end Go.Proofs.YtjngffbghkafaaaGreat
