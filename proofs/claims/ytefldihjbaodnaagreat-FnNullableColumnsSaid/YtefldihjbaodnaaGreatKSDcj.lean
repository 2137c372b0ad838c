/-
  Functions of the program read as code on plain data. Closed facts of the program alone.
-/
import Derived.KernelRfl
import Derived.Test.YtefldihjbaodnaaGreatRows
import Derived.Test.YtefldihjbaodnaaGreatJSVGo
import Derived.Test.YtefldihjbaodnaaGreatJSVTbD
namespace Go.Proofs.YtefldihjbaodnaaGreat
open Go.RowKit
noncomputable section
def name_impl_distinct : String:=match Tryz.prog.info? 77 with
 | some i=>((i.methods.toList[0]?).map (fun m=>m.name)).getD default
 | none=>default
def name_impl_filter : String:=match Tryz.prog.info? 77 with
 | some i=>((i.methods.toList[1]?).map (fun m=>m.name)).getD default
 | none=>default
def name_impl_group : String:=match Tryz.prog.info? 77 with
 | some i=>((i.methods.toList[2]?).map (fun m=>m.name)).getD default
 | none=>default
def name_impl_join : String:=match Tryz.prog.info? 77 with
 | some i=>((i.methods.toList[3]?).map (fun m=>m.name)).getD default
 | none=>default
def name_impl_leftJoin : String:=match Tryz.prog.info? 77 with
 | some i=>((i.methods.toList[4]?).map (fun m=>m.name)).getD default
 | none=>default
def name_impl_project : String:=match Tryz.prog.info? 77 with
 | some i=>((i.methods.toList[5]?).map (fun m=>m.name)).getD default
 | none=>default
def name_impl_scan : String:=match Tryz.prog.info? 77 with
 | some i=>((i.methods.toList[6]?).map (fun m=>m.name)).getD default
 | none=>default
def name_impl_union : String:=match Tryz.prog.info? 77 with
 | some i=>((i.methods.toList[7]?).map (fun m=>m.name)).getD default
 | none=>default
def r_Z63_0 : List GI:=[gk 2 0]
def r_Z63_1 : List GI:=[gk 3 0]
def r_Z63_2 : List GI:=[gt 4 0,gd 5 .and 4 4,gd 6 .neq 5 0]
def r_Z63_3 : List GI:=[gt 7 3,gd 8 .or 7 2,gt 3 8]
def r_Z63_4 : List GI:=[gt 9 0,gd 10 .and 9 3,gd 11 .neq 10 0]
def r_Z63_5 : List GI:=[gt 12 3,gd 13 .or 12 1,gt 3 13]
def r_Z63_6 : List GI:=[gt 14 3,gt 2 14]
def dc_Z63 : DC:=.seq (.z r_Z63_0) (.seq (.z r_Z63_1) (.seq (.seq (.z r_Z63_2) (.cond (.t 6) (.z r_Z63_3) .skip)) (.seq (.seq (.z r_Z63_4) (.cond (.t 11) (.z r_Z63_5) .skip)) (.seq (.z r_Z63_6) .ret))))
theorem c_Z63 : cfun Tryz.prog [] 253 = some (15,dc_Z63,[(Res.tmp 2)]):=by kernel_rfl
def r_Z119_0 : List GI:=[gk 4 0]
def r_Z119_1 : List GI:=[gt 5 0,gt 6 1,gi 7 (.mm 7 false (.t 5) (.t 6)),gt 4 7]
def dc_Z119 : DC:=.seq (.z r_Z119_0) (.seq (.z r_Z119_1) .ret)
theorem c_Z119 : cfun Tryz.prog [] 255 = some (8,dc_Z119,[(Res.tmp 4)]):=by kernel_rfl
def r_Z120_0 : List GI:=[gk 4 0]
def r_Z120_1 : List GI:=[gt 5 0,gt 6 1,gi 7 (.mm 7 true (.t 5) (.t 6)),gt 4 7]
def dc_Z120 : DC:=.seq (.z r_Z120_0) (.seq (.z r_Z120_1) .ret)
theorem c_Z120 : cfun Tryz.prog [] 256 = some (8,dc_Z120,[(Res.tmp 4)]):=by kernel_rfl
def r_Z28_0 : List GI:=[gi 3 (.box 3 2000003 (.t 0) (some 1)),gi 4 (.box 4 2000004 (.t 1) (some 5)),gi 6 (.mov 6 (.k .nul))]
def r_Z28_1 : List GI:=[gt 7 2,gt 6 7]
def dc_Z28 : DC:=.seq (.z r_Z28_0) (.seq (.z r_Z28_1) .ret)
theorem c_Z28 : cfun Tryz.prog [] 239 = some (8,dc_Z28,[(Res.tmp 6)]):=by kernel_rfl
def r_Z35_0 : List GI:=[gi 3 (.box 3 2000003 (.t 0) (some 1)),gi 4 (.box 4 2000004 (.t 1) (some 5)),gi 6 (.mov 6 (.k .nul))]
def r_Z35_1 : List GI:=[gi 7 (.mov 7 (.k .nul))]
def r_Z35_2 : List GI:=[gt 11 2,gn 12 11,gk 13 0]
def r_Z35_3 : List GI:=[gb 14 .lss 13 12]
def r_Z35_4 : List GI:=[gt 15 13,ga 16 11 13 1,gl 17 16,gt 8 15,gt 9 17]
def r_Z35_5 : List GI:=[gt 18 2,gc 19 247 [.t 18],gt 10 19]
def r_Z35_6 : List GI:=[gt 20 10,gt 21 8,ga 22 20 21 1,g0 (.sto 22 (.k (I 4)) none)]
def r_Z35_7 : List GI:=[gt 23 7,gt 24 9,gt 25 24,⟨.fad 26 4 2,some 26,some (25,true),false⟩,⟨.lod 27 26 none,some 27,some (25,true),false⟩,⟨.iad 28 27 (.k (I 0)) 5,some 28,some (25,true),false⟩,⟨.lod 29 28 (some 5),some 29,some (25,true),false⟩,⟨.mov 30 (.t 10),some 30,some (25,true),false⟩,⟨.call 31 248 [.t 29,.t 30],some 31,some (25,true),true⟩,⟨.bin 32 .and (.t 31) (.k (I 2)),some 32,some (25,true),false⟩,⟨.bin 33 .neq (.t 32) (.k (I 0)),some 33,some (25,true),false⟩,gi 34 (.pick 34 (.t 25) (.t 33) (.k (.v (.bool false)))),gi 35 (.bsl 35 1 none [.v (.bool false)] [(0,.t 34)]),gi 36 (.app 36 2000036 (.t 23) (.t 35) 1 1),gt 7 36]
def r_Z35_8 : List GI:=[gd 37 .add 13 1,gt 13 37]
def r_Z35_9 : List GI:=[gt 38 7,gt 6 38]
def dc_Z35 : DC:=.seq (.z r_Z35_0) (.seq (.z r_Z35_1) (.seq (.seq (.z r_Z35_2) (.block 0 (.loop (.seq (.z r_Z35_3) (.seq (.cond (.t 14) .skip (.exit 0)) (.seq (.block 1 (.seq (.z r_Z35_4) (.seq (.z r_Z35_5) (.seq (.z r_Z35_6) (.z r_Z35_7))))) (.z r_Z35_8))))))) (.seq (.z r_Z35_9) .ret)))
theorem c_Z35 : cfun Tryz.prog [] 240 = some (39,dc_Z35,[(Res.tmp 6)]):=by kernel_rfl
def r_Z39_0 : List GI:=[gi 3 (.box 3 2000003 (.t 0) (some 1)),gi 4 (.box 4 2000004 (.t 1) (some 5)),gi 6 (.mov 6 (.k .nul))]
def r_Z39_1 : List GI:=[gi 7 (.mov 7 (.k .nul))]
def r_Z39_2 : List GI:=[gf 10 4 3,gl 11 10,gn 12 11,gk 13 0]
def r_Z39_3 : List GI:=[gb 14 .lss 13 12]
def r_Z39_4 : List GI:=[ga 15 11 13 1,gl 16 15,gt 9 16]
def r_Z39_5 : List GI:=[gt 17 7,gt 18 2,gt 19 9,ga 20 18 19 1,gl 21 20,gi 22 (.bsl 22 1 none [.v (.bool false)] [(0,.t 21)]),gi 23 (.app 23 2000023 (.t 17) (.t 22) 1 1),gt 7 23]
def r_Z39_6 : List GI:=[gd 24 .add 13 1,gt 13 24]
def r_Z39_7 : List GI:=[gt 25 7,gi 26 (.bsl 26 1 none [.v (.bool false)] [(0,.k (.v (.bool false)))]),gi 27 (.app 27 2000027 (.t 25) (.t 26) 1 1),gt 6 27]
def dc_Z39 : DC:=.seq (.z r_Z39_0) (.seq (.z r_Z39_1) (.seq (.seq (.z r_Z39_2) (.block 0 (.loop (.seq (.z r_Z39_3) (.seq (.cond (.t 14) .skip (.exit 0)) (.seq (.block 1 (.seq (.z r_Z39_4) (.z r_Z39_5))) (.z r_Z39_6))))))) (.seq (.z r_Z39_7) .ret)))
theorem c_Z39 : cfun Tryz.prog [] 241 = some (28,dc_Z39,[(Res.tmp 6)]):=by kernel_rfl
def r_Z48_0 : List GI:=[gi 4 (.box 4 2000004 (.t 0) (some 1)),gi 5 (.box 5 2000005 (.t 1) (some 5)),gi 8 (.mov 8 (.k .nul))]
def r_Z48_1 : List GI:=[gt 9 2,gt 10 3,gi 11 (.bsl 11 1 none [.nul,.nul] [(0,.t 9),(1,.t 10)]),gc 12 249 [.t 11],gt 8 12]
def dc_Z48 : DC:=.seq (.z r_Z48_0) (.seq (.z r_Z48_1) .ret)
theorem c_Z48 : cfun Tryz.prog [] 242 = some (13,dc_Z48,[(Res.tmp 8)]):=by kernel_rfl
def r_Z29_0 : List GI:=[gi 4 (.box 4 2000004 (.t 0) (some 1)),gi 5 (.box 5 2000005 (.t 1) (some 5)),gi 8 (.mov 8 (.k .nul))]
def r_Z29_1 : List GI:=[gt 9 2,gi 10 (.bsl 10 1 none [.v (.bool false)] [(0,.k (.v (.bool true)))]),gt 11 3,gn 12 11,gc 13 250 [.t 10,.t 12],gi 14 (.bsl 14 1 none [.nul,.nul] [(0,.t 9),(1,.t 13)]),gc 15 249 [.t 14],gt 8 15]
def dc_Z29 : DC:=.seq (.z r_Z29_0) (.seq (.z r_Z29_1) .ret)
theorem c_Z29 : cfun Tryz.prog [] 243 = some (16,dc_Z29,[(Res.tmp 8)]):=by kernel_rfl
def r_Z31_0 : List GI:=[gi 3 (.box 3 2000003 (.t 0) (some 1)),gi 4 (.box 4 2000004 (.t 1) (some 5)),gi 6 (.mov 6 (.k .nul))]
def r_Z31_1 : List GI:=[gt 11 2,gc 12 247 [.t 11],gt 7 12]
def r_Z31_2 : List GI:=[gi 8 (.mov 8 (.k .nul))]
def r_Z31_3 : List GI:=[gf 13 4 2,gl 14 13,gn 15 14,gk 16 0]
def r_Z31_4 : List GI:=[gb 17 .lss 16 15]
def r_Z31_5 : List GI:=[ga 18 14 16 5,gs 19 18 5,gi 10 (.alloc 10 2000010 [I 0,I 0,.v (.bool false),I 0,.nul]),g0 (.sto 10 (.t 19) (some 5))]
def r_Z31_6 : List GI:=[gt 20 8,gs 21 10 5,gt 22 7,gc 23 248 [.t 21,.t 22],gd 24 .and 23 4,gd 25 .neq 24 0,gi 26 (.bsl 26 1 none [.v (.bool false)] [(0,.t 25)]),gi 27 (.app 27 2000027 (.t 20) (.t 26) 1 1),gt 8 27]
def r_Z31_7 : List GI:=[gd 28 .add 16 1,gt 16 28]
def r_Z31_8 : List GI:=[gt 29 8,gt 6 29]
def dc_Z31 : DC:=.seq (.z r_Z31_0) (.seq (.z r_Z31_1) (.seq (.z r_Z31_2) (.seq (.seq (.z r_Z31_3) (.block 0 (.loop (.seq (.z r_Z31_4) (.seq (.cond (.t 17) .skip (.exit 0)) (.seq (.block 1 (.seq (.z r_Z31_5) (.z r_Z31_6))) (.z r_Z31_7))))))) (.seq (.z r_Z31_8) .ret))))
theorem c_Z31 : cfun Tryz.prog [] 244 = some (30,dc_Z31,[(Res.tmp 6)]):=by kernel_rfl
def r_Z49_0 : List GI:=[gi 2 (.box 2 2000002 (.t 0) (some 1)),gi 3 (.box 3 2000003 (.t 1) (some 5)),gi 4 (.mov 4 (.k .nul))]
def r_Z49_1 : List GI:=[gf 5 2 0,gl 6 5,gf 7 3 1,gl 8 7,ga 9 6 8 1,gl 10 9,gt 4 10]
def dc_Z49 : DC:=.seq (.z r_Z49_0) (.seq (.z r_Z49_1) .ret)
theorem c_Z49 : cfun Tryz.prog [] 245 = some (11,dc_Z49,[(Res.tmp 4)]):=by kernel_rfl
def r_Z40_0 : List GI:=[gi 4 (.box 4 2000004 (.t 0) (some 1)),gi 5 (.box 5 2000005 (.t 1) (some 5)),gi 8 (.mov 8 (.k .nul))]
def r_Z40_1 : List GI:=[gi 9 (.mov 9 (.k .nul))]
def r_Z40_2 : List GI:=[gt 11 2,gn 12 11,gk 13 0]
def r_Z40_3 : List GI:=[gb 14 .lss 13 12]
def r_Z40_4 : List GI:=[gt 15 13,gt 10 15]
def r_Z40_5 : List GI:=[gt 16 9,gt 17 2,gt 18 10,ga 19 17 18 1,gl 20 19,gt 21 20,⟨.mov 22 (.t 3),some 22,some (21,false),false⟩,⟨.mov 23 (.t 10),some 23,some (21,false),false⟩,⟨.iad 24 22 (.t 23) 1,some 24,some (21,false),false⟩,⟨.lod 25 24 none,some 25,some (21,false),false⟩,gi 26 (.pick 26 (.t 21) (.k (.v (.bool true))) (.t 25)),gi 27 (.bsl 27 1 none [.v (.bool false)] [(0,.t 26)]),gi 28 (.app 28 2000028 (.t 16) (.t 27) 1 1),gt 9 28]
def r_Z40_6 : List GI:=[gd 29 .add 13 1,gt 13 29]
def r_Z40_7 : List GI:=[gt 30 9,gt 8 30]
def dc_Z40 : DC:=.seq (.z r_Z40_0) (.seq (.z r_Z40_1) (.seq (.seq (.z r_Z40_2) (.block 0 (.loop (.seq (.z r_Z40_3) (.seq (.cond (.t 14) .skip (.exit 0)) (.seq (.block 1 (.seq (.z r_Z40_4) (.z r_Z40_5))) (.z r_Z40_6))))))) (.seq (.z r_Z40_7) .ret)))
theorem c_Z40 : cfun Tryz.prog [] 246 = some (31,dc_Z40,[(Res.tmp 8)]):=by kernel_rfl
def r_Z159_0 : List GI:=[gi 2 (.mov 2 (.k .nul))]
def r_Z159_1 : List GI:=[gi 3 (.mov 3 (.k .nul))]
def r_Z159_2 : List GI:=[gt 6 0,gn 7 6,gk 8 0]
def r_Z159_3 : List GI:=[gb 9 .lss 8 7]
def r_Z159_4 : List GI:=[ga 10 6 8 1,gl 11 10,gt 5 11]
def r_Z159_5 : List GI:=[gt 12 5]
def r_Z159_6 : List GI:=[gt 13 3,gi 14 (.bsl 14 1 none [I 0] [(0,.k (I 7))]),gi 15 (.app 15 2000015 (.t 13) (.t 14) 1 8),gt 3 15]
def r_Z159_7 : List GI:=[gt 16 3,gi 17 (.bsl 17 1 none [I 0] [(0,.k (I 3))]),gi 18 (.app 18 2000018 (.t 16) (.t 17) 1 8),gt 3 18]
def r_Z159_8 : List GI:=[gd 19 .add 8 1,gt 8 19]
def r_Z159_9 : List GI:=[gt 20 3,gt 2 20]
def dc_Z159 : DC:=.seq (.z r_Z159_0) (.seq (.z r_Z159_1) (.seq (.seq (.z r_Z159_2) (.block 0 (.loop (.seq (.z r_Z159_3) (.seq (.cond (.t 9) .skip (.exit 0)) (.seq (.block 1 (.seq (.z r_Z159_4) (.seq (.z r_Z159_5) (.cond (.t 12) (.z r_Z159_6) (.z r_Z159_7))))) (.z r_Z159_8))))))) (.seq (.z r_Z159_9) .ret)))
theorem c_Z159 : cfun Tryz.prog [] 247 = some (21,dc_Z159,[(Res.tmp 2)]):=by kernel_rfl
def r_Z50_0 : List GI:=[gi 3 (.box 3 2000003 (.t 0) (some 5)),gi 6 (.mov 6 (.k .nul))]
def r_Z50_1 : List GI:=[gs 7 3 5,gt 8 1,gc 9 26 [.t 7,.t 8],gd 10 .eql 9 0,gt 11 10,⟨.mov 12 (.t 2),some 12,some (11,false),false⟩,⟨.mov 13 (.t 1),some 13,some (11,false),false⟩,⟨.call 14 39 [.t 12,.t 13],some 14,some (11,false),true⟩,⟨.un 15 UnOp.not (.t 14),some 15,some (11,false),false⟩,gi 16 (.pick 16 (.t 11) (.k (.v (.bool true))) (.t 15))]
def r_Z50_2 : List GI:=[gi 6 (.mov 6 (.k .nul))]
def r_Z50_3 : List GI:=[gs 17 3 5,gt 18 2,gi 19 (.build 19 [.nul] [(0,(none,.t 18))]),gi 20 (.ifc 20 77 (.t 19)),gc 21 41 [.t 17,.t 20],gc 22 40 [.t 21],gt 6 22]
def dc_Z50 : DC:=.seq (.z r_Z50_0) (.seq (.seq (.z r_Z50_1) (.cond (.t 16) (.seq (.z r_Z50_2) .ret) .skip)) (.seq (.z r_Z50_3) .ret))
theorem c_Z50 : cfun Tryz.prog [] 15 = some (23,dc_Z50,[(Res.tmp 6)]):=by kernel_rfl
def r_Z22_0 : List GI:=[gi 2 (.box 2 2000002 (.t 0) (some 5)),gi 3 (.box 3 2000003 (.t 1) none),gi 4 (.mov 4 (.k .nul))]
def r_Z22_1 : List GI:=[gs 5 2 5,gi 6 (.mkf 6 88 [.t 3]),gc 7 87 [.t 5,.t 6],gt 4 7]
def dc_Z22 : DC:=.seq (.z r_Z22_0) (.seq (.z r_Z22_1) .ret)
theorem c_Z22 : cfun Tryz.prog [] 41 = some (8,dc_Z22,[(Res.tmp 4)]):=by kernel_rfl
def r_Z20_0 : List GI:=[gi 3 (.box 3 2000003 (.t 0) (some 5)),gi 5 (.mov 5 (.k .nul))]
def r_Z20_1 : List GI:=[gs 6 3 5,gt 7 1,gl 8 2,gc 9 89 [.t 6,.t 7,.t 8],gt 5 9]
def dc_Z20 : DC:=.seq (.z r_Z20_0) (.seq (.z r_Z20_1) .ret)
theorem c_Z20 : cfun Tryz.prog [] 88 = some (10,dc_Z20,[(Res.tmp 5)]):=by kernel_rfl
def r_Z46_0 : List GI:=[gi 2 (.box 2 2000002 (.t 0) (some 5)),gi 4 (.mov 4 (.k .nul))]
def r_Z46_1 : List GI:=[gi 5 (.mov 5 (.k .nul))]
def r_Z46_2 : List GI:=[gf 8 2 4,gl 9 8,gn 10 9,gk 11 0]
def r_Z46_3 : List GI:=[gb 12 .lss 11 10]
def r_Z46_4 : List GI:=[ga 13 9 11 5,gs 14 13 5,gi 7 (.alloc 7 2000007 [I 0,I 0,.nul,.nul,.nul]),g0 (.sto 7 (.t 14) (some 5))]
def r_Z46_5 : List GI:=[gt 15 5,gs 16 7 5,gt 17 1,gc 18 87 [.t 16,.t 17],gi 19 (.bsl 19 1 none [.nul] [(0,.t 18)]),gi 20 (.app 20 2000020 (.t 15) (.t 19) 1 24),gt 5 20]
def r_Z46_6 : List GI:=[gd 21 .add 11 1,gt 11 21]
def r_Z46_7 : List GI:=[gt 22 1,gs 23 2 5,gt 24 5,⟨.cal 25 (.t 22) [.t 23,.t 24],some 25,none,true⟩,gt 4 25]
def dc_Z46 : DC:=.seq (.z r_Z46_0) (.seq (.z r_Z46_1) (.seq (.seq (.z r_Z46_2) (.block 0 (.loop (.seq (.z r_Z46_3) (.seq (.cond (.t 12) .skip (.exit 0)) (.seq (.block 1 (.seq (.z r_Z46_4) (.z r_Z46_5))) (.z r_Z46_6))))))) (.seq (.z r_Z46_7) .ret)))
theorem c_Z46 : cfun Tryz.prog [] 87 = some (26,dc_Z46,[(Res.tmp 4)]):=by kernel_rfl
def r_Z137_0 : List GI:=[gi 4 (.mov 4 (.k (.v (.bool false))))]
def r_Z137_1 : List GI:=[gt 5 0,gt 6 1,⟨.call 7 85 [.t 5,.t 6,.k (.fn 86 [])],some 7,none,true⟩,gt 4 7]
def dc_Z137 : DC:=.seq (.z r_Z137_0) (.seq (.z r_Z137_1) .ret)
theorem c_Z137 : cfun Tryz.prog [] 39 = some (8,dc_Z137,[(Res.tmp 4)]):=by kernel_rfl
def r_Z98_0 : List GI:=[gi 4 (.mov 4 (.k (.v (.bool false))))]
def r_Z98_1 : List GI:=[gt 5 0,gn 6 5,gt 7 1,gb 8 .eql 6 7,gt 4 8]
def dc_Z98 : DC:=.seq (.z r_Z98_0) (.seq (.z r_Z98_1) .ret)
theorem c_Z98 : cfun Tryz.prog [] 86 = some (9,dc_Z98,[(Res.tmp 4)]):=by kernel_rfl
def r_Z36_0 : List GI:=[gi 3 (.box 3 2000003 (.t 0) (some 5)),gi 6 (.mov 6 (.k .nul))]
def r_Z36_1 : List GI:=[gf 7 3 0,gl 8 7]
def r_Z36_2 : List GI:=[gd 10 .eql 8 1,gt 9 10]
def r_Z36_3 : List GI:=[gt 11 2,gs 12 3 5,⟨.inv 13 (.t 11) name_impl_scan [.t 12],some 13,none,true⟩,gt 6 13]
def r_Z36_4 : List GI:=[gd 15 .eql 8 2,gt 14 15]
def r_Z36_5 : List GI:=[gt 16 2,gs 17 3 5,gt 18 1,gi 19 (.iad 19 18 (.k (I 0)) 1),gl 20 19,gi 21 (.mkb 21 name_impl_filter (.t 16)),gi 22 (.nilc 22 21),gt 23 16,⟨.inv 24 (.t 23) name_impl_filter [.t 17,.t 20],some 24,none,true⟩,gt 6 24]
def r_Z36_6 : List GI:=[gd 26 .eql 8 3,gt 25 26]
def r_Z36_7 : List GI:=[gt 27 2,gs 28 3 5,gt 29 1,gi 30 (.iad 30 29 (.k (I 0)) 1),gl 31 30,gi 32 (.mkb 32 name_impl_project (.t 27)),gi 33 (.nilc 33 32),gt 34 27,⟨.inv 35 (.t 34) name_impl_project [.t 28,.t 31],some 35,none,true⟩,gt 6 35]
def r_Z36_8 : List GI:=[gd 37 .eql 8 4,gt 36 37]
def r_Z36_9 : List GI:=[gt 38 2,gs 39 3 5,gt 40 1,gi 41 (.iad 41 40 (.k (I 0)) 1),gl 42 41,gt 43 1,gi 44 (.iad 44 43 (.k (I 1)) 1),gl 45 44,gi 46 (.mkb 46 name_impl_join (.t 38)),gi 47 (.nilc 47 46),gt 48 38,⟨.inv 49 (.t 48) name_impl_join [.t 39,.t 42,.t 45],some 49,none,true⟩,gt 6 49]
def r_Z36_10 : List GI:=[gd 51 .eql 8 5,gt 50 51]
def r_Z36_11 : List GI:=[gt 52 2,gs 53 3 5,gt 54 1,gi 55 (.iad 55 54 (.k (I 0)) 1),gl 56 55,gt 57 1,gi 58 (.iad 58 57 (.k (I 1)) 1),gl 59 58,gi 60 (.mkb 60 name_impl_leftJoin (.t 52)),gi 61 (.nilc 61 60),gt 62 52,⟨.inv 63 (.t 62) name_impl_leftJoin [.t 53,.t 56,.t 59],some 63,none,true⟩,gt 6 63]
def r_Z36_12 : List GI:=[gd 65 .eql 8 6,gt 64 65]
def r_Z36_13 : List GI:=[gt 66 2,gs 67 3 5,gt 68 1,gi 69 (.iad 69 68 (.k (I 0)) 1),gl 70 69,gt 71 1,gi 72 (.iad 72 71 (.k (I 1)) 1),gl 73 72,gi 74 (.mkb 74 name_impl_union (.t 66)),gi 75 (.nilc 75 74),gt 76 66,⟨.inv 77 (.t 76) name_impl_union [.t 67,.t 70,.t 73],some 77,none,true⟩,gt 6 77]
def r_Z36_14 : List GI:=[gd 79 .eql 8 7,gt 78 79]
def r_Z36_15 : List GI:=[gt 80 2,gs 81 3 5,gt 82 1,gi 83 (.iad 83 82 (.k (I 0)) 1),gl 84 83,gi 85 (.mkb 85 name_impl_distinct (.t 80)),gi 86 (.nilc 86 85),gt 87 80,⟨.inv 88 (.t 87) name_impl_distinct [.t 81,.t 84],some 88,none,true⟩,gt 6 88]
def r_Z36_16 : List GI:=[gt 89 2,gs 90 3 5,gt 91 1,gi 92 (.iad 92 91 (.k (I 0)) 1),gl 93 92,gi 94 (.mkb 94 name_impl_group (.t 89)),gi 95 (.nilc 95 94),gt 96 89,⟨.inv 97 (.t 96) name_impl_group [.t 90,.t 93],some 97,none,true⟩,gt 6 97]
def dc_Z36 : DC:=.seq (.z r_Z36_0) (.seq (.seq (.z r_Z36_1) (.block 0 (.seq (.z r_Z36_2) (.cond (.t 9) (.seq (.z r_Z36_3) .ret) (.seq (.z r_Z36_4) (.cond (.t 14) (.seq (.reg r_Z36_5 (some [0,0,0,4,12,1,33,97,255,511])) .ret) (.seq (.z r_Z36_6) (.cond (.t 25) (.seq (.reg r_Z36_7 (some [0,0,0,4,12,1,33,97,255,511])) .ret) (.seq (.z r_Z36_8) (.cond (.t 36) (.seq (.reg r_Z36_9 (some [0,0,0,4,12,0,32,96,1,257,769,2047,4095])) .ret) (.seq (.z r_Z36_10) (.cond (.t 50) (.seq (.reg r_Z36_11 (some [0,0,0,4,12,0,32,96,1,257,769,2047,4095])) .ret) (.seq (.z r_Z36_12) (.cond (.t 64) (.seq (.reg r_Z36_13 (some [0,0,0,4,12,0,32,96,1,257,769,2047,4095])) .ret) (.seq (.z r_Z36_14) (.cond (.t 78) (.seq (.reg r_Z36_15 (some [0,0,0,4,12,1,33,97,255,511])) .ret) .skip)))))))))))))))) (.seq (.reg r_Z36_16 (some [0,0,0,4,12,1,33,97,255,511])) .ret))
theorem c_Z36 : cfun Tryz.prog [] 89 = some (98,dc_Z36,[(Res.tmp 6)]):=by kernel_rfl
def r_Z30_0 : List GI:=[gi 2 (.mov 2 (.k .nul))]
def r_Z30_1 : List GI:=[gt 3 0,gi 4 (.isn 4 false (.t 3))]
def r_Z30_2 : List GI:=[gi 2 (.mov 2 (.k .nul))]
def r_Z30_3 : List GI:=[gi 5 (.mov 5 (.k .nul)),gt 6 0,gi 7 (.app 7 2000007 (.t 5) (.t 6) 1 1),gt 2 7]
def dc_Z30 : DC:=.seq (.z r_Z30_0) (.seq (.seq (.z r_Z30_1) (.cond (.t 4) (.seq (.z r_Z30_2) .ret) .skip)) (.seq (.z r_Z30_3) .ret))
theorem c_Z30 : cfun Tryz.prog [] 40 = some (8,dc_Z30,[(Res.tmp 2)]):=by kernel_rfl
def r_Z19_0 : List GI:=[gi 6 (.mov 6 (.k (.v (.bool false))))]
def r_Z19_1 : List GI:=[gt 10 0,gn 11 10,gt 12 1,gn 13 12,gb 14 .neq 11 13]
def r_Z19_2 : List GI:=[gi 6 (.mov 6 (.k (.v (.bool false))))]
def r_Z19_3 : List GI:=[gt 15 0,gn 16 15,gk 17 0]
def r_Z19_4 : List GI:=[gb 18 .lss 17 16]
def r_Z19_5 : List GI:=[gt 19 17,ga 20 15 17 1,gl 21 20,gt 7 19,gt 8 21]
def r_Z19_6 : List GI:=[gt 22 1,gt 23 7,ga 24 22 23 1,gl 25 24,gt 9 25]
def r_Z19_7 : List GI:=[gt 26 2,gt 27 8,gt 28 9,⟨.cal 29 (.t 26) [.t 27,.t 28],some 29,none,true⟩,gi 30 (.un 30 UnOp.not (.t 29))]
def r_Z19_8 : List GI:=[gi 6 (.mov 6 (.k (.v (.bool false))))]
def r_Z19_9 : List GI:=[gd 31 .add 17 1,gt 17 31]
def r_Z19_10 : List GI:=[gi 6 (.mov 6 (.k (.v (.bool true))))]
def dc_Z19 : DC:=.seq (.z r_Z19_0) (.seq (.seq (.z r_Z19_1) (.cond (.t 14) (.seq (.z r_Z19_2) .ret) .skip)) (.seq (.seq (.z r_Z19_3) (.block 0 (.loop (.seq (.z r_Z19_4) (.seq (.cond (.t 18) .skip (.exit 0)) (.seq (.block 1 (.seq (.z r_Z19_5) (.seq (.z r_Z19_6) (.seq (.z r_Z19_7) (.cond (.t 30) (.seq (.z r_Z19_8) .ret) .skip))))) (.z r_Z19_9))))))) (.seq (.z r_Z19_10) .ret)))
theorem c_Z19 : cfun Tryz.prog [] 85 = some (32,dc_Z19,[(Res.tmp 6)]):=by kernel_rfl
def r_Z156_0 : List GI:=[gi 2 (.box 2 2000002 (.t 0) (some 5)),gk 4 0]
def r_Z156_1 : List GI:=[gf 7 2 0,gl 8 7]
def r_Z156_2 : List GI:=[gd 10 .eql 8 1,gt 9 10]
def r_Z156_3 : List GI:=[gt 11 1,gf 12 2 1,gl 13 12,ga 14 11 13 1,gl 15 14,gt 4 15]
def r_Z156_4 : List GI:=[gd 17 .eql 8 2,gt 16 17]
def r_Z156_5 : List GI:=[gf 18 2 2,gs 19 18 2,gc 20 251 [.t 19],gt 4 20]
def r_Z156_6 : List GI:=[gf 21 2 4,gl 22 21,gi 23 (.iad 23 22 (.k (I 0)) 5),gs 24 23 5,gt 25 1,gc 26 248 [.t 24,.t 25],gt 5 26]
def r_Z156_7 : List GI:=[gf 27 2 0,gl 28 27]
def r_Z156_8 : List GI:=[gd 30 .eql 28 10,gt 29 30]
def r_Z156_9 : List GI:=[gt 31 5,gc 32 252 [.t 31],gt 4 32]
def r_Z156_10 : List GI:=[gd 34 .eql 28 11,gt 33 34]
def r_Z156_11 : List GI:=[gt 35 5,gc 36 253 [.t 35],gt 4 36]
def r_Z156_12 : List GI:=[gf 37 2 4,gl 38 37,gi 39 (.iad 39 38 (.k (I 1)) 5),gs 40 39 5,gt 41 1,gc 42 248 [.t 40,.t 41],gt 6 42]
def r_Z156_13 : List GI:=[gf 43 2 0,gl 44 43]
def r_Z156_14 : List GI:=[gd 46 .eql 44 8,gt 45 46]
def r_Z156_15 : List GI:=[gt 47 5,gt 48 6,⟨.call 49 254 [.t 47,.t 48,.k (.fn 255 [])],some 49,none,true⟩,gt 4 49]
def r_Z156_16 : List GI:=[gd 51 .eql 44 9,gt 50 51]
def r_Z156_17 : List GI:=[gt 52 5,gt 53 6,⟨.call 54 254 [.t 52,.t 53,.k (.fn 256 [])],some 54,none,true⟩,gt 4 54]
def r_Z156_18 : List GI:=[gd 56 .eql 44 6,gt 55 56]
def r_Z156_19 : List GI:=[gd 57 .eql 44 7,gt 55 57]
def r_Z156_20 : List GI:=[gt 58 5,gt 59 6,gc 60 257 [.t 58,.t 59],gt 4 60]
def r_Z156_21 : List GI:=[gt 61 5,gt 62 6,gc 63 258 [.t 61,.t 62],gt 4 63]
def dc_Z156 : DC:=.seq (.z r_Z156_0) (.seq (.seq (.z r_Z156_1) (.block 0 (.seq (.z r_Z156_2) (.cond (.t 9) (.seq (.z r_Z156_3) .ret) (.seq (.z r_Z156_4) (.cond (.t 16) (.seq (.z r_Z156_5) .ret) .skip)))))) (.seq (.z r_Z156_6) (.seq (.seq (.z r_Z156_7) (.block 1 (.seq (.z r_Z156_8) (.cond (.t 29) (.seq (.z r_Z156_9) .ret) (.seq (.z r_Z156_10) (.cond (.t 33) (.seq (.z r_Z156_11) .ret) .skip)))))) (.seq (.z r_Z156_12) (.seq (.seq (.z r_Z156_13) (.block 2 (.seq (.z r_Z156_14) (.cond (.t 45) (.seq (.z r_Z156_15) .ret) (.seq (.z r_Z156_16) (.cond (.t 50) (.seq (.z r_Z156_17) .ret) (.seq (.seq (.z r_Z156_18) (.cond (.t 55) .skip (.z r_Z156_19))) (.cond (.t 55) (.seq (.z r_Z156_20) .ret) .skip)))))))) (.seq (.z r_Z156_21) .ret))))))
theorem c_Z156 : cfun Tryz.prog [] 248 = some (64,dc_Z156,[(Res.tmp 4)]):=by kernel_rfl
end
end Go.Proofs.YtefldihjbaodnaaGreat
