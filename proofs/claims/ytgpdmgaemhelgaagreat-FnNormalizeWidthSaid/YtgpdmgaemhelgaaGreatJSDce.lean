/-
  What is left; a row that is filled. No condition.
-/
import Derived.KernelRfl
import Derived.Test.YtgpdmgaemhelgaaGreatJSVClA
import Derived.Test.YtgpdmgaemhelgaaGreatRows
import Derived.Test.YtgpdmgaemhelgaaGreatJSVBox
import Derived.Test.YtgpdmgaemhelgaaGreatJSVYld
set_option maxHeartbeats 4000000
set_option maxRecDepth 100000
namespace Go.Proofs.YtgpdmgaemhelgaaGreat
open Go.RowKit
def fil {α : Type} (f : α → D) (z : D) (l : List α) (i : Nat) : List D:=(l.take i).map f ++ List.replicate (l.length - i) z
theorem fil_len {α : Type} (f : α → D) (z : D) (l : List α) {i : Nat} (h : i ≤ l.length) : (fil f z l i).length = l.length:=by
 unfold fil
 rw [List.length_append,List.length_map,List.length_take,List.length_replicate]
 omega
theorem fil_zero {α : Type} (f : α → D) (z : D) (l : List α) : fil f z l 0 = List.replicate l.length z:=by
 unfold fil
 rw [List.take_zero,List.map_nil,List.nil_append,Nat.sub_zero]
theorem fil_end {α : Type} (f : α → D) (z : D) (l : List α) : fil f z l l.length = l.map f:=by
 unfold fil
 rw [List.take_length,Nat.sub_self,List.replicate_zero,List.append_nil]
theorem fil_set {α : Type} (f : α → D) (z : D) {l : List α} {i : Nat} {x : α} (h : l[i]? = some x) : (fil f z l i).set i (f x) = fil f z l (i + 1):=by
 have hlt:=(List.getElem?_eq_some_iff.1 h).1
 unfold fil
 have hl : ((l.take i).map f).length = i:=by rw [List.length_map,List.length_take]; omega
 rw [List.set_append_right _ _ (by omega),hl,Nat.sub_self,show l.length - i = (l.length - (i + 1)) + 1 by omega,List.replicate_succ,List.set_cons_zero,take_next h,List.map_append,List.map_cons,List.map_nil,List.append_assoc]
 rfl
theorem fil_get {α : Type} (f : α → D) (z : D) {l : List α} {i : Nat} (h : i < l.length) : (fil f z l i)[i]? = some z:=by
 unfold fil
 have hl : ((l.take i).map f).length = i:=by rw [List.length_map,List.length_take]; omega
 rw [List.getElem?_append_right (by omega),hl,Nat.sub_self,List.getElem?_replicate,if_pos (by omega)]
theorem fil_ren {α : Type} (f : α → D) (z : D) (hf : ∀ x,(f x).pur = true) (hz : z.pur = true) (l : List α) (i : Nat) (L : List Nat) : D.renL L (fil f z l i) = fil f z l i:=by
 refine ren_pure.renL_pure L _ (D.purL_iff.2 fun d hd=>?_)
 rcases List.mem_append.1 hd with hd | hd
 ·obtain ⟨x,_,rfl⟩:=List.mem_map.1 hd
  exact hf x
 ·rw [(List.mem_replicate.1 hd).2]
  exact hz
end Go.Proofs.YtgpdmgaemhelgaaGreat
namespace Go.Proofs.YtgpdmgaemhelgaaGreat
open Go.RowKit
noncomputable section
def r_Z121_0 : List GI:=[gi 2 (.box 2 2000002 (.t 0) (some 5)),gi 4 (.mov 4 (.k .nul))]
def r_Z121_1 : List GI:=[gs 7 2 5,gt 8 1,gc 9 19 [.t 7,.t 8],gd 10 .eql 9 0]
def r_Z121_2 : List GI:=[gi 4 (.mov 4 (.k .nul))]
def r_Z121_3 : List GI:=[gi 5 (.mov 5 (.k .nul))]
def r_Z121_4 : List GI:=[gt 11 1,gn 12 11,gk 13 0]
def r_Z121_5 : List GI:=[gb 14 .lss 13 12]
def r_Z121_6 : List GI:=[gt 15 13,gt 6 15]
def r_Z121_7 : List GI:=[gs 16 2 5,gt 17 6,gc 18 57 [.t 16,.t 17]]
def r_Z121_8 : List GI:=[gt 19 5,gt 20 6,gi 21 (.bsl 21 1 none [I 0] [(0,.t 20)]),gi 22 (.app 22 2000022 (.t 19) (.t 21) 1 8),gt 5 22]
def r_Z121_9 : List GI:=[gd 23 .add 13 1,gt 13 23]
def r_Z121_10 : List GI:=[gt 24 5,gt 4 24]
def dc_Z121 : DC:=.seq (.z r_Z121_0) (.seq (.seq (.z r_Z121_1) (.cond (.t 10) (.seq (.z r_Z121_2) .ret) .skip)) (.seq (.z r_Z121_3) (.seq (.seq (.z r_Z121_4) (.block 0 (.loop (.seq (.z r_Z121_5) (.seq (.cond (.t 14) .skip (.exit 0)) (.seq (.block 1 (.seq (.z r_Z121_6) (.seq (.z r_Z121_7) (.cond (.t 18) (.z r_Z121_8) .skip)))) (.z r_Z121_9))))))) (.seq (.z r_Z121_10) .ret))))
theorem c_Z121 : cfun Tryz.prog [] 21 = some (25,dc_Z121,[(Res.tmp 4)]):=by kernel_rfl
def r_Z162_0 : List GI:=[gi 2 (.box 2 2000002 (.t 0) (some 5)),gi 3 (.box 3 2000003 (.t 1) none),gi 4 (.mov 4 (.k (.v (.bool false))))]
def r_Z162_1 : List GI:=[gf 5 2 0,gl 6 5,gd 7 .eql 6 1]
def r_Z162_2 : List GI:=[gf 8 2 1,gl 9 8,gl 10 3,gb 11 .eql 9 10,gt 4 11]
def r_Z162_3 : List GI:=[gf 12 2 4,gl 13 12,gi 14 (.mkf 14 104 [.t 3]),gc 15 103 [.t 13,.t 14],gt 4 15]
def dc_Z162 : DC:=.seq (.z r_Z162_0) (.seq (.seq (.z r_Z162_1) (.cond (.t 7) (.seq (.z r_Z162_2) .ret) .skip)) (.seq (.z r_Z162_3) .ret))
theorem c_Z162 : cfun Tryz.prog [] 57 = some (16,dc_Z162,[(Res.tmp 4)]):=by kernel_rfl
def r_Z144_0 : List GI:=[gi 2 (.box 2 2000002 (.t 0) (some 5)),gi 3 (.mov 3 (.k (.v (.bool false))))]
def r_Z144_1 : List GI:=[gs 4 2 5,gl 5 1,gc 6 57 [.t 4,.t 5],gt 3 6]
def dc_Z144 : DC:=.seq (.z r_Z144_0) (.seq (.z r_Z144_1) .ret)
theorem c_Z144 : cfun Tryz.prog [] 104 = some (7,dc_Z144,[(Res.tmp 3)]):=by kernel_rfl
def r_Z2_0 : List GI:=[gi 4 (.mov 4 (.k (.v (.bool false))))]
def r_Z2_1 : List GI:=[gt 5 0,gt 6 1,gc 7 148 [.t 5,.t 6],gd 8 .geq 7 0,gt 4 8]
def dc_Z2 : DC:=.seq (.z r_Z2_0) (.seq (.z r_Z2_1) .ret)
theorem c_Z2 : cfun Tryz.prog [] 103 = some (9,dc_Z2,[(Res.tmp 4)]):=by kernel_rfl
def r_Z3_0 : List GI:=[gk 4 0]
def r_Z3_1 : List GI:=[gt 6 0,gn 7 6,gk 8 0]
def r_Z3_2 : List GI:=[gb 9 .lss 8 7]
def r_Z3_3 : List GI:=[gt 10 8,gt 5 10]
def r_Z3_4 : List GI:=[gt 11 1,gt 12 0,gt 13 5,ga 14 12 13 5,gs 15 14 5,⟨.cal 16 (.t 11) [.t 15],some 16,none,true⟩]
def r_Z3_5 : List GI:=[gt 17 5,gt 4 17]
def r_Z3_6 : List GI:=[gd 18 .add 8 1,gt 8 18]
def r_Z3_7 : List GI:=[gi 4 (.mov 4 (.k (.v (.int .i64 (-1)))))]
def dc_Z3 : DC:=.seq (.z r_Z3_0) (.seq (.seq (.z r_Z3_1) (.block 0 (.loop (.seq (.z r_Z3_2) (.seq (.cond (.t 9) .skip (.exit 0)) (.seq (.block 1 (.seq (.z r_Z3_3) (.seq (.z r_Z3_4) (.cond (.t 16) (.seq (.z r_Z3_5) .ret) .skip)))) (.z r_Z3_6))))))) (.seq (.z r_Z3_7) .ret))
theorem c_Z3 : cfun Tryz.prog [] 148 = some (19,dc_Z3,[(Res.tmp 4)]):=by kernel_rfl
def r_Z16_0 : List GI:=[gi 2 (.mov 2 (.k .nul))]
def r_Z16_1 : List GI:=[gt 3 0,gi 4 (.isn 4 false (.t 3))]
def r_Z16_2 : List GI:=[gi 2 (.mov 2 (.k .nul))]
def r_Z16_3 : List GI:=[gi 5 (.mov 5 (.k .nul)),gt 6 0,gi 7 (.app 7 2000007 (.t 5) (.t 6) 1 8),gt 2 7]
def dc_Z16 : DC:=.seq (.z r_Z16_0) (.seq (.seq (.z r_Z16_1) (.cond (.t 4) (.seq (.z r_Z16_2) .ret) .skip)) (.seq (.z r_Z16_3) .ret))
theorem c_Z16 : cfun Tryz.prog [] 92 = some (8,dc_Z16,[(Res.tmp 2)]):=by kernel_rfl
def r_Z5_0 : List GI:=[gi 2 (.mov 2 (.k .nul))]
def r_Z5_1 : List GI:=[gt 3 0,gi 4 (.isn 4 false (.t 3))]
def r_Z5_2 : List GI:=[gi 2 (.mov 2 (.k .nul))]
def r_Z5_3 : List GI:=[gi 5 (.mov 5 (.k .nul)),gt 6 0,gi 7 (.app 7 2000007 (.t 5) (.t 6) 5 88),gt 2 7]
def dc_Z5 : DC:=.seq (.z r_Z5_0) (.seq (.seq (.z r_Z5_1) (.cond (.t 4) (.seq (.z r_Z5_2) .ret) .skip)) (.seq (.z r_Z5_3) .ret))
theorem c_Z5 : cfun Tryz.prog [] 93 = some (8,dc_Z5,[(Res.tmp 2)]):=by kernel_rfl
def r_Z59_0 : List GI:=[gi 2 (.mov 2 (.k .nul))]
def r_Z59_1 : List GI:=[gt 5 0,gt 6 0,gi 7 (.nilc 7 6),gf 8 7 2,gl 9 8,gc 10 90 [.t 9],gi 11 (.nilc 11 5),gf 12 11 2,g0 (.sto 12 (.t 10) none)]
def r_Z59_2 : List GI:=[gt 13 0,gi 14 (.nilc 14 13),gf 15 14 2,gl 16 15,gn 17 16,gk 18 0]
def r_Z59_3 : List GI:=[gb 19 .lss 18 17]
def r_Z59_4 : List GI:=[gt 20 18,ga 21 16 18 5,gs 22 21 5,gi 4 (.alloc 4 2000004 [I 0,I 0,.v (.bool false),I 0,.nul]),gt 3 20,g0 (.sto 4 (.t 22) (some 5))]
def r_Z59_5 : List GI:=[gt 23 0,gi 24 (.nilc 24 23),gf 25 24 2,gl 26 25,gt 27 3,gs 28 4 5,gc 29 91 [.t 28],ga 30 26 27 5,g0 (.sto 30 (.t 29) (some 5))]
def r_Z59_6 : List GI:=[gd 31 .add 18 1,gt 18 31]
def r_Z59_7 : List GI:=[gt 32 0,gt 33 0,gi 34 (.nilc 34 33),gf 35 34 3,gl 36 35,gc 37 92 [.t 36],gi 38 (.nilc 38 32),gf 39 38 3,g0 (.sto 39 (.t 37) none)]
def r_Z59_8 : List GI:=[gt 40 0,gt 41 0,gi 42 (.nilc 42 41),gf 43 42 4,gl 44 43,gc 45 93 [.t 44],gi 46 (.nilc 46 40),gf 47 46 4,g0 (.sto 47 (.t 45) none)]
def r_Z59_9 : List GI:=[gt 48 0,gi 49 (.nilc 49 48),gf 50 49 4,gl 51 50,gt 2 51]
def dc_Z59 : DC:=.seq (.z r_Z59_0) (.seq (.z r_Z59_1) (.seq (.seq (.z r_Z59_2) (.block 0 (.loop (.seq (.z r_Z59_3) (.seq (.cond (.t 19) .skip (.exit 0)) (.seq (.block 1 (.seq (.z r_Z59_4) (.reg r_Z59_5 (some [0,1,3,7,0,0,32,127,255])))) (.z r_Z59_6))))))) (.seq (.z r_Z59_7) (.seq (.z r_Z59_8) (.seq (.z r_Z59_9) .ret)))))
theorem c_Z59 : cfun Tryz.prog [] 89 = some (52,dc_Z59,[(Res.tmp 2)]):=by kernel_rfl
def r_Z102_0 : List GI:=[gi 1 (.box 1 2000001 (.t 0) (some 5)),gi 2 (.alloc 2 2000002 [I 0,I 0,.nul,.nul,.nul])]
def r_Z102_1 : List GI:=[gs 3 1 5,⟨.call 4 88 [.t 3,.k (.fn 89 [])],some 4,none,true⟩,g0 (.sto 2 (.t 4) (some 5))]
def dc_Z102 : DC:=.seq (.z r_Z102_0) (.seq (.z r_Z102_1) .ret)
theorem c_Z102 : cfun Tryz.prog [] 52 = some (5,dc_Z102,[(Res.cell 2 (some 5))]):=by kernel_rfl
def r_Z10_0 : List GI:=[gi 2 (.box 2 2000002 (.t 0) (some 5)),gi 4 (.alloc 4 2000004 [I 0,I 0,.nul,.nul,.nul])]
def r_Z10_1 : List GI:=[gi 9 (.bslx 9 2000009 1 none [.v (.pointer none)] [(0,.t 2)]),gt 5 9]
def r_Z10_2 : List GI:=[gt 10 5,gn 11 10,gd 12 .gtr 11 0]
def r_Z10_3 : List GI:=[gt 13 5,gt 14 5,gn 15 14,gd 16 .sub 15 1,ga 17 13 16 1,gl 18 17,gt 6 18]
def r_Z10_4 : List GI:=[gt 19 5,gt 20 5,gn 21 20,gd 22 .sub 21 1,gi 23 (.slc 23 (.t 19) none (some (.t 22)) 1),gt 5 23]
def r_Z10_5 : List GI:=[gt 24 1,gt 25 6,⟨.cal 26 (.t 24) [.t 25],some 26,none,true⟩,gt 7 26]
def r_Z10_6 : List GI:=[gt 27 7,gn 28 27,gk 29 0]
def r_Z10_7 : List GI:=[gb 30 .lss 29 28]
def r_Z10_8 : List GI:=[gt 31 29,gt 8 31]
def r_Z10_9 : List GI:=[gt 32 5,gt 33 7,gt 34 8,ga 35 33 34 5,gi 36 (.bslx 36 2000036 1 none [.v (.pointer none)] [(0,.t 35)]),gi 37 (.app 37 2000037 (.t 32) (.t 36) 1 8),gt 5 37]
def r_Z10_10 : List GI:=[gd 38 .add 29 1,gt 29 38]
def r_Z10_11 : List GI:=[gs 39 2 5,g0 (.sto 4 (.t 39) (some 5))]
def dc_Z10 : DC:=.seq (.z r_Z10_0) (.seq (.seq (.z r_Z10_1) (.block 0 (.loop (.seq (.seq (.z r_Z10_2) (.cond (.t 12) .skip (.exit 0))) (.block 1 (.seq (.z r_Z10_3) (.seq (.z r_Z10_4) (.seq (.z r_Z10_5) (.seq (.z r_Z10_6) (.block 2 (.loop (.seq (.z r_Z10_7) (.seq (.cond (.t 30) .skip (.exit 2)) (.seq (.block 3 (.seq (.z r_Z10_8) (.z r_Z10_9))) (.z r_Z10_10))))))))))))))) (.seq (.z r_Z10_11) .ret))
theorem c_Z10 : cfun Tryz.prog [9,36] 88 = some (40,dc_Z10,[(Res.cell 4 (some 5))]):=by kernel_rfl
def r_Z27_0 : List GI:=[gi 3 (.box 3 2000003 (.t 1) (some 5)),gi 4 (.alloc 4 2000004 [I 0,I 0,.nul,.nul,.nul]),gi 5 (.mov 5 (.k (.v (.bool false))))]
def r_Z27_1 : List GI:=[gt 8 0,gn 9 8,gd 10 .gtr 9 8]
def r_Z27_2 : List GI:=[gi 11 (.build 11 [I 0,I 0,.nul,.nul,.nul] []),g0 (.sto 4 (.t 11) (some 5)),gi 5 (.mov 5 (.k (.v (.bool false))))]
def r_Z27_3 : List GI:=[gt 12 0,gn 13 12,gk 14 0]
def r_Z27_4 : List GI:=[gb 15 .lss 14 13]
def r_Z27_5 : List GI:=[ga 16 12 14 1,gl 17 16,gt 7 17]
def r_Z27_6 : List GI:=[gt 18 7,gd 19 .lss 18 0,gt 20 19,⟨.mov 21 (.t 7),some 21,some (20,false),false⟩,⟨.fad 22 3 4,some 22,some (20,false),false⟩,⟨.lod 23 22 none,some 23,some (20,false),false⟩,⟨.len 24 (.t 23),some 24,some (20,false),false⟩,⟨.bin 25 .geq (.t 21) (.t 24),some 25,some (20,false),false⟩,gi 26 (.pick 26 (.t 20) (.k (.v (.bool true))) (.t 25))]
def r_Z27_7 : List GI:=[gi 27 (.build 27 [I 0,I 0,.nul,.nul,.nul] []),g0 (.sto 4 (.t 27) (some 5)),gi 5 (.mov 5 (.k (.v (.bool false))))]
def r_Z27_8 : List GI:=[gf 28 3 4,gl 29 28,gt 30 7,ga 31 29 30 5,gs 32 31 5,g0 (.sto 3 (.t 32) (some 5))]
def r_Z27_9 : List GI:=[gd 33 .add 14 1,gt 14 33]
def r_Z27_10 : List GI:=[gs 34 3 5,g0 (.sto 4 (.t 34) (some 5)),gi 5 (.mov 5 (.k (.v (.bool true))))]
def dc_Z27 : DC:=.seq (.z r_Z27_0) (.seq (.seq (.z r_Z27_1) (.cond (.t 10) (.seq (.z r_Z27_2) .ret) .skip)) (.seq (.seq (.z r_Z27_3) (.block 0 (.loop (.seq (.z r_Z27_4) (.seq (.cond (.t 15) .skip (.exit 0)) (.seq (.block 1 (.seq (.z r_Z27_5) (.seq (.seq (.z r_Z27_6) (.cond (.t 26) (.seq (.z r_Z27_7) .ret) .skip)) (.z r_Z27_8)))) (.z r_Z27_9))))))) (.seq (.z r_Z27_10) .ret)))
theorem c_Z27 : cfun Tryz.prog [] 85 = some (35,dc_Z27,[(Res.cell 4 (some 5)),(Res.tmp 5)]):=by kernel_rfl
def r_Z85_0 : List GI:=[gi 2 (.box 2 2000002 (.t 0) (some 5)),gi 3 (.box 3 2000003 (.t 1) (some 5)),gi 4 (.mov 4 (.k (.v (.bool false))))]
def r_Z85_1 : List GI:=[gf 5 2 0,gl 6 5,gf 7 3 0,gl 8 7,gb 9 .eql 6 8,gt 10 9,⟨.fad 11 2 1,some 11,some (10,true),false⟩,⟨.lod 12 11 none,some 12,some (10,true),false⟩,⟨.fad 13 3 1,some 13,some (10,true),false⟩,⟨.lod 14 13 none,some 14,some (10,true),false⟩,⟨.bin 15 .eql (.t 12) (.t 14),some 15,some (10,true),false⟩,gi 16 (.pick 16 (.t 10) (.t 15) (.k (.v (.bool false)))),gt 17 16,⟨.fad 18 2 2,some 18,some (17,true),false⟩,⟨.lod 19 18 (some 2),some 19,some (17,true),false⟩,⟨.fad 20 3 2,some 20,some (17,true),false⟩,⟨.lod 21 20 (some 2),some 21,some (17,true),false⟩,⟨.eqs 22 false [false,true] (.t 19) (.t 21),some 22,some (17,true),false⟩,gi 23 (.pick 23 (.t 17) (.t 22) (.k (.v (.bool false)))),gt 24 23,⟨.fad 25 2 4,some 25,some (24,true),false⟩,⟨.lod 26 25 none,some 26,some (24,true),false⟩,⟨.fad 27 3 4,some 27,some (24,true),false⟩,⟨.lod 28 27 none,some 28,some (24,true),false⟩,⟨.call 29 27 [.t 26,.t 28],some 29,some (24,true),true⟩,gi 30 (.pick 30 (.t 24) (.t 29) (.k (.v (.bool false)))),gt 4 30]
def dc_Z85 : DC:=.seq (.z r_Z85_0) (.seq (.z r_Z85_1) .ret)
theorem c_Z85 : cfun Tryz.prog [] 61 = some (31,dc_Z85,[(Res.tmp 4)]):=by kernel_rfl
def r_Z108_0 : List GI:=[gi 4 (.mov 4 (.k (.v (.bool false))))]
def r_Z108_1 : List GI:=[gt 6 0,gn 7 6,gt 8 1,gn 9 8,gb 10 .neq 7 9]
def r_Z108_2 : List GI:=[gi 4 (.mov 4 (.k (.v (.bool false))))]
def r_Z108_3 : List GI:=[gk 5 0]
def r_Z108_4 : List GI:=[gt 11 5,gt 12 0,gn 13 12,gb 14 .lss 11 13]
def r_Z108_5 : List GI:=[gt 17 0,gt 18 5,ga 19 17 18 1,gl 20 19,gt 21 1,gt 22 5,ga 23 21 22 1,gl 24 23,gb 25 .neq 20 24]
def r_Z108_6 : List GI:=[gi 4 (.mov 4 (.k (.v (.bool false))))]
def r_Z108_7 : List GI:=[gt 15 5,gd 16 .add 15 1,gt 5 16]
def r_Z108_8 : List GI:=[gi 4 (.mov 4 (.k (.v (.bool true))))]
def dc_Z108 : DC:=.seq (.z r_Z108_0) (.seq (.seq (.z r_Z108_1) (.cond (.t 10) (.seq (.z r_Z108_2) .ret) .skip)) (.seq (.seq (.z r_Z108_3) (.block 0 (.loop (.seq (.seq (.z r_Z108_4) (.cond (.t 14) .skip (.exit 0))) (.seq (.block 1 (.seq (.reg r_Z108_5 (some [0,0,3,7,0,0,48,112,255])) (.cond (.t 25) (.seq (.z r_Z108_6) .ret) .skip))) (.z r_Z108_7)))))) (.seq (.z r_Z108_8) .ret)))
theorem c_Z108 : cfun Tryz.prog [] 20 = some (26,dc_Z108,[(Res.tmp 4)]):=by kernel_rfl
def r_Z86_0 : List GI:=[gi 4 (.mov 4 (.k (.v (.bool false))))]
def r_Z86_1 : List GI:=[gt 6 0,gn 7 6,gt 8 1,gn 9 8,gb 10 .neq 7 9]
def r_Z86_2 : List GI:=[gi 4 (.mov 4 (.k (.v (.bool false))))]
def r_Z86_3 : List GI:=[gk 5 0]
def r_Z86_4 : List GI:=[gt 11 5,gt 12 0,gn 13 12,gb 14 .lss 11 13]
def r_Z86_5 : List GI:=[gt 17 0,gt 18 5,ga 19 17 18 5,gs 20 19 5,gt 21 1,gt 22 5,ga 23 21 22 5,gs 24 23 5,gc 25 61 [.t 20,.t 24],gi 26 (.un 26 UnOp.not (.t 25))]
def r_Z86_6 : List GI:=[gi 4 (.mov 4 (.k (.v (.bool false))))]
def r_Z86_7 : List GI:=[gt 15 5,gd 16 .add 15 1,gt 5 16]
def r_Z86_8 : List GI:=[gi 4 (.mov 4 (.k (.v (.bool true))))]
def dc_Z86 : DC:=.seq (.z r_Z86_0) (.seq (.seq (.z r_Z86_1) (.cond (.t 10) (.seq (.z r_Z86_2) .ret) .skip)) (.seq (.seq (.z r_Z86_3) (.block 0 (.loop (.seq (.seq (.z r_Z86_4) (.cond (.t 14) .skip (.exit 0))) (.seq (.block 1 (.seq (.reg r_Z86_5 (some [0,0,3,7,0,0,48,112,255,511])) (.cond (.t 26) (.seq (.z r_Z86_6) .ret) .skip))) (.z r_Z86_7)))))) (.seq (.z r_Z86_8) .ret)))
theorem c_Z86 : cfun Tryz.prog [] 27 = some (27,dc_Z86,[(Res.tmp 4)]):=by kernel_rfl
def r_Z87_0 : List GI:=[gi 2 (.box 2 2000002 (.t 0) (some 5)),gi 3 (.box 3 2000003 (.t 1) (some 5)),gi 4 (.mov 4 (.k (.v (.bool false))))]
def r_Z87_1 : List GI:=[gf 6 2 0,gl 7 6,gf 8 3 0,gl 9 8,gb 10 .neq 7 9,gt 11 10,⟨.fad 12 2 1,some 12,some (11,false),false⟩,⟨.lod 13 12 none,some 13,some (11,false),false⟩,⟨.fad 14 3 1,some 14,some (11,false),false⟩,⟨.lod 15 14 none,some 15,some (11,false),false⟩,⟨.bin 16 .neq (.t 13) (.t 15),some 16,some (11,false),false⟩,gi 17 (.pick 17 (.t 11) (.k (.v (.bool true))) (.t 16)),gt 18 17,⟨.fad 19 2 2,some 19,some (18,false),false⟩,⟨.lod 20 19 none,some 20,some (18,false),false⟩,⟨.fad 21 3 2,some 21,some (18,false),false⟩,⟨.lod 22 21 none,some 22,some (18,false),false⟩,⟨.call 23 27 [.t 20,.t 22],some 23,some (18,false),true⟩,⟨.un 24 UnOp.not (.t 23),some 24,some (18,false),false⟩,gi 25 (.pick 25 (.t 18) (.k (.v (.bool true))) (.t 24)),gt 26 25,⟨.fad 27 2 3,some 27,some (26,false),false⟩,⟨.lod 28 27 none,some 28,some (26,false),false⟩,⟨.fad 29 3 3,some 29,some (26,false),false⟩,⟨.lod 30 29 none,some 30,some (26,false),false⟩,⟨.call 31 20 [.t 28,.t 30],some 31,some (26,false),true⟩,⟨.un 32 UnOp.not (.t 31),some 32,some (26,false),false⟩,gi 33 (.pick 33 (.t 26) (.k (.v (.bool true))) (.t 32)),gt 34 33,⟨.fad 35 2 4,some 35,some (34,false),false⟩,⟨.lod 36 35 none,some 36,some (34,false),false⟩,⟨.len 37 (.t 36),some 37,some (34,false),false⟩,⟨.fad 38 3 4,some 38,some (34,false),false⟩,⟨.lod 39 38 none,some 39,some (34,false),false⟩,⟨.len 40 (.t 39),some 40,some (34,false),false⟩,⟨.bin 41 .neq (.t 37) (.t 40),some 41,some (34,false),false⟩,gi 42 (.pick 42 (.t 34) (.k (.v (.bool true))) (.t 41))]
def r_Z87_2 : List GI:=[gi 4 (.mov 4 (.k (.v (.bool false))))]
def r_Z87_3 : List GI:=[gk 5 0]
def r_Z87_4 : List GI:=[gt 43 5,gf 44 2 4,gl 45 44,gn 46 45,gb 47 .lss 43 46]
def r_Z87_5 : List GI:=[gf 50 2 4,gl 51 50,gt 52 5,ga 53 51 52 5,gs 54 53 5,gf 55 3 4,gl 56 55,gt 57 5,ga 58 56 57 5,gs 59 58 5,gc 60 18 [.t 54,.t 59],gi 61 (.un 61 UnOp.not (.t 60))]
def r_Z87_6 : List GI:=[gi 4 (.mov 4 (.k (.v (.bool false))))]
def r_Z87_7 : List GI:=[gt 48 5,gd 49 .add 48 1,gt 5 49]
def r_Z87_8 : List GI:=[gi 4 (.mov 4 (.k (.v (.bool true))))]
def dc_Z87 : DC:=.seq (.z r_Z87_0) (.seq (.seq (.z r_Z87_1) (.cond (.t 42) (.seq (.z r_Z87_2) .ret) .skip)) (.seq (.seq (.z r_Z87_3) (.block 0 (.loop (.seq (.seq (.z r_Z87_4) (.cond (.t 47) .skip (.exit 0))) (.seq (.block 1 (.seq (.reg r_Z87_5 (some [0,1,0,7,15,0,32,0,224,480,1023,2047])) (.cond (.t 61) (.seq (.z r_Z87_6) .ret) .skip))) (.z r_Z87_7)))))) (.seq (.z r_Z87_8) .ret)))
theorem c_Z87 : cfun Tryz.prog [] 18 = some (62,dc_Z87,[(Res.tmp 4)]):=by kernel_rfl
def r_Z160_0 : List GI:=[gi 2 (.box 2 2000002 (.t 0) (some 5)),gi 4 (.alloc 4 2000004 [I 0,I 0,.nul,.nul,.nul]),gi 5 (.mov 5 (.k (.v (.bool false))))]
def r_Z160_1 : List GI:=[gk 6 0]
def r_Z160_2 : List GI:=[gt 7 6,gt 8 1,gn 9 8,gb 10 .lss 7 9]
def r_Z160_3 : List GI:=[gt 13 1,gt 14 6,ga 15 13 14 1,gl 16 15,gf 17 2 4,gl 18 17,gn 19 18,gd 20 .sub 19 1,gc 21 136 [.t 16,.k (I 0),.t 20],gi 22 (.un 22 UnOp.not (.t 21))]
def r_Z160_4 : List GI:=[gi 23 (.build 23 [I 0,I 0,.nul,.nul,.nul] []),g0 (.sto 4 (.t 23) (some 5)),gi 5 (.mov 5 (.k (.v (.bool false))))]
def r_Z160_5 : List GI:=[gf 24 2 4,gl 25 24,gt 26 1,gt 27 6,ga 28 26 27 1,gl 29 28,ga 30 25 29 5,gs 31 30 5,g0 (.sto 2 (.t 31) (some 5))]
def r_Z160_6 : List GI:=[gt 11 6,gd 12 .add 11 1,gt 6 12]
def r_Z160_7 : List GI:=[gs 32 2 5,g0 (.sto 4 (.t 32) (some 5)),gi 5 (.mov 5 (.k (.v (.bool true))))]
def dc_Z160 : DC:=.seq (.z r_Z160_0) (.seq (.seq (.z r_Z160_1) (.block 0 (.loop (.seq (.seq (.z r_Z160_2) (.cond (.t 10) .skip (.exit 0))) (.seq (.block 1 (.seq (.seq (.reg r_Z160_3 (some [0,0,3,7,0,16,48,112,255,511])) (.cond (.t 22) (.seq (.z r_Z160_4) .ret) .skip)) (.reg r_Z160_5 (some [0,1,0,0,12,28,63,127,255])))) (.z r_Z160_6)))))) (.seq (.z r_Z160_7) .ret))
theorem c_Z160 : cfun Tryz.prog [] 96 = some (33,dc_Z160,[(Res.cell 4 (some 5)),(Res.tmp 5)]):=by kernel_rfl
end
end Go.Proofs.YtgpdmgaemhelgaaGreat
