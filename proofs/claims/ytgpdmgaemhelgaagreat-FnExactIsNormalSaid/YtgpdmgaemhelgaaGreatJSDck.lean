/-
  Functions of the program read as code on plain data. Closed facts of the program alone.
-/
import Derived.KernelRfl
import Derived.Test.YtgpdmgaemhelgaaGreatRows
import Derived.Test.YtgpdmgaemhelgaaGreatJSVGo
import Derived.Test.YtgpdmgaemhelgaaGreatJSVFrzB
namespace Go.Proofs.YtgpdmgaemhelgaaGreat
open Go.RowKit
noncomputable section
def r_Z3_0 : List GI:=[gi 2 (.mov 2 (.k .nul))]
def r_Z3_1 : List GI:=[gt 3 0,gi 4 (.isn 4 false (.t 3))]
def r_Z3_2 : List GI:=[gi 2 (.mov 2 (.k .nul))]
def r_Z3_3 : List GI:=[gi 5 (.mov 5 (.k .nul)),gt 6 0,gi 7 (.app 7 2000007 (.t 5) (.t 6) 5 88),gt 2 7]
def dc_Z3 : DC:=.seq (.z r_Z3_0) (.seq (.seq (.z r_Z3_1) (.cond (.t 4) (.seq (.z r_Z3_2) .ret) .skip)) (.seq (.z r_Z3_3) .ret))
theorem c_Z3 : cfun Tryz.prog [] 93 = some (8,dc_Z3,[(Res.tmp 2)]):=by kernel_rfl
def r_Z23_0 : List GI:=[gi 3 (.box 3 2000003 (.t 1) (some 5)),gi 4 (.alloc 4 2000004 [I 0,I 0,.nul,.nul,.nul]),gi 5 (.mov 5 (.k (.v (.bool false))))]
def r_Z23_1 : List GI:=[gt 8 0,gn 9 8,gd 10 .gtr 9 8]
def r_Z23_2 : List GI:=[gi 11 (.build 11 [I 0,I 0,.nul,.nul,.nul] []),g0 (.sto 4 (.t 11) (some 5)),gi 5 (.mov 5 (.k (.v (.bool false))))]
def r_Z23_3 : List GI:=[gt 12 0,gn 13 12,gk 14 0]
def r_Z23_4 : List GI:=[gb 15 .lss 14 13]
def r_Z23_5 : List GI:=[ga 16 12 14 1,gl 17 16,gt 7 17]
def r_Z23_6 : List GI:=[gt 18 7,gd 19 .lss 18 0,gt 20 19,⟨.mov 21 (.t 7),some 21,some (20,false),false⟩,⟨.fad 22 3 4,some 22,some (20,false),false⟩,⟨.lod 23 22 none,some 23,some (20,false),false⟩,⟨.len 24 (.t 23),some 24,some (20,false),false⟩,⟨.bin 25 .geq (.t 21) (.t 24),some 25,some (20,false),false⟩,gi 26 (.pick 26 (.t 20) (.k (.v (.bool true))) (.t 25))]
def r_Z23_7 : List GI:=[gi 27 (.build 27 [I 0,I 0,.nul,.nul,.nul] []),g0 (.sto 4 (.t 27) (some 5)),gi 5 (.mov 5 (.k (.v (.bool false))))]
def r_Z23_8 : List GI:=[gf 28 3 4,gl 29 28,gt 30 7,ga 31 29 30 5,gs 32 31 5,g0 (.sto 3 (.t 32) (some 5))]
def r_Z23_9 : List GI:=[gd 33 .add 14 1,gt 14 33]
def r_Z23_10 : List GI:=[gs 34 3 5,g0 (.sto 4 (.t 34) (some 5)),gi 5 (.mov 5 (.k (.v (.bool true))))]
def dc_Z23 : DC:=.seq (.z r_Z23_0) (.seq (.seq (.z r_Z23_1) (.cond (.t 10) (.seq (.z r_Z23_2) .ret) .skip)) (.seq (.seq (.z r_Z23_3) (.block 0 (.loop (.seq (.z r_Z23_4) (.seq (.cond (.t 15) .skip (.exit 0)) (.seq (.block 1 (.seq (.z r_Z23_5) (.seq (.seq (.z r_Z23_6) (.cond (.t 26) (.seq (.z r_Z23_7) .ret) .skip)) (.z r_Z23_8)))) (.z r_Z23_9))))))) (.seq (.z r_Z23_10) .ret)))
theorem c_Z23 : cfun Tryz.prog [] 85 = some (35,dc_Z23,[(Res.cell 4 (some 5)),(Res.tmp 5)]):=by kernel_rfl
def r_Z153_0 : List GI:=[gi 2 (.box 2 2000002 (.t 0) (some 5)),gi 4 (.alloc 4 2000004 [I 0,I 0,.nul,.nul,.nul]),gi 5 (.mov 5 (.k (.v (.bool false))))]
def r_Z153_1 : List GI:=[gk 6 0]
def r_Z153_2 : List GI:=[gt 7 6,gt 8 1,gn 9 8,gb 10 .lss 7 9]
def r_Z153_3 : List GI:=[gt 13 1,gt 14 6,ga 15 13 14 1,gl 16 15,gf 17 2 4,gl 18 17,gn 19 18,gd 20 .sub 19 1,gc 21 136 [.t 16,.k (I 0),.t 20],gi 22 (.un 22 UnOp.not (.t 21))]
def r_Z153_4 : List GI:=[gi 23 (.build 23 [I 0,I 0,.nul,.nul,.nul] []),g0 (.sto 4 (.t 23) (some 5)),gi 5 (.mov 5 (.k (.v (.bool false))))]
def r_Z153_5 : List GI:=[gf 24 2 4,gl 25 24,gt 26 1,gt 27 6,ga 28 26 27 1,gl 29 28,ga 30 25 29 5,gs 31 30 5,g0 (.sto 2 (.t 31) (some 5))]
def r_Z153_6 : List GI:=[gt 11 6,gd 12 .add 11 1,gt 6 12]
def r_Z153_7 : List GI:=[gs 32 2 5,g0 (.sto 4 (.t 32) (some 5)),gi 5 (.mov 5 (.k (.v (.bool true))))]
def dc_Z153 : DC:=.seq (.z r_Z153_0) (.seq (.seq (.z r_Z153_1) (.block 0 (.loop (.seq (.seq (.z r_Z153_2) (.cond (.t 10) .skip (.exit 0))) (.seq (.block 1 (.seq (.seq (.reg r_Z153_3 (some [0,0,3,7,0,16,48,112,255,511])) (.cond (.t 22) (.seq (.z r_Z153_4) .ret) .skip)) (.reg r_Z153_5 (some [0,1,0,0,12,28,63,127,255])))) (.z r_Z153_6)))))) (.seq (.z r_Z153_7) .ret))
theorem c_Z153 : cfun Tryz.prog [] 96 = some (33,dc_Z153,[(Res.cell 4 (some 5)),(Res.tmp 5)]):=by kernel_rfl
end
end Go.Proofs.YtgpdmgaemhelgaaGreat
set_option maxHeartbeats 4000000
set_option maxRecDepth 100000
namespace Go.Proofs.YtgpdmgaemhelgaaGreat
open Go.RowKit
def szV (m : Nat) (left : Int) : Int:=if (m : Int) ≤ left then left - m else -1
theorem szV_t {m : Nat} {left : Int} (h : (m : Int) ≤ left) : szV m left = left - m:=if_pos h
theorem szV_f {m : Nat} {left : Int} (h : ¬ (m : Int) ≤ left) : szV m left = -1:=if_neg h
def fil {α : Type} (f : α → D) (z : D) (l : List α) (i : Nat) : List D:=(l.take i).map f ++ List.replicate (l.length - i) z
theorem fil_len {α : Type} (f : α → D) (z : D) (l : List α) {i : Nat} (h : i ≤ l.length) : (fil f z l i).length = l.length:=by
 unfold fil
 rw [List.length_append,List.length_map,List.length_take,List.length_replicate]
 omega
theorem fil_zero {α : Type} (f : α → D) (z : D) (l : List α) : fil f z l 0 = List.replicate l.length z:=by
 unfold fil
 rw [List.take_zero,List.map_nil,List.nil_append,Nat.sub_zero]
theorem fil_end {α : Type} (f : α → D) (z : D) (l : List α) : fil f z l l.length = l.map f:=by
 unfold fil
 rw [List.take_length,Nat.sub_self,List.replicate_zero,List.append_nil]
theorem fil_set {α : Type} (f : α → D) (z : D) {l : List α} {i : Nat} {x : α} (h : l[i]? = some x) : (fil f z l i).set i (f x) = fil f z l (i + 1):=by
 have hlt:=(List.getElem?_eq_some_iff.1 h).1
 unfold fil
 have hl : ((l.take i).map f).length = i:=by rw [List.length_map,List.length_take]; omega
 rw [List.set_append_right _ _ (by omega),hl,Nat.sub_self,show l.length - i = (l.length - (i + 1)) + 1 by omega,List.replicate_succ,List.set_cons_zero,take_next h,List.map_append,List.map_cons,List.map_nil,List.append_assoc]
 rfl
theorem fil_take {α : Type} (f : α → D) (z : D) (l : List α) {i : Nat} (h : i ≤ l.length) : (fil f z l i).take l.length = fil f z l i:=List.take_of_length_le (by rw [fil_len f z l h]; exact Nat.le_refl _)
theorem fil_get {α : Type} (f : α → D) (z : D) {l : List α} {i : Nat} (h : i < l.length) : (fil f z l i)[i]? = some z:=by
 unfold fil
 have hl : ((l.take i).map f).length = i:=by rw [List.length_map,List.length_take]; omega
 rw [List.getElem?_append_right (by omega),hl,Nat.sub_self,List.getElem?_replicate,if_pos (by omega)]
theorem fil_ren {α : Type} (f : α → D) (z : D) (hf : ∀ x,(f x).pur = true) (hz : z.pur = true) (l : List α) (i : Nat) (L : List Nat) : D.renL L (fil f z l i) = fil f z l i:=by
 refine ren_pure.renL_pure L _ (D.purL_iff.2 fun d hd=>?_)
 rcases List.mem_append.1 hd with hd | hd
 ·obtain ⟨x,_,rfl⟩:=List.mem_map.1 hd
  exact hf x
 ·rw [(List.mem_replicate.1 hd).2]
  exact hz
end Go.Proofs.YtgpdmgaemhelgaaGreat
namespace Go.Proofs.YtgpdmgaemhelgaaGreat
open Go.RowKit
noncomputable section
def r_Z125_0 : List GI:=[gk 4 0]
def r_Z125_1 : List GI:=[gt 6 1,gt 7 0,gn 8 7,gb 9 .sub 6 8,gt 1 9]
def r_Z125_2 : List GI:=[gt 10 1,gd 11 .lss 10 0]
def r_Z125_3 : List GI:=[gi 4 (.mov 4 (.k (.v (.int .i64 (-1)))))]
def r_Z125_4 : List GI:=[gk 5 0]
def r_Z125_5 : List GI:=[gt 12 5,gt 13 0,gn 14 13,gb 15 .lss 12 14]
def r_Z125_6 : List GI:=[gt 18 0,gt 19 5,ga 20 18 19 2,gs 21 20 2,gt 22 1,gc 23 73 [.t 21,.t 22],gt 1 23]
def r_Z125_7 : List GI:=[gt 24 1,gd 25 .lss 24 0]
def r_Z125_8 : List GI:=[gi 4 (.mov 4 (.k (.v (.int .i64 (-1)))))]
def r_Z125_9 : List GI:=[gt 16 5,gd 17 .add 16 1,gt 5 17]
def r_Z125_10 : List GI:=[gt 26 1,gt 4 26]
def dc_Z125 : DC:=.seq (.z r_Z125_0) (.seq (.z r_Z125_1) (.seq (.seq (.z r_Z125_2) (.cond (.t 11) (.seq (.z r_Z125_3) .ret) .skip)) (.seq (.seq (.z r_Z125_4) (.block 0 (.loop (.seq (.seq (.z r_Z125_5) (.cond (.t 15) .skip (.exit 0))) (.seq (.block 1 (.seq (.z r_Z125_6) (.seq (.z r_Z125_7) (.cond (.t 25) (.seq (.z r_Z125_8) .ret) .skip)))) (.z r_Z125_9)))))) (.seq (.z r_Z125_10) .ret))))
theorem c_Z125 : cfun Tryz.prog [] 41 = some (27,dc_Z125,[(Res.tmp 4)]):=by kernel_rfl
def r_Z149_0 : List GI:=[gi 1 (.box 1 2000001 (.t 0) (some 2)),gi 2 (.alloc 2 2000002 [I 0,.nul])]
def r_Z149_1 : List GI:=[gi 3 (.alloc 3 2000003 [I 0,.nul])]
def r_Z149_2 : List GI:=[gf 4 1 0,gl 5 4,gf 6 3 0,g0 (.sto 6 (.t 5) none)]
def r_Z149_3 : List GI:=[gf 7 1 1,gl 8 7,gc 9 43 [.t 8],gf 10 3 1,g0 (.sto 10 (.t 9) none)]
def r_Z149_4 : List GI:=[gs 11 3 2,g0 (.sto 2 (.t 11) (some 2))]
def dc_Z149 : DC:=.seq (.z r_Z149_0) (.seq (.z r_Z149_1) (.seq (.z r_Z149_2) (.seq (.z r_Z149_3) (.seq (.z r_Z149_4) .ret))))
theorem c_Z149 : cfun Tryz.prog [] 76 = some (12,dc_Z149,[(Res.cell 2 (some 2))]):=by kernel_rfl
def r_Z128_0 : List GI:=[gi 2 (.mov 2 (.k .nul))]
def r_Z128_1 : List GI:=[gt 5 0,gn 6 5,gi 7 (.mks 7 2000007 (.t 6) 2 32 (.agg [I 0,.nul])),gt 3 7]
def r_Z128_2 : List GI:=[gk 4 0]
def r_Z128_3 : List GI:=[gt 8 4,gt 9 0,gn 10 9,gb 11 .lss 8 10]
def r_Z128_4 : List GI:=[gt 14 3,gt 15 4,gt 16 0,gt 17 4,ga 18 16 17 2,gs 19 18 2,gc 20 76 [.t 19],ga 21 14 15 2,g0 (.sto 21 (.t 20) (some 2))]
def r_Z128_5 : List GI:=[gt 12 4,gd 13 .add 12 1,gt 4 13]
def r_Z128_6 : List GI:=[gt 22 3,gt 2 22]
def dc_Z128 : DC:=.seq (.z r_Z128_0) (.seq (.z r_Z128_1) (.seq (.seq (.z r_Z128_2) (.block 0 (.loop (.seq (.seq (.z r_Z128_3) (.cond (.t 11) .skip (.exit 0))) (.seq (.block 1 (.z r_Z128_4)) (.z r_Z128_5)))))) (.seq (.z r_Z128_6) .ret)))
theorem c_Z128 : cfun Tryz.prog [] 44 = some (23,dc_Z128,[(Res.tmp 2)]):=by kernel_rfl
def r_Z122_0 : List GI:=[gi 2 (.box 2 2000002 (.t 0) (some 2)),gi 3 (.box 3 2000003 (.t 1) (some 2)),gi 4 (.mov 4 (.k (.v (.bool false))))]
def r_Z122_1 : List GI:=[gf 5 2 0,gl 6 5,gf 7 3 0,gl 8 7,gi 9 (.beq 9 true (.t 6) (.t 8))]
def r_Z122_2 : List GI:=[gi 4 (.mov 4 (.k (.v (.bool false))))]
def r_Z122_3 : List GI:=[gf 10 2 1,gl 11 10,gf 12 3 1,gl 13 12,gb 14 .neq 11 13]
def r_Z122_4 : List GI:=[gi 4 (.mov 4 (.k (.v (.bool false))))]
def r_Z122_5 : List GI:=[gi 4 (.mov 4 (.k (.v (.bool true))))]
def dc_Z122 : DC:=.seq (.z r_Z122_0) (.seq (.seq (.z r_Z122_1) (.cond (.t 9) (.seq (.z r_Z122_2) .ret) .skip)) (.seq (.seq (.z r_Z122_3) (.cond (.t 14) (.seq (.z r_Z122_4) .ret) .skip)) (.seq (.z r_Z122_5) .ret)))
theorem c_Z122 : cfun Tryz.prog [] 152 = some (15,dc_Z122,[(Res.tmp 4)]):=by kernel_rfl
def r_Z129_0 : List GI:=[gi 1 (.box 1 2000001 (.t 0) (some 2)),gi 2 (.alloc 2 2000002 [.v (.bool false),I 0])]
def r_Z129_1 : List GI:=[gi 3 (.alloc 3 2000003 [.v (.bool false),I 0])]
def r_Z129_2 : List GI:=[gf 4 1 0,gl 5 4,gf 6 3 0,g0 (.sto 6 (.t 5) none)]
def r_Z129_3 : List GI:=[gf 7 1 1,gl 8 7,gf 9 3 1,g0 (.sto 9 (.t 8) none)]
def r_Z129_4 : List GI:=[gs 10 3 2,g0 (.sto 2 (.t 10) (some 2))]
def dc_Z129 : DC:=.seq (.z r_Z129_0) (.seq (.z r_Z129_1) (.seq (.z r_Z129_2) (.seq (.z r_Z129_3) (.seq (.z r_Z129_4) .ret))))
theorem c_Z129 : cfun Tryz.prog [] 151 = some (11,dc_Z129,[(Res.cell 2 (some 2))]):=by kernel_rfl
def r_Z138_0 : List GI:=[gi 2 (.box 2 2000002 (.t 0) (some 5)),gi 3 (.box 3 2000003 (.t 1) (some 5)),gi 4 (.mov 4 (.k (.v (.bool false))))]
def r_Z138_1 : List GI:=[gf 5 2 0,gl 6 5,gf 7 3 0,gl 8 7,gb 9 .neq 6 8]
def r_Z138_2 : List GI:=[gi 4 (.mov 4 (.k (.v (.bool false))))]
def r_Z138_3 : List GI:=[gf 10 2 1,gl 11 10,gf 12 3 1,gl 13 12,gb 14 .neq 11 13]
def r_Z138_4 : List GI:=[gi 4 (.mov 4 (.k (.v (.bool false))))]
def r_Z138_5 : List GI:=[gf 15 2 2,gs 16 15 2,gf 17 3 2,gs 18 17 2,gc 19 152 [.t 16,.t 18],gi 20 (.un 20 UnOp.not (.t 19))]
def r_Z138_6 : List GI:=[gi 4 (.mov 4 (.k (.v (.bool false))))]
def r_Z138_7 : List GI:=[gf 21 2 4,gl 22 21,gf 23 3 4,gl 24 23,gc 25 77 [.t 22,.t 24],gi 26 (.un 26 UnOp.not (.t 25))]
def r_Z138_8 : List GI:=[gi 4 (.mov 4 (.k (.v (.bool false))))]
def r_Z138_9 : List GI:=[gi 4 (.mov 4 (.k (.v (.bool true))))]
def dc_Z138 : DC:=.seq (.z r_Z138_0) (.seq (.seq (.z r_Z138_1) (.cond (.t 9) (.seq (.z r_Z138_2) .ret) .skip)) (.seq (.seq (.z r_Z138_3) (.cond (.t 14) (.seq (.z r_Z138_4) .ret) .skip)) (.seq (.seq (.z r_Z138_5) (.cond (.t 20) (.seq (.z r_Z138_6) .ret) .skip)) (.seq (.seq (.z r_Z138_7) (.cond (.t 26) (.seq (.z r_Z138_8) .ret) .skip)) (.seq (.z r_Z138_9) .ret)))))
theorem c_Z138 : cfun Tryz.prog [] 119 = some (27,dc_Z138,[(Res.tmp 4)]):=by kernel_rfl
def r_Z119_0 : List GI:=[gi 4 (.mov 4 (.k (.v (.bool false))))]
def r_Z119_1 : List GI:=[gt 6 0,gn 7 6,gt 8 1,gn 9 8,gb 10 .neq 7 9]
def r_Z119_2 : List GI:=[gi 4 (.mov 4 (.k (.v (.bool false))))]
def r_Z119_3 : List GI:=[gk 5 0]
def r_Z119_4 : List GI:=[gt 11 5,gt 12 0,gn 13 12,gb 14 .lss 11 13]
def r_Z119_5 : List GI:=[gt 17 0,gt 18 5,ga 19 17 18 5,gs 20 19 5,gt 21 1,gt 22 5,ga 23 21 22 5,gs 24 23 5,gc 25 119 [.t 20,.t 24],gi 26 (.un 26 UnOp.not (.t 25))]
def r_Z119_6 : List GI:=[gi 4 (.mov 4 (.k (.v (.bool false))))]
def r_Z119_7 : List GI:=[gt 15 5,gd 16 .add 15 1,gt 5 16]
def r_Z119_8 : List GI:=[gi 4 (.mov 4 (.k (.v (.bool true))))]
def dc_Z119 : DC:=.seq (.z r_Z119_0) (.seq (.seq (.z r_Z119_1) (.cond (.t 10) (.seq (.z r_Z119_2) .ret) .skip)) (.seq (.seq (.z r_Z119_3) (.block 0 (.loop (.seq (.seq (.z r_Z119_4) (.cond (.t 14) .skip (.exit 0))) (.seq (.block 1 (.seq (.reg r_Z119_5 (some [0,0,3,7,0,0,48,112,255,511])) (.cond (.t 26) (.seq (.z r_Z119_6) .ret) .skip))) (.z r_Z119_7)))))) (.seq (.z r_Z119_8) .ret)))
theorem c_Z119 : cfun Tryz.prog [] 77 = some (27,dc_Z119,[(Res.tmp 4)]):=by kernel_rfl
def r_Z142_0 : List GI:=[gi 2 (.box 2 2000002 (.t 0) (some 5)),gk 4 0]
def r_Z142_1 : List GI:=[gf 5 2 4,gl 6 5,gt 7 1,gc 8 70 [.t 6,.t 7],gt 1 8]
def r_Z142_2 : List GI:=[gt 9 1,gd 10 .lss 9 0]
def r_Z142_3 : List GI:=[gi 4 (.mov 4 (.k (.v (.int .i64 (-1)))))]
def r_Z142_4 : List GI:=[gt 11 1,gt 4 11]
def dc_Z142 : DC:=.seq (.z r_Z142_0) (.seq (.z r_Z142_1) (.seq (.seq (.z r_Z142_2) (.cond (.t 10) (.seq (.z r_Z142_3) .ret) .skip)) (.seq (.z r_Z142_4) .ret)))
theorem c_Z142 : cfun Tryz.prog [] 117 = some (12,dc_Z142,[(Res.tmp 4)]):=by kernel_rfl
def r_Z123_0 : List GI:=[gk 4 0]
def r_Z123_1 : List GI:=[gt 6 1,gt 7 0,gn 8 7,gb 9 .sub 6 8,gt 1 9]
def r_Z123_2 : List GI:=[gt 10 1,gd 11 .lss 10 0]
def r_Z123_3 : List GI:=[gi 4 (.mov 4 (.k (.v (.int .i64 (-1)))))]
def r_Z123_4 : List GI:=[gk 5 0]
def r_Z123_5 : List GI:=[gt 12 5,gt 13 0,gn 14 13,gb 15 .lss 12 14]
def r_Z123_6 : List GI:=[gt 18 0,gt 19 5,ga 20 18 19 5,gs 21 20 5,gt 22 1,gc 23 117 [.t 21,.t 22],gt 1 23]
def r_Z123_7 : List GI:=[gt 24 1,gd 25 .lss 24 0]
def r_Z123_8 : List GI:=[gi 4 (.mov 4 (.k (.v (.int .i64 (-1)))))]
def r_Z123_9 : List GI:=[gt 16 5,gd 17 .add 16 1,gt 5 17]
def r_Z123_10 : List GI:=[gt 26 1,gt 4 26]
def dc_Z123 : DC:=.seq (.z r_Z123_0) (.seq (.z r_Z123_1) (.seq (.seq (.z r_Z123_2) (.cond (.t 11) (.seq (.z r_Z123_3) .ret) .skip)) (.seq (.seq (.z r_Z123_4) (.block 0 (.loop (.seq (.seq (.z r_Z123_5) (.cond (.t 15) .skip (.exit 0))) (.seq (.block 1 (.seq (.z r_Z123_6) (.seq (.z r_Z123_7) (.cond (.t 25) (.seq (.z r_Z123_8) .ret) .skip)))) (.z r_Z123_9)))))) (.seq (.z r_Z123_10) .ret))))
theorem c_Z123 : cfun Tryz.prog [] 70 = some (27,dc_Z123,[(Res.tmp 4)]):=by kernel_rfl
def r_Z146_0 : List GI:=[gi 1 (.box 1 2000001 (.t 0) (some 5)),gi 2 (.alloc 2 2000002 [I 0,I 0,.v (.bool false),I 0,.nul])]
def r_Z146_1 : List GI:=[gi 3 (.alloc 3 2000003 [I 0,I 0,.v (.bool false),I 0,.nul])]
def r_Z146_2 : List GI:=[gf 4 1 0,gl 5 4,gf 6 3 0,g0 (.sto 6 (.t 5) none)]
def r_Z146_3 : List GI:=[gf 7 1 1,gl 8 7,gf 9 3 1,g0 (.sto 9 (.t 8) none)]
def r_Z146_4 : List GI:=[gf 10 1 2,gs 11 10 2,gc 12 151 [.t 11],gf 13 3 2,g0 (.sto 13 (.t 12) (some 2))]
def r_Z146_5 : List GI:=[gf 14 1 4,gl 15 14,gc 16 74 [.t 15],gf 17 3 4,g0 (.sto 17 (.t 16) none)]
def r_Z146_6 : List GI:=[gs 18 3 5,g0 (.sto 2 (.t 18) (some 5))]
def dc_Z146 : DC:=.seq (.z r_Z146_0) (.seq (.z r_Z146_1) (.seq (.z r_Z146_2) (.seq (.z r_Z146_3) (.seq (.z r_Z146_4) (.seq (.z r_Z146_5) (.seq (.z r_Z146_6) .ret))))))
theorem c_Z146 : cfun Tryz.prog [] 118 = some (19,dc_Z146,[(Res.cell 2 (some 5))]):=by kernel_rfl
def r_Z126_0 : List GI:=[gi 2 (.mov 2 (.k .nul))]
def r_Z126_1 : List GI:=[gt 5 0,gn 6 5,gi 7 (.mks 7 2000007 (.t 6) 5 56 (.agg [I 0,I 0,.v (.bool false),I 0,.nul])),gt 3 7]
def r_Z126_2 : List GI:=[gk 4 0]
def r_Z126_3 : List GI:=[gt 8 4,gt 9 0,gn 10 9,gb 11 .lss 8 10]
def r_Z126_4 : List GI:=[gt 14 3,gt 15 4,gt 16 0,gt 17 4,ga 18 16 17 5,gs 19 18 5,gc 20 118 [.t 19],ga 21 14 15 5,g0 (.sto 21 (.t 20) (some 5))]
def r_Z126_5 : List GI:=[gt 12 4,gd 13 .add 12 1,gt 4 13]
def r_Z126_6 : List GI:=[gt 22 3,gt 2 22]
def dc_Z126 : DC:=.seq (.z r_Z126_0) (.seq (.z r_Z126_1) (.seq (.seq (.z r_Z126_2) (.block 0 (.loop (.seq (.seq (.z r_Z126_3) (.cond (.t 11) .skip (.exit 0))) (.seq (.block 1 (.z r_Z126_4)) (.z r_Z126_5)))))) (.seq (.z r_Z126_6) .ret)))
theorem c_Z126 : cfun Tryz.prog [] 74 = some (23,dc_Z126,[(Res.tmp 2)]):=by kernel_rfl
def r_Z140_0 : List GI:=[gi 2 (.box 2 2000002 (.t 0) (some 5)),gi 3 (.box 3 2000003 (.t 1) (some 5)),gi 4 (.mov 4 (.k (.v (.bool false))))]
def r_Z140_1 : List GI:=[gf 5 2 0,gl 6 5,gf 7 3 0,gl 8 7,gb 9 .neq 6 8]
def r_Z140_2 : List GI:=[gi 4 (.mov 4 (.k (.v (.bool false))))]
def r_Z140_3 : List GI:=[gf 10 2 1,gl 11 10,gf 12 3 1,gl 13 12,gb 14 .neq 11 13]
def r_Z140_4 : List GI:=[gi 4 (.mov 4 (.k (.v (.bool false))))]
def r_Z140_5 : List GI:=[gf 15 2 2,gl 16 15,gf 17 3 2,gl 18 17,gc 19 77 [.t 16,.t 18],gi 20 (.un 20 UnOp.not (.t 19))]
def r_Z140_6 : List GI:=[gi 4 (.mov 4 (.k (.v (.bool false))))]
def r_Z140_7 : List GI:=[gf 21 2 3,gl 22 21,gf 23 3 3,gl 24 23,gc 25 46 [.t 22,.t 24],gi 26 (.un 26 UnOp.not (.t 25))]
def r_Z140_8 : List GI:=[gi 4 (.mov 4 (.k (.v (.bool false))))]
def r_Z140_9 : List GI:=[gf 27 2 4,gl 28 27,gf 29 3 4,gl 30 29,gc 31 78 [.t 28,.t 30],gi 32 (.un 32 UnOp.not (.t 31))]
def r_Z140_10 : List GI:=[gi 4 (.mov 4 (.k (.v (.bool false))))]
def r_Z140_11 : List GI:=[gi 4 (.mov 4 (.k (.v (.bool true))))]
def dc_Z140 : DC:=.seq (.z r_Z140_0) (.seq (.seq (.z r_Z140_1) (.cond (.t 9) (.seq (.z r_Z140_2) .ret) .skip)) (.seq (.seq (.z r_Z140_3) (.cond (.t 14) (.seq (.z r_Z140_4) .ret) .skip)) (.seq (.seq (.z r_Z140_5) (.cond (.t 20) (.seq (.z r_Z140_6) .ret) .skip)) (.seq (.seq (.z r_Z140_7) (.cond (.t 26) (.seq (.z r_Z140_8) .ret) .skip)) (.seq (.seq (.z r_Z140_9) (.cond (.t 32) (.seq (.z r_Z140_10) .ret) .skip)) (.seq (.z r_Z140_11) .ret))))))
theorem c_Z140 : cfun Tryz.prog [] 45 = some (33,dc_Z140,[(Res.tmp 4)]):=by kernel_rfl
def r_Z120_0 : List GI:=[gi 4 (.mov 4 (.k (.v (.bool false))))]
def r_Z120_1 : List GI:=[gt 6 0,gn 7 6,gt 8 1,gn 9 8,gb 10 .neq 7 9]
def r_Z120_2 : List GI:=[gi 4 (.mov 4 (.k (.v (.bool false))))]
def r_Z120_3 : List GI:=[gk 5 0]
def r_Z120_4 : List GI:=[gt 11 5,gt 12 0,gn 13 12,gb 14 .lss 11 13]
def r_Z120_5 : List GI:=[gt 17 0,gt 18 5,ga 19 17 18 5,gs 20 19 5,gt 21 1,gt 22 5,ga 23 21 22 5,gs 24 23 5,gc 25 45 [.t 20,.t 24],gi 26 (.un 26 UnOp.not (.t 25))]
def r_Z120_6 : List GI:=[gi 4 (.mov 4 (.k (.v (.bool false))))]
def r_Z120_7 : List GI:=[gt 15 5,gd 16 .add 15 1,gt 5 16]
def r_Z120_8 : List GI:=[gi 4 (.mov 4 (.k (.v (.bool true))))]
def dc_Z120 : DC:=.seq (.z r_Z120_0) (.seq (.seq (.z r_Z120_1) (.cond (.t 10) (.seq (.z r_Z120_2) .ret) .skip)) (.seq (.seq (.z r_Z120_3) (.block 0 (.loop (.seq (.seq (.z r_Z120_4) (.cond (.t 14) .skip (.exit 0))) (.seq (.block 1 (.seq (.reg r_Z120_5 (some [0,0,3,7,0,0,48,112,255,511])) (.cond (.t 26) (.seq (.z r_Z120_6) .ret) .skip))) (.z r_Z120_7)))))) (.seq (.z r_Z120_8) .ret)))
theorem c_Z120 : cfun Tryz.prog [] 78 = some (27,dc_Z120,[(Res.tmp 4)]):=by kernel_rfl
def r_Z144_0 : List GI:=[gi 2 (.box 2 2000002 (.t 0) (some 5)),gk 4 0]
def r_Z144_1 : List GI:=[gf 5 2 2,gl 6 5,gt 7 1,gc 8 70 [.t 6,.t 7],gt 1 8]
def r_Z144_2 : List GI:=[gt 9 1,gd 10 .lss 9 0]
def r_Z144_3 : List GI:=[gi 4 (.mov 4 (.k (.v (.int .i64 (-1)))))]
def r_Z144_4 : List GI:=[gf 11 2 3,gl 12 11,gt 13 1,gc 14 71 [.t 12,.t 13],gt 1 14]
def r_Z144_5 : List GI:=[gt 15 1,gd 16 .lss 15 0]
def r_Z144_6 : List GI:=[gi 4 (.mov 4 (.k (.v (.int .i64 (-1)))))]
def r_Z144_7 : List GI:=[gf 17 2 4,gl 18 17,gt 19 1,gc 20 72 [.t 18,.t 19],gt 1 20]
def r_Z144_8 : List GI:=[gt 21 1,gd 22 .lss 21 0]
def r_Z144_9 : List GI:=[gi 4 (.mov 4 (.k (.v (.int .i64 (-1)))))]
def r_Z144_10 : List GI:=[gt 23 1,gt 4 23]
def dc_Z144 : DC:=.seq (.z r_Z144_0) (.seq (.z r_Z144_1) (.seq (.seq (.z r_Z144_2) (.cond (.t 10) (.seq (.z r_Z144_3) .ret) .skip)) (.seq (.z r_Z144_4) (.seq (.seq (.z r_Z144_5) (.cond (.t 16) (.seq (.z r_Z144_6) .ret) .skip)) (.seq (.z r_Z144_7) (.seq (.seq (.z r_Z144_8) (.cond (.t 22) (.seq (.z r_Z144_9) .ret) .skip)) (.seq (.z r_Z144_10) .ret)))))))
theorem c_Z144 : cfun Tryz.prog [] 40 = some (24,dc_Z144,[(Res.tmp 4)]):=by kernel_rfl
def r_Z124_0 : List GI:=[gk 4 0]
def r_Z124_1 : List GI:=[gt 6 1,gt 7 0,gn 8 7,gb 9 .sub 6 8,gt 1 9]
def r_Z124_2 : List GI:=[gt 10 1,gd 11 .lss 10 0]
def r_Z124_3 : List GI:=[gi 4 (.mov 4 (.k (.v (.int .i64 (-1)))))]
def r_Z124_4 : List GI:=[gk 5 0]
def r_Z124_5 : List GI:=[gt 12 5,gt 13 0,gn 14 13,gb 15 .lss 12 14]
def r_Z124_6 : List GI:=[gt 18 0,gt 19 5,ga 20 18 19 5,gs 21 20 5,gt 22 1,gc 23 40 [.t 21,.t 22],gt 1 23]
def r_Z124_7 : List GI:=[gt 24 1,gd 25 .lss 24 0]
def r_Z124_8 : List GI:=[gi 4 (.mov 4 (.k (.v (.int .i64 (-1)))))]
def r_Z124_9 : List GI:=[gt 16 5,gd 17 .add 16 1,gt 5 17]
def r_Z124_10 : List GI:=[gt 26 1,gt 4 26]
def dc_Z124 : DC:=.seq (.z r_Z124_0) (.seq (.z r_Z124_1) (.seq (.seq (.z r_Z124_2) (.cond (.t 11) (.seq (.z r_Z124_3) .ret) .skip)) (.seq (.seq (.z r_Z124_4) (.block 0 (.loop (.seq (.seq (.z r_Z124_5) (.cond (.t 15) .skip (.exit 0))) (.seq (.block 1 (.seq (.z r_Z124_6) (.seq (.z r_Z124_7) (.cond (.t 25) (.seq (.z r_Z124_8) .ret) .skip)))) (.z r_Z124_9)))))) (.seq (.z r_Z124_10) .ret))))
theorem c_Z124 : cfun Tryz.prog [] 72 = some (27,dc_Z124,[(Res.tmp 4)]):=by kernel_rfl
def r_Z148_0 : List GI:=[gi 1 (.box 1 2000001 (.t 0) (some 5)),gi 2 (.alloc 2 2000002 [I 0,I 0,.nul,.nul,.nul])]
def r_Z148_1 : List GI:=[gi 3 (.alloc 3 2000003 [I 0,I 0,.nul,.nul,.nul])]
def r_Z148_2 : List GI:=[gf 4 1 0,gl 5 4,gf 6 3 0,g0 (.sto 6 (.t 5) none)]
def r_Z148_3 : List GI:=[gf 7 1 1,gl 8 7,gf 9 3 1,g0 (.sto 9 (.t 8) none)]
def r_Z148_4 : List GI:=[gf 10 1 2,gl 11 10,gc 12 74 [.t 11],gf 13 3 2,g0 (.sto 13 (.t 12) none)]
def r_Z148_5 : List GI:=[gf 14 1 3,gl 15 14,gc 16 43 [.t 15],gf 17 3 3,g0 (.sto 17 (.t 16) none)]
def r_Z148_6 : List GI:=[gf 18 1 4,gl 19 18,gc 20 75 [.t 19],gf 21 3 4,g0 (.sto 21 (.t 20) none)]
def r_Z148_7 : List GI:=[gs 22 3 5,g0 (.sto 2 (.t 22) (some 5))]
def dc_Z148 : DC:=.seq (.z r_Z148_0) (.seq (.z r_Z148_1) (.seq (.z r_Z148_2) (.seq (.z r_Z148_3) (.seq (.z r_Z148_4) (.seq (.z r_Z148_5) (.seq (.z r_Z148_6) (.seq (.z r_Z148_7) .ret)))))))
theorem c_Z148 : cfun Tryz.prog [] 42 = some (23,dc_Z148,[(Res.cell 2 (some 5))]):=by kernel_rfl
def r_Z127_0 : List GI:=[gi 2 (.mov 2 (.k .nul))]
def r_Z127_1 : List GI:=[gt 5 0,gn 6 5,gi 7 (.mks 7 2000007 (.t 6) 5 88 (.agg [I 0,I 0,.nul,.nul,.nul])),gt 3 7]
def r_Z127_2 : List GI:=[gk 4 0]
def r_Z127_3 : List GI:=[gt 8 4,gt 9 0,gn 10 9,gb 11 .lss 8 10]
def r_Z127_4 : List GI:=[gt 14 3,gt 15 4,gt 16 0,gt 17 4,ga 18 16 17 5,gs 19 18 5,gc 20 42 [.t 19],ga 21 14 15 5,g0 (.sto 21 (.t 20) (some 5))]
def r_Z127_5 : List GI:=[gt 12 4,gd 13 .add 12 1,gt 4 13]
def r_Z127_6 : List GI:=[gt 22 3,gt 2 22]
def dc_Z127 : DC:=.seq (.z r_Z127_0) (.seq (.z r_Z127_1) (.seq (.seq (.z r_Z127_2) (.block 0 (.loop (.seq (.seq (.z r_Z127_3) (.cond (.t 11) .skip (.exit 0))) (.seq (.block 1 (.z r_Z127_4)) (.z r_Z127_5)))))) (.seq (.z r_Z127_6) .ret)))
theorem c_Z127 : cfun Tryz.prog [] 75 = some (23,dc_Z127,[(Res.tmp 2)]):=by kernel_rfl
end
end Go.Proofs.YtgpdmgaemhelgaaGreat
