/-
  Functions of the program read as code on plain data. Closed facts of the program alone.
-/
import Derived.KernelRfl
import Derived.Test.YtjngffbghkafaaaGreatRows
import Derived.Test.YtjngffbghkafaaaGreatJSVGo
import Derived.Test.YtjngffbghkafaaaGreatJSVGi
import Derived.Test.YtjngffbghkafaaaGreatJSVTbD
namespace Go.Proofs.YtjngffbghkafaaaGreat
open Go.RowKit
noncomputable section
def r_Z55_0 : List GI:=[gi 1 (.box 1 2000001 (.t 0) (some 5)),gi 2 (.mov 2 (.k (.v (.bool false))))]
def r_Z55_1 : List GI:=[gf 6 1 0,gl 7 6,gc 8 171 [.t 7],gt 5 8,gi 9 (.ext 9 5 0),gi 10 (.ext 10 5 1),gi 3 (.alloc 3 2000003 [I 0,I 0,I 0]),g0 (.sto 3 (.t 9) (some 3)),gt 4 10]
def r_Z55_2 : List GI:=[gt 12 4,gi 13 (.un 13 UnOp.not (.t 12)),gt 14 13,⟨.fad 15 1 4,some 15,some (14,false),false⟩,⟨.lod 16 15 none,some 16,some (14,false),false⟩,⟨.len 17 (.t 16),some 17,some (14,false),false⟩,⟨.fad 18 3 2,some 18,some (14,false),false⟩,⟨.lod 19 18 none,some 19,some (14,false),false⟩,⟨.bin 20 .neq (.t 17) (.t 19),some 20,some (14,false),false⟩,gi 21 (.pick 21 (.t 14) (.k (.v (.bool true))) (.t 20)),gt 11 21]
def r_Z55_3 : List GI:=[gi 2 (.mov 2 (.k (.v (.bool false))))]
def r_Z55_4 : List GI:=[gf 23 1 2,gl 24 23,gn 25 24,gf 26 3 0,gl 27 26,gb 28 .lss 25 27,gt 29 28,⟨.fad 30 1 2,some 30,some (29,false),false⟩,⟨.lod 31 30 none,some 31,some (29,false),false⟩,⟨.len 32 (.t 31),some 32,some (29,false),false⟩,⟨.fad 33 3 1,some 33,some (29,false),false⟩,⟨.lod 34 33 none,some 34,some (29,false),false⟩,⟨.bin 35 .gtr (.t 32) (.t 34),some 35,some (29,false),false⟩,gi 36 (.pick 36 (.t 29) (.k (.v (.bool true))) (.t 35)),gt 22 36]
def r_Z55_5 : List GI:=[gi 2 (.mov 2 (.k (.v (.bool false))))]
def r_Z55_6 : List GI:=[gf 38 1 0,gl 39 38,gd 40 .neq 39 1,gt 41 40,⟨.fad 42 1 1,some 42,some (41,true),false⟩,⟨.lod 43 42 none,some 43,some (41,true),false⟩,⟨.bin 44 .neq (.t 43) (.k (I 0)),some 44,some (41,true),false⟩,gi 45 (.pick 45 (.t 41) (.t 44) (.k (.v (.bool false)))),gt 37 45]
def r_Z55_7 : List GI:=[gi 2 (.mov 2 (.k (.v (.bool false))))]
def r_Z55_8 : List GI:=[gf 46 1 0,gl 47 46,gd 48 .eql 47 8,gt 49 48,⟨.fad 50 1 3,some 50,some (49,false),false⟩,⟨.lod 51 50 none,some 51,some (49,false),false⟩,⟨.len 52 (.t 51),some 52,some (49,false),false⟩,⟨.bin 53 .eql (.t 52) (.k (I 0)),some 53,some (49,false),false⟩,gi 54 (.pick 54 (.t 49) (.k (.v (.bool true))) (.t 53)),gt 2 54]
def dc_Z55 : DC:=.seq (.z r_Z55_0) (.seq (.z r_Z55_1) (.seq (.block 0 (.seq (.z r_Z55_2) (.cond (.t 11) (.seq (.z r_Z55_3) .ret) (.seq (.z r_Z55_4) (.cond (.t 22) (.seq (.z r_Z55_5) .ret) (.seq (.z r_Z55_6) (.cond (.t 37) (.seq (.z r_Z55_7) .ret) .skip))))))) (.seq (.z r_Z55_8) .ret)))
theorem c_Z55 : cfun Tryz.prog [] 133 = some (55,dc_Z55,[(Res.tmp 2)]):=by kernel_rfl
def r_Z134_0 : List GI:=[gi 2 (.alloc 2 2000002 [I 0,I 0,I 0]),gi 3 (.mov 3 (.k (.v (.bool false))))]
def r_Z134_1 : List GI:=[gt 4 0]
def r_Z134_2 : List GI:=[gd 6 .eql 4 1,gt 5 6]
def r_Z134_3 : List GI:=[gi 7 (.build 7 [I 0,I 0,I 0] []),g0 (.sto 2 (.t 7) (some 3)),gi 3 (.mov 3 (.k (.v (.bool true))))]
def r_Z134_4 : List GI:=[gd 9 .eql 4 2,gt 8 9]
def r_Z134_5 : List GI:=[gi 10 (.build 10 [I 0,I 0,I 0] [(0,(none,.k (I 1))),(1,(none,.k (I 1))),(2,(none,.k (I 1)))]),g0 (.sto 2 (.t 10) (some 3)),gi 3 (.mov 3 (.k (.v (.bool true))))]
def r_Z134_6 : List GI:=[gd 12 .eql 4 3,gt 11 12]
def r_Z134_7 : List GI:=[gi 13 (.build 13 [I 0,I 0,I 0] [(0,(none,.k (I 1))),(1,(none,.k (I 6))),(2,(none,.k (I 1)))]),g0 (.sto 2 (.t 13) (some 3)),gi 3 (.mov 3 (.k (.v (.bool true))))]
def r_Z134_8 : List GI:=[gd 15 .eql 4 4,gt 14 15]
def r_Z134_9 : List GI:=[gd 16 .eql 4 5,gt 14 16]
def r_Z134_10 : List GI:=[gi 17 (.build 17 [I 0,I 0,I 0] [(0,(none,.k (I 1))),(1,(none,.k (I 1))),(2,(none,.k (I 2)))]),g0 (.sto 2 (.t 17) (some 3)),gi 3 (.mov 3 (.k (.v (.bool true))))]
def r_Z134_11 : List GI:=[gd 19 .eql 4 6,gt 18 19]
def r_Z134_12 : List GI:=[gi 20 (.build 20 [I 0,I 0,I 0] [(2,(none,.k (I 2)))]),g0 (.sto 2 (.t 20) (some 3)),gi 3 (.mov 3 (.k (.v (.bool true))))]
def r_Z134_13 : List GI:=[gd 22 .eql 4 7,gt 21 22]
def r_Z134_14 : List GI:=[gd 23 .eql 4 8,gt 21 23]
def r_Z134_15 : List GI:=[gi 24 (.build 24 [I 0,I 0,I 0] [(2,(none,.k (I 1)))]),g0 (.sto 2 (.t 24) (some 3)),gi 3 (.mov 3 (.k (.v (.bool true))))]
def r_Z134_16 : List GI:=[gi 25 (.build 25 [I 0,I 0,I 0] []),g0 (.sto 2 (.t 25) (some 3)),gi 3 (.mov 3 (.k (.v (.bool false))))]
def dc_Z134 : DC:=.seq (.z r_Z134_0) (.seq (.seq (.z r_Z134_1) (.block 0 (.seq (.z r_Z134_2) (.cond (.t 5) (.seq (.z r_Z134_3) .ret) (.seq (.z r_Z134_4) (.cond (.t 8) (.seq (.z r_Z134_5) .ret) (.seq (.z r_Z134_6) (.cond (.t 11) (.seq (.z r_Z134_7) .ret) (.seq (.seq (.z r_Z134_8) (.cond (.t 14) .skip (.z r_Z134_9))) (.cond (.t 14) (.seq (.z r_Z134_10) .ret) (.seq (.z r_Z134_11) (.cond (.t 18) (.seq (.z r_Z134_12) .ret) (.seq (.seq (.z r_Z134_13) (.cond (.t 21) .skip (.z r_Z134_14))) (.cond (.t 21) (.seq (.z r_Z134_15) .ret) .skip)))))))))))))) (.seq (.z r_Z134_16) .ret))
theorem c_Z134 : cfun Tryz.prog [] 171 = some (26,dc_Z134,[(Res.cell 2 (some 3)),(Res.tmp 3)]):=by kernel_rfl
def r_Z91_0 : List GI:=[gi 1 (.box 1 2000001 (.t 0) (some 5)),gi 2 (.mov 2 (.k (.v (.bool false))))]
def r_Z91_1 : List GI:=[gk 3 1]
def r_Z91_2 : List GI:=[gk 4 0]
def r_Z91_3 : List GI:=[gf 5 1 0,gl 6 5]
def r_Z91_4 : List GI:=[gd 8 .eql 6 1,gt 7 8]
def r_Z91_5 : List GI:=[gk 3 0]
def r_Z91_6 : List GI:=[gd 10 .eql 6 4,gt 9 10]
def r_Z91_7 : List GI:=[gd 11 .eql 6 5,gt 9 11]
def r_Z91_8 : List GI:=[gk 3 2]
def r_Z91_9 : List GI:=[gk 4 1]
def r_Z91_10 : List GI:=[gd 13 .eql 6 6,gt 12 13]
def r_Z91_11 : List GI:=[gk 3 2]
def r_Z91_12 : List GI:=[gd 15 .eql 6 2,gt 14 15]
def r_Z91_13 : List GI:=[gk 4 1]
def r_Z91_14 : List GI:=[gd 17 .eql 6 3,gt 16 17]
def r_Z91_15 : List GI:=[gf 18 1 2,gl 19 18,gn 20 19,gt 4 20]
def r_Z91_16 : List GI:=[gf 21 1 0,gl 22 21,gc 23 67 [.t 22,.k (I 1),.k (I 8)],gt 24 23,⟨.fad 25 1 4,some 25,some (24,true),false⟩,⟨.lod 26 25 none,some 26,some (24,true),false⟩,⟨.len 27 (.t 26),some 27,some (24,true),false⟩,⟨.mov 28 (.t 3),some 28,some (24,true),false⟩,⟨.bin 29 .eql (.t 27) (.t 28),some 29,some (24,true),false⟩,gi 30 (.pick 30 (.t 24) (.t 29) (.k (.v (.bool false)))),gt 31 30,⟨.fad 32 1 2,some 32,some (31,true),false⟩,⟨.lod 33 32 none,some 33,some (31,true),false⟩,⟨.len 34 (.t 33),some 34,some (31,true),false⟩,⟨.mov 35 (.t 4),some 35,some (31,true),false⟩,⟨.bin 36 .eql (.t 34) (.t 35),some 36,some (31,true),false⟩,gi 37 (.pick 37 (.t 31) (.t 36) (.k (.v (.bool false)))),gt 38 37,⟨.fad 39 1 1,some 39,some (38,true),false⟩,⟨.lod 40 39 none,some 40,some (38,true),false⟩,⟨.bin 41 .eql (.t 40) (.k (I 0)),some 41,some (38,true),false⟩,⟨.mov 42 (.t 41),some 42,some (38,true),false⟩,⟨.fad 43 1 0,some 43,some (42,false),false⟩,⟨.lod 44 43 none,some 44,some (42,false),false⟩,⟨.bin 45 .eql (.t 44) (.k (I 1)),some 45,some (42,false),false⟩,⟨.pick 46 (.t 42) (.k (.v (.bool true))) (.t 45),some 46,some (38,true),false⟩,gi 47 (.pick 47 (.t 38) (.t 46) (.k (.v (.bool false)))),gt 48 47,⟨.fad 49 1 3,some 49,some (48,true),false⟩,⟨.lod 50 49 none,some 50,some (48,true),false⟩,⟨.len 51 (.t 50),some 51,some (48,true),false⟩,⟨.bin 52 .eql (.t 51) (.k (I 0)),some 52,some (48,true),false⟩,⟨.mov 53 (.t 52),some 53,some (48,true),false⟩,⟨.fad 54 1 0,some 54,some (53,false),false⟩,⟨.lod 55 54 none,some 55,some (53,false),false⟩,⟨.bin 56 .eql (.t 55) (.k (I 8)),some 56,some (53,false),false⟩,⟨.pick 57 (.t 53) (.k (.v (.bool true))) (.t 56),some 57,some (48,true),false⟩,gi 58 (.pick 58 (.t 48) (.t 57) (.k (.v (.bool false)))),gt 2 58]
def dc_Z91 : DC:=.seq (.z r_Z91_0) (.seq (.z r_Z91_1) (.seq (.z r_Z91_2) (.seq (.seq (.z r_Z91_3) (.block 0 (.seq (.z r_Z91_4) (.cond (.t 7) (.z r_Z91_5) (.seq (.seq (.z r_Z91_6) (.cond (.t 9) .skip (.z r_Z91_7))) (.cond (.t 9) (.seq (.z r_Z91_8) (.z r_Z91_9)) (.seq (.z r_Z91_10) (.cond (.t 12) (.z r_Z91_11) (.seq (.z r_Z91_12) (.cond (.t 14) (.z r_Z91_13) (.seq (.z r_Z91_14) (.cond (.t 16) (.z r_Z91_15) .skip)))))))))))) (.seq (.z r_Z91_16) .ret))))
theorem c_Z91 : cfun Tryz.prog [] 124 = some (59,dc_Z91,[(Res.tmp 2)]):=by kernel_rfl
end
end Go.Proofs.YtjngffbghkafaaaGreat
set_option maxHeartbeats 4000000
set_option maxRecDepth 100000
namespace Go.Proofs.YtjngffbghkafaaaGreat
open Go.RowKit
def szV (m : Nat) (left : Int) : Int:=if (m : Int) ≤ left then left - m else -1
theorem szV_t {m : Nat} {left : Int} (h : (m : Int) ≤ left) : szV m left = left - m:=if_pos h
theorem szV_f {m : Nat} {left : Int} (h : ¬ (m : Int) ≤ left) : szV m left = -1:=if_neg h
def fil {α : Type} (f : α → D) (z : D) (l : List α) (i : Nat) : List D:=(l.take i).map f ++ List.replicate (l.length - i) z
theorem fil_len {α : Type} (f : α → D) (z : D) (l : List α) {i : Nat} (h : i ≤ l.length) : (fil f z l i).length = l.length:=by
 unfold fil
 rw [List.length_append,List.length_map,List.length_take,List.length_replicate]
 omega
theorem fil_zero {α : Type} (f : α → D) (z : D) (l : List α) : fil f z l 0 = List.replicate l.length z:=by
 unfold fil
 rw [List.take_zero,List.map_nil,List.nil_append,Nat.sub_zero]
theorem fil_end {α : Type} (f : α → D) (z : D) (l : List α) : fil f z l l.length = l.map f:=by
 unfold fil
 rw [List.take_length,Nat.sub_self,List.replicate_zero,List.append_nil]
theorem fil_set {α : Type} (f : α → D) (z : D) {l : List α} {i : Nat} {x : α} (h : l[i]? = some x) : (fil f z l i).set i (f x) = fil f z l (i + 1):=by
 have hlt:=(List.getElem?_eq_some_iff.1 h).1
 unfold fil
 have hl : ((l.take i).map f).length = i:=by rw [List.length_map,List.length_take]; omega
 rw [List.set_append_right _ _ (by omega),hl,Nat.sub_self,show l.length - i = (l.length - (i + 1)) + 1 by omega,List.replicate_succ,List.set_cons_zero,take_next h,List.map_append,List.map_cons,List.map_nil,List.append_assoc]
 rfl
theorem fil_take {α : Type} (f : α → D) (z : D) (l : List α) {i : Nat} (h : i ≤ l.length) : (fil f z l i).take l.length = fil f z l i:=List.take_of_length_le (by rw [fil_len f z l h]; exact Nat.le_refl _)
theorem fil_get {α : Type} (f : α → D) (z : D) {l : List α} {i : Nat} (h : i < l.length) : (fil f z l i)[i]? = some z:=by
 unfold fil
 have hl : ((l.take i).map f).length = i:=by rw [List.length_map,List.length_take]; omega
 rw [List.getElem?_append_right (by omega),hl,Nat.sub_self,List.getElem?_replicate,if_pos (by omega)]
theorem fil_ren {α : Type} (f : α → D) (z : D) (hf : ∀ x,(f x).pur = true) (hz : z.pur = true) (l : List α) (i : Nat) (L : List Nat) : D.renL L (fil f z l i) = fil f z l i:=by
 refine ren_pure.renL_pure L _ (D.purL_iff.2 fun d hd=>?_)
 rcases List.mem_append.1 hd with hd | hd
 ·obtain ⟨x,_,rfl⟩:=List.mem_map.1 hd
  exact hf x
 ·rw [(List.mem_replicate.1 hd).2]
  exact hz
end Go.Proofs.YtjngffbghkafaaaGreat
