/-
  Functions of the program read as code on plain data. Closed facts of the program alone.
-/
import Derived.KernelRfl
import Derived.Deep.Slices
import Derived.ChangeSame
import Derived.Test.YtgpdmgaemhelgaaGreatRows
import Derived.Test.YtgpdmgaemhelgaaGreatJSVBox
import Derived.Test.YtgpdmgaemhelgaaGreatJSVYld
import Derived.Test.YtgpdmgaemhelgaaGreatJSVClA
import Derived.Test.YtgpdmgaemhelgaaGreatJSFactsC
namespace Go.Proofs.YtgpdmgaemhelgaaGreat
open Go.RowKit
noncomputable section
def r_Z108_0 : List GI:=[gi 2 (.box 2 2000002 (.t 0) (some 5)),gi 4 (.mov 4 (.k .nul))]
def r_Z108_1 : List GI:=[gs 5 2 5,gt 6 1,gc 7 19 [.t 5,.t 6],gd 8 .eql 7 0]
def r_Z108_2 : List GI:=[gi 4 (.mov 4 (.k .nul))]
def r_Z108_3 : List GI:=[gs 9 2 5,gt 10 1,gc 11 59 [.t 9,.t 10],gc 12 58 [.t 11],gt 4 12]
def dc_Z108 : DC:=.seq (.z r_Z108_0) (.seq (.seq (.z r_Z108_1) (.cond (.t 8) (.seq (.z r_Z108_2) .ret) .skip)) (.seq (.z r_Z108_3) .ret))
theorem c_Z108 : cfun Tryz.prog [] 22 = some (13,dc_Z108,[(Res.tmp 4)]):=by kernel_rfl
def r_Z31_0 : List GI:=[gi 2 (.box 2 2000002 (.t 0) (some 5)),gi 3 (.box 3 2000003 (.t 1) none),gi 4 (.mov 4 (.k (.v .nilFunc)))]
def r_Z31_1 : List GI:=[gi 5 (.mkf 5 106 [.t 2,.t 3]),gt 4 5]
def dc_Z31 : DC:=.seq (.z r_Z31_0) (.seq (.z r_Z31_1) .ret)
theorem c_Z31 : cfun Tryz.prog [] 59 = some (6,dc_Z31,[(Res.tmp 4)]):=by kernel_rfl
def r_Z0_0 : List GI:=[gi 2 (.box 2 2000002 (.t 0) none),gi 4 (.mov 4 (.k .nul))]
def r_Z0_1 : List GI:=[gt 6 1]
def r_Z0_2 : List GI:=[gi 5 (.alloc 5 2000005 [I 0,.nul]),g0 (.sto 5 (.t 7) (some 2))]
def r_Z0_3 : List GI:=[gl 8 2,gs 9 5 2,gi 10 (.bsl 10 2 (some 2) [.agg [I 0,.nul]] [(0,.t 9)]),gi 11 (.app 11 2000011 (.t 8) (.t 10) 2 32),g0 (.sto 2 (.t 11) none)]
def r_Z0_4 : List GI:=[gl 12 2,gt 4 12]
def dc_Z0 : DC:=.seq (.z r_Z0_0) (.seq (.seq (.z r_Z0_1) (.block 0 (.rng (.t 6) [7] (.z r_Z0_2) (.block 1 (.z r_Z0_3))))) (.seq (.z r_Z0_4) .ret))
theorem c_Z0 : cfun Tryz.prog [] 105 = some (13,dc_Z0,[(Res.tmp 4)]):=by kernel_rfl
def r_Z8_0 : List GI:=[gi 2 (.mov 2 (.k .nul))]
def r_Z8_1 : List GI:=[gt 3 0,gc 4 105 [.k .nul,.t 3],gt 2 4]
def dc_Z8 : DC:=.seq (.z r_Z8_0) (.seq (.z r_Z8_1) .ret)
theorem c_Z8 : cfun Tryz.prog [] 58 = some (5,dc_Z8,[(Res.tmp 2)]):=by kernel_rfl
end
end Go.Proofs.YtgpdmgaemhelgaaGreat
namespace Go.Proofs.YtgpdmgaemhelgaaGreat
open Go.RowKit
noncomputable section
def r_Z21_0 : List GI:=[gi 3 (.box 3 2000003 (.t 0) none)]
def r_Z21_1 : List GI:=[gc 11 84 [],gi 4 (.alloc 4 2000004 [.nul]),g0 (.sto 4 (.t 11) none)]
def r_Z21_2 : List GI:=[gs 12 1 5,gc 13 107 [.t 12]]
def r_Z21_3 : List GI:=[gt 5 14]
def r_Z21_4 : List GI:=[gi 6 (.alloc 6 2000006 [I 0,I 0,.nul,.nul,.nul]),g0 (.sto 6 (.t 15) (some 5))]
def r_Z21_5 : List GI:=[gl 16 4,gn 17 16,gk 18 0]
def r_Z21_6 : List GI:=[gb 19 .lss 18 17]
def r_Z21_7 : List GI:=[gt 20 18,ga 21 16 18 3,gs 22 21 3,gi 8 (.alloc 8 2000008 [I 0,.nul,.v .nilFunc]),gt 7 20,g0 (.sto 8 (.t 22) (some 3))]
def r_Z21_8 : List GI:=[gs 24 8 3,gs 25 6 5,gl 26 2,gt 27 5,gn 28 27,gi 29 (.bin 29 .sub (.k (I 8)) (.t 28)),gc 30 86 [.t 24,.t 25,.t 26,.t 29],gt 23 30,gi 31 (.ext 31 23 0),gi 32 (.ext 32 23 1),gi 9 (.alloc 9 2000009 [I 0,I 0,.nul,.nul,.nul]),g0 (.sto 9 (.t 31) (some 5)),gt 10 32]
def r_Z21_9 : List GI:=[gt 33 10,gt 34 33,⟨.lod 35 3 none,some 35,some (34,true),false⟩,⟨.mov 36 (.t 7),some 36,some (34,true),false⟩,⟨.mov 37 (.t 5),some 37,some (34,true),false⟩,⟨.call 38 108 [.t 37],some 38,some (34,true),true⟩,⟨.build 39 [I 0,.nul] [(0,(none,.t 36)),(1,(none,.t 38))],some 39,some (34,true),false⟩,⟨.cal 40 (.t 35) [.t 39],some 40,some (34,true),true⟩,⟨.un 41 UnOp.not (.t 40),some 41,some (34,true),false⟩,gi 42 (.pick 42 (.t 34) (.t 41) (.k (.v (.bool false))))]
def r_Z21_10 : List GI:=[gd 43 .add 18 1,gt 18 43]
def dc_Z21 : DC:=.seq (.z r_Z21_0) (.seq (.z r_Z21_1) (.seq (.z r_Z21_2) (.block 0 (.rng (.t 13) [14,15] (.seq (.z r_Z21_3) (.z r_Z21_4)) (.block 1 (.seq (.z r_Z21_5) (.block 2 (.loop (.seq (.z r_Z21_6) (.seq (.cond (.t 19) .skip (.exit 2)) (.seq (.block 3 (.seq (.z r_Z21_7) (.seq (.z r_Z21_8) (.seq (.reg r_Z21_9 (some [0,1,3,3,3,19,59,127,255,511])) (.cond (.t 42) .ret .skip))))) (.z r_Z21_10))))))))))))
theorem c_Z21 : cfun Tryz.prog [] 106 = some (44,dc_Z21,[]):=by kernel_rfl
def r_Z4_0 : List GI:=[gi 2 (.mov 2 (.k .nul))]
def r_Z4_1 : List GI:=[gt 3 0,gi 4 (.isn 4 false (.t 3))]
def r_Z4_2 : List GI:=[gi 2 (.mov 2 (.k .nul))]
def r_Z4_3 : List GI:=[gi 5 (.mov 5 (.k .nul)),gt 6 0,gi 7 (.app 7 2000007 (.t 5) (.t 6) 1 8),gt 2 7]
def dc_Z4 : DC:=.seq (.z r_Z4_0) (.seq (.seq (.z r_Z4_1) (.cond (.t 4) (.seq (.z r_Z4_2) .ret) .skip)) (.seq (.z r_Z4_3) .ret))
theorem c_Z4 : cfun Tryz.prog [] 108 = some (8,dc_Z4,[(Res.tmp 2)]):=by kernel_rfl
end
end Go.Proofs.YtgpdmgaemhelgaaGreat
namespace Go.Proofs.YtgpdmgaemhelgaaGreat
open Go.RowKit
noncomputable section
def r_Z25_0 : List GI:=[gi 4 (.mov 4 (.k .nul))]
def r_Z25_1 : List GI:=[gt 5 0,gt 6 1,gi 7 (.bsl 7 1 none [I 0] [(0,.t 6)]),gi 8 (.bsl 8 1 none [.nul,.nul] [(0,.t 5),(1,.t 7)]),gc 9 192 [.t 8],gt 4 9]
def dc_Z25 : DC:=.seq (.z r_Z25_0) (.seq (.z r_Z25_1) .ret)
theorem c_Z25 : cfun Tryz.prog [] 177 = some (10,dc_Z25,[(Res.tmp 4)]):=by kernel_rfl
def r_Z75_0 : List GI:=[gi 3 (.box 3 2000003 (.t 0) (some 5)),gi 6 (.mov 6 (.k (.v (.bool false))))]
def r_Z75_1 : List GI:=[gt 9 2,gt 10 1,gs 11 3 5,⟨.cal 12 (.t 9) [.t 10,.t 11],some 12,none,true⟩,gi 13 (.un 13 UnOp.not (.t 12))]
def r_Z75_2 : List GI:=[gi 6 (.mov 6 (.k (.v (.bool false))))]
def r_Z75_3 : List GI:=[gf 14 3 4,gl 15 14,gn 16 15,gk 17 0]
def r_Z75_4 : List GI:=[gb 18 .lss 17 16]
def r_Z75_5 : List GI:=[gt 19 17,ga 20 15 17 5,gs 21 20 5,gi 8 (.alloc 8 2000008 [I 0,I 0,.nul,.nul,.nul]),gt 7 19,g0 (.sto 8 (.t 21) (some 5))]
def r_Z75_6 : List GI:=[gs 22 8 5,gt 23 1,gt 24 7,gc 25 177 [.t 23,.t 24],gt 26 2,gc 27 150 [.t 22,.t 25,.t 26],gi 28 (.un 28 UnOp.not (.t 27))]
def r_Z75_7 : List GI:=[gi 6 (.mov 6 (.k (.v (.bool false))))]
def r_Z75_8 : List GI:=[gd 29 .add 17 1,gt 17 29]
def r_Z75_9 : List GI:=[gi 6 (.mov 6 (.k (.v (.bool true))))]
def dc_Z75 : DC:=.seq (.z r_Z75_0) (.seq (.seq (.z r_Z75_1) (.cond (.t 13) (.seq (.z r_Z75_2) .ret) .skip)) (.seq (.seq (.z r_Z75_3) (.block 0 (.loop (.seq (.z r_Z75_4) (.seq (.cond (.t 18) .skip (.exit 0)) (.seq (.block 1 (.seq (.z r_Z75_5) (.seq (.reg r_Z75_6 (some [0,0,0,6,0,31,63])) (.cond (.t 28) (.seq (.z r_Z75_7) .ret) .skip)))) (.z r_Z75_8))))))) (.seq (.z r_Z75_9) .ret)))
theorem c_Z75 : cfun Tryz.prog [] 150 = some (30,dc_Z75,[(Res.tmp 6)]):=by kernel_rfl
def r_Z3_0 : List GI:=[gi 2 (.mov 2 (.k .nul))]
def r_Z3_1 : List GI:=[gk 3 0]
def r_Z3_2 : List GI:=[gt 9 0,gn 10 9,gk 11 0]
def r_Z3_3 : List GI:=[gb 12 .lss 11 10]
def r_Z3_4 : List GI:=[ga 13 9 11 1,gl 14 13,gt 5 14]
def r_Z3_5 : List GI:=[gt 15 3,gt 16 5,gn 17 16,gb 18 .add 15 17,gt 3 18]
def r_Z3_6 : List GI:=[gt 19 3,gd 20 .lss 19 0]
def r_Z3_7 : List GI:=[gd 22 .add 11 1,gt 11 22]
def r_Z3_8 : List GI:=[gt 23 3,gc 24 204 [.k .nul,.t 23],gt 6 24]
def r_Z3_9 : List GI:=[gt 25 0,gn 26 25,gk 27 0]
def r_Z3_10 : List GI:=[gb 28 .lss 27 26]
def r_Z3_11 : List GI:=[ga 29 25 27 1,gl 30 29,gt 8 30]
def r_Z3_12 : List GI:=[gt 31 6,gt 32 8,gi 33 (.app 33 2000033 (.t 31) (.t 32) 1 8),gt 6 33]
def r_Z3_13 : List GI:=[gd 34 .add 27 1,gt 27 34]
def r_Z3_14 : List GI:=[gt 35 6,gt 2 35]
def dc_Z3 : DC:=.seq (.z r_Z3_0) (.seq (.z r_Z3_1) (.seq (.seq (.z r_Z3_2) (.block 0 (.loop (.seq (.z r_Z3_3) (.seq (.cond (.t 12) .skip (.exit 0)) (.seq (.block 1 (.seq (.z r_Z3_4) (.seq (.z r_Z3_5) (.seq (.z r_Z3_6) (.cond (.t 20) .no .skip))))) (.z r_Z3_7))))))) (.seq (.z r_Z3_8) (.seq (.seq (.z r_Z3_9) (.block 2 (.loop (.seq (.z r_Z3_10) (.seq (.cond (.t 28) .skip (.exit 2)) (.seq (.block 3 (.seq (.z r_Z3_11) (.z r_Z3_12))) (.z r_Z3_13))))))) (.seq (.z r_Z3_14) .ret)))))
theorem c_Z3 : cfun Tryz.prog [] 192 = some (36,dc_Z3,[(Res.tmp 2)]):=by kernel_rfl
def r_Z5_0 : List GI:=[gi 4 (.mov 4 (.k .nul))]
def r_Z5_1 : List GI:=[gt 5 1,gd 6 .lss 5 0]
def r_Z5_2 : List GI:=[gt 8 1,gt 9 0,gi 10 (.capn 10 (.t 9)),gt 11 0,gn 12 11,gb 13 .sub 10 12,gb 14 .sub 8 13,gt 1 14]
def r_Z5_3 : List GI:=[gt 15 1,gd 16 .gtr 15 0]
def r_Z5_4 : List GI:=[gt 17 0,gt 18 0,gi 19 (.capn 19 (.t 18)),gi 20 (.slc 20 (.t 17) none (some (.t 19)) 1),gt 21 1,gi 22 (.apm 22 2000022 (.t 20) (.t 21) 1 8 (I 0)),gt 23 0,gn 24 23,gi 25 (.slc 25 (.t 22) none (some (.t 24)) 1),gt 0 25]
def r_Z5_5 : List GI:=[gt 26 0,gt 4 26]
def dc_Z5 : DC:=.seq (.z r_Z5_0) (.seq (.seq (.z r_Z5_1) (.cond (.t 6) .no .skip)) (.seq (.seq (.z r_Z5_2) (.seq (.z r_Z5_3) (.cond (.t 16) (.z r_Z5_4) .skip))) (.seq (.z r_Z5_5) .ret)))
theorem c_Z5 : cfun Tryz.prog [] 204 = some (27,dc_Z5,[(Res.tmp 4)]):=by kernel_rfl
end
end Go.Proofs.YtgpdmgaemhelgaaGreat
namespace Go.Proofs.YtgpdmgaemhelgaaGreat
open Go.RowKit
noncomputable section
def r_Z130_0 : List GI:=[gi 1 (.box 1 2000001 (.t 0) (some 5)),gi 2 (.mov 2 (.k (.v .nilFunc)))]
def r_Z130_1 : List GI:=[gi 3 (.mkf 3 149 [.t 1]),gt 2 3]
def dc_Z130 : DC:=.seq (.z r_Z130_0) (.seq (.z r_Z130_1) .ret)
theorem c_Z130 : cfun Tryz.prog [] 107 = some (4,dc_Z130,[(Res.tmp 2)]):=by kernel_rfl
def r_Z93_0 : List GI:=[gs 3 1 5,gt 4 0,gc 5 150 [.t 3,.k .nul,.t 4]]
def dc_Z93 : DC:=.reg r_Z93_0 none
theorem c_Z93 : cfun Tryz.prog [] 149 = some (6,dc_Z93,[]):=by kernel_rfl
end
end Go.Proofs.YtgpdmgaemhelgaaGreat
set_option maxHeartbeats 4000000
set_option maxRecDepth 100000
namespace Go.Proofs.YtgpdmgaemhelgaaGreat
open Go.ChangeShapes Go.WideShapes Go.ChangeAt Go.RowKit Go.Joins Go.Deep
def big : Nat:=9223372036854775807
section
variable {H : Type} {enc : TypeId × Value → H} {W : World} {base b0 : Nat} {held : Bool} {r : Reach} {v : Value} {d : DataW H} {p : List MemPlace}
theorem add_lit (b o j : Nat) : (⟨b,o,none⟩ : Addr).add j = ⟨b,o + j,none⟩:=by cases j <;> rfl
end
end Go.Proofs.YtgpdmgaemhelgaaGreat
set_option maxHeartbeats 4000000
set_option maxRecDepth 100000
namespace Go.Proofs.YtgpdmgaemhelgaaGreat
open Go.RowKit
mutual
def esz : E → Nat
 | .mk _ _ _ ks=>1 + eszL ks
def eszL : List E → Nat
 | []=>0
 | e :: l=>esz e + eszL l
end
theorem esz_eq (e : E) : esz e = 1 + eszL e.ks:=by cases e; rfl
theorem eszL_append : ∀ (l m : List E),eszL (l ++ m) = eszL l + eszL m
 | [],m=>by rw [List.nil_append,eszL,Nat.zero_add]
 | e :: l,m=>by rw [List.cons_append,eszL,eszL,eszL_append l m]; omega
theorem esz_small {w : Int} : ∀ (e : E) (d : Nat),eOk e w d → d ≤ 20 → esz e + 1 ≤ 2 ^ (d + 1):=by
 refine E.ind (fun e ih d h hd=>?_)
 rw [esz_eq]
 have h2 : ∀ x,x ∈ e.ks → d ≠ 0:=fun x hx=>((eOk_iff e w d).1 h).2.1 (List.length_pos_of_mem hx)
 rcases eOk_kids h with ⟨_,h1⟩ | ⟨_,a,h1,ha⟩ | ⟨_,a,b,h1,ha,hb⟩
 ·rw [h1,eszL]
  have : 2 ^ 1 ≤ 2 ^ (d + 1):=Nat.pow_le_pow_right (by decide) (by omega)
  omega
 ·have hd0:=h2 a (by rw [h1]; exact List.mem_cons_self ..)
  have:=ih a (by rw [h1]; exact List.mem_cons_self ..) (d - 1) ha (by omega)
  rw [h1,eszL,eszL]
  rw [show d - 1 + 1 = d by omega] at this
  rw [Nat.pow_succ]
  have : 2 ^ 1 ≤ 2 ^ d:=Nat.pow_le_pow_right (by decide) (by omega)
  omega
 ·have hd0:=h2 a (by rw [h1]; exact List.mem_cons_self ..)
  have:=ih a (by rw [h1]; exact List.mem_cons_self ..) (d - 1) ha (by omega)
  have:=ih b (by rw [h1]; exact List.mem_cons_of_mem _ (List.mem_cons_self ..)) (d - 1) hb (by omega)
  rw [h1,eszL,eszL,eszL]
  rw [show d - 1 + 1 = d by omega] at *
  rw [Nat.pow_succ]
  omega
theorem eszL_len : ∀ l : List E,l.length ≤ eszL l
 | []=>Nat.le_refl _
 | e :: l=>by
  have:=eszL_len l
  rw [eszL,esz_eq,List.length_cons]
  omega
theorem eszL_mem {e : E} {l : List E} (h : e ∈ l) : esz e ≤ eszL l:=by
 induction l with
 | nil=>cases h
 | cons x l ih=>
  rw [eszL]
  rcases List.mem_cons.1 h with rfl | h
  ·omega
  ·have:=ih h; omega
end Go.Proofs.YtgpdmgaemhelgaaGreat
