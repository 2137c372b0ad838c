/-
  Functions of the program read as code on plain data. Closed facts of the program alone.
-/
import Derived.KernelRfl
import Derived.Deep.Slices
import Derived.ChangeSame
import Derived.Test.YtgpdmgaemhelgaaGreatRows
import Derived.Test.YtgpdmgaemhelgaaGreatJSVGo
import Derived.Test.YtgpdmgaemhelgaaGreatJSVFrzB
import Derived.Test.YtgpdmgaemhelgaaGreatJSFactsC
namespace Go.Proofs.YtgpdmgaemhelgaaGreat
open Go.RowKit
noncomputable section
def r_Z104_0 : List GI:=[gi 2 (.box 2 2000002 (.t 0) (some 5)),gi 3 (.box 3 2000003 (.t 1) (some 5)),gi 4 (.mov 4 (.k (.v (.bool false))))]
def r_Z104_1 : List GI:=[gf 5 2 0,gl 6 5,gf 7 3 0,gl 8 7,gb 9 .eql 6 8,gt 10 9,⟨.fad 11 2 1,some 11,some (10,true),false⟩,⟨.lod 12 11 none,some 12,some (10,true),false⟩,⟨.fad 13 3 1,some 13,some (10,true),false⟩,⟨.lod 14 13 none,some 14,some (10,true),false⟩,⟨.bin 15 .eql (.t 12) (.t 14),some 15,some (10,true),false⟩,gi 16 (.pick 16 (.t 10) (.t 15) (.k (.v (.bool false)))),gt 17 16,⟨.fad 18 2 2,some 18,some (17,true),false⟩,⟨.lod 19 18 (some 2),some 19,some (17,true),false⟩,⟨.fad 20 3 2,some 20,some (17,true),false⟩,⟨.lod 21 20 (some 2),some 21,some (17,true),false⟩,⟨.eqs 22 false [false,true] (.t 19) (.t 21),some 22,some (17,true),false⟩,gi 23 (.pick 23 (.t 17) (.t 22) (.k (.v (.bool false)))),gt 24 23,⟨.fad 25 2 4,some 25,some (24,true),false⟩,⟨.lod 26 25 none,some 26,some (24,true),false⟩,⟨.fad 27 3 4,some 27,some (24,true),false⟩,⟨.lod 28 27 none,some 28,some (24,true),false⟩,⟨.call 29 112 [.t 26,.t 28,.k (.fn 113 [])],some 29,some (24,true),true⟩,gi 30 (.pick 30 (.t 24) (.t 29) (.k (.v (.bool false)))),gt 4 30]
def dc_Z104 : DC:=.seq (.z r_Z104_0) (.seq (.z r_Z104_1) .ret)
theorem c_Z104 : cfun Tryz.prog [] 113 = some (31,dc_Z104,[(Res.tmp 4)]):=by kernel_rfl
def r_Z105_0 : List GI:=[gi 2 (.box 2 2000002 (.t 0) (some 5)),gi 3 (.box 3 2000003 (.t 1) (some 5)),gi 4 (.mov 4 (.k (.v (.bool false))))]
def r_Z105_1 : List GI:=[gf 5 2 0,gl 6 5,gf 7 3 0,gl 8 7,gb 9 .eql 6 8,gt 10 9,⟨.fad 11 2 1,some 11,some (10,true),false⟩,⟨.lod 12 11 none,some 12,some (10,true),false⟩,⟨.fad 13 3 1,some 13,some (10,true),false⟩,⟨.lod 14 13 none,some 14,some (10,true),false⟩,⟨.bin 15 .eql (.t 12) (.t 14),some 15,some (10,true),false⟩,gi 16 (.pick 16 (.t 10) (.t 15) (.k (.v (.bool false)))),gt 17 16,⟨.fad 18 2 3,some 18,some (17,true),false⟩,⟨.lod 19 18 none,some 19,some (17,true),false⟩,⟨.fad 20 3 3,some 20,some (17,true),false⟩,⟨.lod 21 20 none,some 21,some (17,true),false⟩,⟨.call 22 111 [.t 19,.t 21],some 22,some (17,true),true⟩,gi 23 (.pick 23 (.t 17) (.t 22) (.k (.v (.bool false)))),gt 24 23,⟨.fad 25 2 2,some 25,some (24,true),false⟩,⟨.lod 26 25 none,some 26,some (24,true),false⟩,⟨.fad 27 3 2,some 27,some (24,true),false⟩,⟨.lod 28 27 none,some 28,some (24,true),false⟩,⟨.call 29 112 [.t 26,.t 28,.k (.fn 113 [])],some 29,some (24,true),true⟩,gi 30 (.pick 30 (.t 24) (.t 29) (.k (.v (.bool false)))),gt 31 30,⟨.fad 32 2 4,some 32,some (31,true),false⟩,⟨.lod 33 32 none,some 33,some (31,true),false⟩,⟨.fad 34 3 4,some 34,some (31,true),false⟩,⟨.lod 35 34 none,some 35,some (31,true),false⟩,⟨.call 36 114 [.t 33,.t 35,.k (.fn 66 [])],some 36,some (31,true),true⟩,gi 37 (.pick 37 (.t 31) (.t 36) (.k (.v (.bool false)))),gt 4 37]
def dc_Z105 : DC:=.seq (.z r_Z105_0) (.seq (.z r_Z105_1) .ret)
theorem c_Z105 : cfun Tryz.prog [] 66 = some (38,dc_Z105,[(Res.tmp 4)]):=by kernel_rfl
end
end Go.Proofs.YtgpdmgaemhelgaaGreat
set_option maxHeartbeats 4000000
set_option maxRecDepth 100000
namespace Go.Proofs.YtgpdmgaemhelgaaGreat
open Go.ChangeShapes Go.WideShapes Go.ChangeAt Go.RowKit Go.Joins Go.Deep
def big : Nat:=9223372036854775807
section
variable {H : Type} {enc : TypeId × Value → H} {W : World} {base b0 : Nat} {held : Bool} {r : Reach} {v : Value} {d : DataW H} {p : List MemPlace}
theorem add_lit (b o j : Nat) : (⟨b,o,none⟩ : Addr).add j = ⟨b,o + j,none⟩:=by cases j <;> rfl
theorem slice_fz {P : Program} {t u : TypeId} {s : Nat} (ht : P.underlying t = some (.slice u)) (hs : P.cellsOf u = s) (h0 : 0 < s) {α : Type} (toD : α → D) (Q : α → Prop) {fuel : Nat} {cs : List Value} {x : DataW H × List MemPlace}
  (h : DataW.trod enc P W base (fun _=>true) held fuel t cs = some x)
  (hel : ∀ n',n' < fuel → ∀ cs' x',DataW.trod enc P W base (fun _=>true) held n' u cs' = some x' → ∃ a : α,(toD a).cells.length = s ∧ CellsOK W (allOf W) noNames (toD a).cells cs' ∧ Q a) :
  ∃ al : List α,(∀ a,a ∈ al → Q a) ∧ al.length ≤ big ∧ CellsOK W (allOf W) noNames [.sl s (al.map toD)] cs:=by
 have one : ∀ y : Value,y.oneCell' = true → ∀ e : D,Fz W (allOf W) noNames e y → CellsOK W (allOf W) noNames [e] [y]:=by
  intro y hy e he
  refine ⟨rfl,fun u hu=>by rw [List.mem_singleton.1 hu]; exact hy,fun j d' u hd hu=>?_⟩
  rcases j with _ | j
  ·obtain rfl : e = d':=by simpa using hd
   obtain rfl : y = u:=by simpa using hu
   exact he
  ·simp at hd
 rcases DataW.trod_slice ht h with ⟨rfl,_⟩ | ⟨a,len,cap,elems,rest,n',rfl,rfl,_,_,hcap,hm,hlen,hget,_,_⟩
 ·exact ⟨[],(fun _ h=>by cases h),Nat.zero_le _,one _ rfl _ (.sl0 _ s none 0)⟩
 ·have step : ∀ k,k ≤ len → ∃ (al : List α) (us : List Value),al.length = k ∧ us.length = k * s ∧ (∀ a,a ∈ al → Q a) ∧ (∀ e,e ∈ al.map toD → e.cells.length = s) ∧ CellsOK W (allOf W) noNames (D.flat (al.map toD)) us ∧ ∀ j y,us[j]? = some y → W.cell? (a.add j) = some y:=by
   intro k
   induction k with
   | zero=>intro _; exact ⟨[],[],rfl,by simp,(fun _ h=>by cases h),(fun _ h=>by cases h),CellsOK.nil,fun j y h=>by simp at h⟩
   | succ k ih=>
    intro hk
    obtain ⟨al,us,h1,h2,h3,h4,h5,h6⟩:=ih (by omega)
    have h7:=hget k (by omega)
    rw [hs,List.getElem?_eq_getElem (by omega)] at h7
    obtain ⟨cs',hc,ht'⟩:=Option.bind_eq_some_iff.1 h7
    obtain ⟨e,he,hce,hq⟩:=hel n' (by omega) cs' _ ht'
    obtain ⟨hl',_,hat⟩:=World.cells?_some hc
    have hcl : cs'.length = s:=by rw [hce.len,he]
    refine ⟨al ++ [e],us ++ cs',by simp [h1],by rw [List.length_append,h2,hcl,Nat.add_mul]; omega,fun z hz=>?_,fun z hz=>?_,?_,fun j y hj=>?_⟩
    ·rcases List.mem_append.1 hz with hz | hz
     ·exact h3 z hz
     ·obtain rfl : z = e:=by simpa using hz
      exact hq
    ·rw [List.map_append] at hz
     rcases List.mem_append.1 hz with hz | hz
     ·exact h4 z hz
     ·obtain rfl : z = toD e:=by simpa using hz
      exact he
    ·have : D.flat ((al ++ [e]).map toD) = D.flat (al.map toD) ++ (toD e).cells:=by
      unfold D.flat
      rw [List.map_append,List.flatMap_append,List.map_cons,List.map_nil,List.flatMap_cons,List.flatMap_nil,List.append_nil]
     rw [this]
     exact h5.append hce
    ·by_cases hjl : j < us.length
     ·rw [List.getElem?_append_left hjl] at hj
      exact h6 j y hj
     ·rw [List.getElem?_append_right (by omega)] at hj
      have hlt : j - us.length < s:=by
       have:=(List.getElem?_eq_some_iff.1 hj).1
       omega
      have h8:=hat (j - us.length) (by omega)
      rw [Go.Deep.add_add,show k * s + (j - us.length) = j by omega] at h8
      rw [h8]
      exact hj
  obtain ⟨al,us,h1,h2,h3,h4,h5,h6⟩:=step len (Nat.le_refl _)
  refine ⟨al,h3,by unfold big; unfold maxLen at hm; omega,?_⟩
  refine one _ rfl _ ?_
  by_cases hl : len = 0
  ·subst hl
   obtain rfl : al = []:=List.length_eq_zero_iff.1 h1
   exact .sl0 _ s (some a) cap
  ·have hus : 0 < us.length:=by rw [h2]; exact Nat.mul_pos (by omega) h0
   obtain ⟨b,o,sp⟩:=a
   have h9:=h6 0 _ (List.getElem?_eq_getElem hus)
   have hsp : sp = none:=by simpa [Addr.add] using World.cell?_spot h9
   subst hsp
   have hb : b < W.heap.size:=World.block_lt_of_cell? W ⟨b,o,none⟩ (by simpa [Addr.add] using h9)
   have:=Fz.ofCells (w:=W) (F:=allOf W) (m:=noNames) (b:=b) (off:=o) (cap:=cap) h0 (by rw [List.length_map]; omega) h4 h5 (fun j y hj=>by
    have:=h6 j y hj
    rw [add_lit] at this
    exact ⟨this,hb⟩)
   rw [List.length_map,h1] at this
   exact this
theorem CellsOK.intro1 {y : Value} {e : D} (hy : y.oneCell' = true) (he : Fz W (allOf W) noNames e y) : CellsOK W (allOf W) noNames [e] [y]:=by
 refine ⟨rfl,fun u hu=>by rw [List.mem_singleton.1 hu]; exact hy,fun j d' u hd hu=>?_⟩
 rcases j with _ | j
 ·obtain rfl : e = d':=by simpa using hd
  obtain rfl : y = u:=by simpa using hu
  exact he
 ·simp at hd
theorem CellsOK.fz1 {y : Value} {e : D} (h : CellsOK W (allOf W) noNames [e] [y]) : Fz W (allOf W) noNames e y:=h.fz 0 e y rfl rfl
theorem int_fz {P : Program} {t : TypeId} (ht : P.underlying t = some (.int .i64)) {fuel : Nat} {cs : List Value} {x : DataW H × List MemPlace} {spare : Nat → Bool} (h : DataW.trod enc P W base spare held fuel t cs = some x) :
  ∃ n : Int,CellsOK W (allOf W) noNames [I n] cs:=by
 obtain ⟨k,rfl,_,_⟩:=DataW.trod_int ht h
 exact ⟨k,CellsOK.intro1 rfl (.v _ _)⟩
end
end Go.Proofs.YtgpdmgaemhelgaaGreat
set_option maxHeartbeats 4000000
set_option maxRecDepth 100000
namespace Go.Proofs.YtgpdmgaemhelgaaGreat
open Go.RowKit
mutual
def esz : E → Nat
 | .mk _ _ _ ks=>1 + eszL ks
def eszL : List E → Nat
 | []=>0
 | e :: l=>esz e + eszL l
end
theorem esz_eq (e : E) : esz e = 1 + eszL e.ks:=by cases e; rfl
theorem eszL_append : ∀ (l m : List E),eszL (l ++ m) = eszL l + eszL m
 | [],m=>by rw [List.nil_append,eszL,Nat.zero_add]
 | e :: l,m=>by rw [List.cons_append,eszL,eszL,eszL_append l m]; omega
theorem eszL_next {es : List E} {i : Nat} {x : E} (h : es[i]? = some x) : eszL (es.take (i + 1)) = eszL (es.take i) + esz x:=by
 rw [take_next h,eszL_append,eszL,eszL]
 omega
theorem esz_small {w : Int} : ∀ (e : E) (d : Nat),eOk e w d → d ≤ 20 → esz e + 1 ≤ 2 ^ (d + 1):=by
 refine E.ind (fun e ih d h hd=>?_)
 rw [esz_eq]
 have h2 : ∀ x,x ∈ e.ks → d ≠ 0:=fun x hx=>((eOk_iff e w d).1 h).2.1 (List.length_pos_of_mem hx)
 rcases eOk_kids h with ⟨_,h1⟩ | ⟨_,a,h1,ha⟩ | ⟨_,a,b,h1,ha,hb⟩
 ·rw [h1,eszL]
  have : 2 ^ 1 ≤ 2 ^ (d + 1):=Nat.pow_le_pow_right (by decide) (by omega)
  omega
 ·have hd0:=h2 a (by rw [h1]; exact List.mem_cons_self ..)
  have:=ih a (by rw [h1]; exact List.mem_cons_self ..) (d - 1) ha (by omega)
  rw [h1,eszL,eszL]
  rw [show d - 1 + 1 = d by omega] at this
  rw [Nat.pow_succ]
  have : 2 ^ 1 ≤ 2 ^ d:=Nat.pow_le_pow_right (by decide) (by omega)
  omega
 ·have hd0:=h2 a (by rw [h1]; exact List.mem_cons_self ..)
  have:=ih a (by rw [h1]; exact List.mem_cons_self ..) (d - 1) ha (by omega)
  have:=ih b (by rw [h1]; exact List.mem_cons_of_mem _ (List.mem_cons_self ..)) (d - 1) hb (by omega)
  rw [h1,eszL,eszL,eszL]
  rw [show d - 1 + 1 = d by omega] at *
  rw [Nat.pow_succ]
  omega
theorem eszL_len : ∀ l : List E,l.length ≤ eszL l
 | []=>Nat.le_refl _
 | e :: l=>by
  have:=eszL_len l
  rw [eszL,esz_eq,List.length_cons]
  omega
theorem eszL_mem {e : E} {l : List E} (h : e ∈ l) : esz e ≤ eszL l:=by
 induction l with
 | nil=>cases h
 | cons x l ih=>
  rw [eszL]
  rcases List.mem_cons.1 h with rfl | h
  ·omega
  ·have:=ih h; omega
theorem eszL_rest : ∀ (es : List E) (i : Nat),i ≤ es.length → eszL (es.take i) + (es.length - i) ≤ eszL es
 | es,i,hi=>by
  have h1:=eszL_append (es.take i) (es.drop i)
  rw [List.take_append_drop] at h1
  have h2:=eszL_len (es.drop i)
  rw [List.length_drop] at h2
  omega
theorem eszL_low : ∀ (es : List E) (i : Nat),i ≤ es.length → i ≤ eszL (es.take i):=fun es i hi=>by
 have h:=eszL_len (es.take i)
 rw [List.length_take] at h
 omega
end Go.Proofs.YtgpdmgaemhelgaaGreat
namespace Go.Proofs.YtgpdmgaemhelgaaGreat
open Go.RowKit
noncomputable section
def r_Z115_0 : List GI:=[gi 2 (.box 2 2000002 (.t 0) (some 5)),gi 4 (.mov 4 (.k .nul))]
def r_Z115_1 : List GI:=[gi 12 (.mov 12 (.k .nul)),gt 5 12]
def r_Z115_2 : List GI:=[gi 13 (.mov 13 (.k .nul)),gs 14 2 5,gi 15 (.mov 15 (.k .nul)),gc 16 109 [.t 13,.t 14,.t 15],gt 6 16]
def r_Z115_3 : List GI:=[gk 7 0]
def r_Z115_4 : List GI:=[gt 17 7,gt 18 6,gn 19 18,gb 20 .lss 17 19]
def r_Z115_5 : List GI:=[gk 8 1]
def r_Z115_6 : List GI:=[gt 23 8,gd 24 .leq 23 11]
def r_Z115_7 : List GI:=[gt 27 8,gi 28 (.mov 28 (.k .nul)),gt 29 6,gt 30 7,ga 31 29 30 1,gl 32 31,gi 33 (.app 33 2000033 (.t 28) (.t 32) 1 8),gi 34 (.build 34 [I 0,.nul] [(0,(none,.t 27)),(1,(none,.t 33))]),gi 9 (.alloc 9 2000009 [I 0,.nul]),g0 (.sto 9 (.t 34) (some 2))]
def r_Z115_8 : List GI:=[gs 36 2 5,gt 37 1,gs 38 9 2,gc 39 54 [.t 36,.t 37,.t 38],gt 35 39,gi 40 (.ext 40 35 0),gi 41 (.ext 41 35 1),gi 10 (.alloc 10 2000010 [I 0,I 0,.nul,.nul,.nul]),g0 (.sto 10 (.t 40) (some 5)),gt 11 41]
def r_Z115_9 : List GI:=[gt 42 11]
def r_Z115_10 : List GI:=[gt 43 5,gs 44 9 2,gi 45 (.bsl 45 2 (some 2) [.agg [I 0,.nul]] [(0,.t 44)]),gi 46 (.app 46 2000046 (.t 43) (.t 45) 2 32),gt 5 46]
def r_Z115_11 : List GI:=[gt 25 8,gd 26 .add 25 1,gt 8 26]
def r_Z115_12 : List GI:=[gt 21 7,gd 22 .add 21 1,gt 7 22]
def r_Z115_13 : List GI:=[gt 47 5,gt 4 47]
def dc_Z115 : DC:=.seq (.z r_Z115_0) (.seq (.z r_Z115_1) (.seq (.z r_Z115_2) (.seq (.seq (.z r_Z115_3) (.block 0 (.loop (.seq (.seq (.z r_Z115_4) (.cond (.t 20) .skip (.exit 0))) (.seq (.block 1 (.seq (.z r_Z115_5) (.block 2 (.loop (.seq (.seq (.z r_Z115_6) (.cond (.t 24) .skip (.exit 2))) (.seq (.block 3 (.seq (.z r_Z115_7) (.seq (.z r_Z115_8) (.seq (.z r_Z115_9) (.cond (.t 42) (.z r_Z115_10) .skip))))) (.z r_Z115_11))))))) (.z r_Z115_12)))))) (.seq (.z r_Z115_13) .ret))))
theorem c_Z115 : cfun Tryz.prog [] 60 = some (48,dc_Z115,[(Res.tmp 4)]):=by kernel_rfl
def r_Z11_0 : List GI:=[gi 4 (.box 4 2000004 (.t 1) (some 5)),gi 6 (.alloc 6 2000006 [I 0,I 0,.nul,.nul,.nul]),gi 7 (.mov 7 (.k (.v (.bool false))))]
def r_Z11_1 : List GI:=[gt 12 0,gn 13 12,gd 14 .gtr 13 40,gt 15 14,⟨.lod 16 4 (some 5),some 16,some (15,false),false⟩,⟨.mov 17 (.t 2),some 17,some (15,false),false⟩,⟨.call 18 19 [.t 16,.t 17],some 18,some (15,false),true⟩,⟨.bin 19 .eql (.t 18) (.k (I 0)),some 19,some (15,false),false⟩,gi 20 (.pick 20 (.t 15) (.k (.v (.bool true))) (.t 19))]
def r_Z11_2 : List GI:=[gi 21 (.build 21 [I 0,I 0,.nul,.nul,.nul] []),g0 (.sto 6 (.t 21) (some 5)),gi 7 (.mov 7 (.k (.v (.bool false))))]
def r_Z11_3 : List GI:=[gt 22 0,gn 23 22,gk 24 0]
def r_Z11_4 : List GI:=[gb 25 .lss 24 23]
def r_Z11_5 : List GI:=[ga 26 22 24 2,gs 27 26 2,gi 9 (.alloc 9 2000009 [I 0,.nul]),g0 (.sto 9 (.t 27) (some 2))]
def r_Z11_6 : List GI:=[gs 29 9 2,gs 30 4 5,gt 31 2,gc 32 51 [.t 29,.t 30,.t 31],gt 28 32,gi 33 (.ext 33 28 0),gi 34 (.ext 34 28 1),gi 10 (.alloc 10 2000010 [I 0,I 0,.nul,.nul,.nul]),g0 (.sto 10 (.t 33) (some 5)),gt 11 34]
def r_Z11_7 : List GI:=[gt 35 11,gi 36 (.un 36 UnOp.not (.t 35))]
def r_Z11_8 : List GI:=[gi 37 (.build 37 [I 0,I 0,.nul,.nul,.nul] []),g0 (.sto 6 (.t 37) (some 5)),gi 7 (.mov 7 (.k (.v (.bool false))))]
def r_Z11_9 : List GI:=[gs 38 10 5,g0 (.sto 4 (.t 38) (some 5))]
def r_Z11_10 : List GI:=[gd 39 .add 24 1,gt 24 39]
def r_Z11_11 : List GI:=[gs 40 4 5,g0 (.sto 6 (.t 40) (some 5)),gi 7 (.mov 7 (.k (.v (.bool true))))]
def dc_Z11 : DC:=.seq (.z r_Z11_0) (.seq (.seq (.z r_Z11_1) (.cond (.t 20) (.seq (.z r_Z11_2) .ret) .skip)) (.seq (.seq (.z r_Z11_3) (.block 0 (.loop (.seq (.z r_Z11_4) (.seq (.cond (.t 25) .skip (.exit 0)) (.seq (.block 1 (.seq (.z r_Z11_5) (.seq (.z r_Z11_6) (.seq (.seq (.z r_Z11_7) (.cond (.t 36) (.seq (.z r_Z11_8) .ret) .skip)) (.z r_Z11_9))))) (.z r_Z11_10))))))) (.seq (.z r_Z11_11) .ret)))
theorem c_Z11 : cfun Tryz.prog [] 63 = some (41,dc_Z11,[(Res.cell 6 (some 5)),(Res.tmp 7)]):=by kernel_rfl
def r_Z70_0 : List GI:=[gi 3 (.box 3 2000003 (.t 0) (some 5)),gi 6 (.alloc 6 2000006 [I 0,I 0,.nul,.nul,.nul]),gi 7 (.mov 7 (.k (.v (.bool false))))]
def r_Z70_1 : List GI:=[gs 12 3 5,gt 13 1,gc 14 53 [.t 12,.t 13],gd 15 .eql 14 0,gt 16 15,⟨.mov 17 (.t 2),some 17,some (16,false),false⟩,⟨.len 18 (.t 17),some 18,some (16,false),false⟩,⟨.bin 19 .gtr (.t 18) (.k (I 40)),some 19,some (16,false),false⟩,gi 20 (.pick 20 (.t 16) (.k (.v (.bool true))) (.t 19))]
def r_Z70_2 : List GI:=[gi 21 (.build 21 [I 0,I 0,.nul,.nul,.nul] []),g0 (.sto 6 (.t 21) (some 5)),gi 7 (.mov 7 (.k (.v (.bool false))))]
def r_Z70_3 : List GI:=[gs 22 3 5,gc 23 64 [.t 22],gi 8 (.alloc 8 2000008 [I 0,I 0,.nul,.nul,.nul]),g0 (.sto 8 (.t 23) (some 5))]
def r_Z70_4 : List GI:=[gk 9 0]
def r_Z70_5 : List GI:=[gt 24 9,gt 25 2,gn 26 25,gb 27 .lss 24 26]
def r_Z70_6 : List GI:=[gs 31 8 5,gt 32 1,gt 33 2,gt 34 9,ga 35 33 34 2,gs 36 35 2,gc 37 17 [.t 31,.t 32,.t 36],gt 30 37,gi 38 (.ext 38 30 0),gi 39 (.ext 39 30 1),gi 10 (.alloc 10 2000010 [I 0,I 0,.nul,.nul,.nul]),g0 (.sto 10 (.t 38) (some 5)),gt 11 39]
def r_Z70_7 : List GI:=[gt 40 11,gi 41 (.un 41 UnOp.not (.t 40))]
def r_Z70_8 : List GI:=[gi 42 (.build 42 [I 0,I 0,.nul,.nul,.nul] []),g0 (.sto 6 (.t 42) (some 5)),gi 7 (.mov 7 (.k (.v (.bool false))))]
def r_Z70_9 : List GI:=[gs 43 10 5,g0 (.sto 8 (.t 43) (some 5))]
def r_Z70_10 : List GI:=[gt 28 9,gd 29 .add 28 1,gt 9 29]
def r_Z70_11 : List GI:=[gs 44 8 5,g0 (.sto 6 (.t 44) (some 5)),gi 7 (.mov 7 (.k (.v (.bool true))))]
def dc_Z70 : DC:=.seq (.z r_Z70_0) (.seq (.seq (.z r_Z70_1) (.cond (.t 20) (.seq (.z r_Z70_2) .ret) .skip)) (.seq (.z r_Z70_3) (.seq (.seq (.z r_Z70_4) (.block 0 (.loop (.seq (.seq (.z r_Z70_5) (.cond (.t 27) .skip (.exit 0))) (.seq (.block 1 (.seq (.reg r_Z70_6 (some [0,0,0,0,12,28,63,127,255,255,0,1535,4095])) (.seq (.seq (.z r_Z70_7) (.cond (.t 41) (.seq (.z r_Z70_8) .ret) .skip)) (.z r_Z70_9)))) (.z r_Z70_10)))))) (.seq (.z r_Z70_11) .ret))))
theorem c_Z70 : cfun Tryz.prog [] 30 = some (45,dc_Z70,[(Res.cell 6 (some 5)),(Res.tmp 7)]):=by kernel_rfl
end
end Go.Proofs.YtgpdmgaemhelgaaGreat
