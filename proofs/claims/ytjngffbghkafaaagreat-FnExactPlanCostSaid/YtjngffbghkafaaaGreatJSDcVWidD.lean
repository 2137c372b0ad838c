/-
  A list of tables. No condition.
-/
import Derived.Deep.Slices
import Derived.ChangeSame
import Derived.KernelRfl
import Derived.Test.YtjngffbghkafaaaGreatJSVTbD
import Derived.Test.YtjngffbghkafaaaGreatJSDcWXPc
import Derived.Test.YtjngffbghkafaaaGreatJSFactsC
import Derived.Test.YtjngffbghkafaaaGreatRows
import Derived.Test.YtjngffbghkafaaaGreatJSVGo
import Derived.Test.YtjngffbghkafaaaGreatJSVGi
set_option maxHeartbeats 4000000
set_option maxRecDepth 100000
namespace Go.Proofs.YtjngffbghkafaaaGreat
open Go.RowKit
def tasD (db : List Ta) : D:=.sl 2 (db.map taD)
theorem tas_pur : ∀ l : List Ta,D.purL (l.map taD) = true
 | []=>rfl
 | t :: l=>by
  rw [List.map_cons,D.purL,tas_pur l,taD]
  rfl
theorem tas_ren (L : List Nat) (l : List Ta) : D.renL L (l.map taD) = l.map taD:=ren_pure.renL_pure L _ (tas_pur l)
attribute [go_sem] tas_pur tas_ren tasD
end Go.Proofs.YtjngffbghkafaaaGreat
set_option maxHeartbeats 4000000
set_option maxRecDepth 100000
namespace Go.Proofs.YtjngffbghkafaaaGreat
open Go.ChangeShapes Go.WideShapes Go.ChangeAt Go.RowKit Go.Joins Go.Deep
def big : Nat:=9223372036854775807
section
variable {H : Type} {enc : TypeId × Value → H} {W : World} {base b0 : Nat} {held : Bool} {r : Reach} {v : Value} {d : DataW H} {p : List MemPlace}
theorem add_lit (b o j : Nat) : (⟨b,o,none⟩ : Addr).add j = ⟨b,o + j,none⟩:=by cases j <;> rfl
theorem slice_fz {P : Program} {t u : TypeId} {s : Nat} (ht : P.underlying t = some (.slice u)) (hs : P.cellsOf u = s) (h0 : 0 < s) {α : Type} (toD : α → D) (Q : α → Prop) {fuel : Nat} {cs : List Value} {x : DataW H × List MemPlace}
  (h : DataW.trod enc P W base (fun _=>true) held fuel t cs = some x)
  (hel : ∀ n',n' < fuel → ∀ cs' x',DataW.trod enc P W base (fun _=>true) held n' u cs' = some x' → ∃ a : α,(toD a).cells.length = s ∧ CellsOK W (allOf W) noNames (toD a).cells cs' ∧ Q a) :
  ∃ al : List α,(∀ a,a ∈ al → Q a) ∧ al.length ≤ big ∧ CellsOK W (allOf W) noNames [.sl s (al.map toD)] cs:=by
 have one : ∀ y : Value,y.oneCell' = true → ∀ e : D,Fz W (allOf W) noNames e y → CellsOK W (allOf W) noNames [e] [y]:=by
  intro y hy e he
  refine ⟨rfl,fun u hu=>by rw [List.mem_singleton.1 hu]; exact hy,fun j d' u hd hu=>?_⟩
  rcases j with _ | j
  ·obtain rfl : e = d':=by simpa using hd
   obtain rfl : y = u:=by simpa using hu
   exact he
  ·simp at hd
 rcases DataW.trod_slice ht h with ⟨rfl,_⟩ | ⟨a,len,cap,elems,rest,n',rfl,rfl,_,_,hcap,hm,hlen,hget,_,_⟩
 ·exact ⟨[],(fun _ h=>by cases h),Nat.zero_le _,one _ rfl _ (.sl0 _ s none 0)⟩
 ·have step : ∀ k,k ≤ len → ∃ (al : List α) (us : List Value),al.length = k ∧ us.length = k * s ∧ (∀ a,a ∈ al → Q a) ∧ (∀ e,e ∈ al.map toD → e.cells.length = s) ∧ CellsOK W (allOf W) noNames (D.flat (al.map toD)) us ∧ ∀ j y,us[j]? = some y → W.cell? (a.add j) = some y:=by
   intro k
   induction k with
   | zero=>intro _; exact ⟨[],[],rfl,by simp,(fun _ h=>by cases h),(fun _ h=>by cases h),CellsOK.nil,fun j y h=>by simp at h⟩
   | succ k ih=>
    intro hk
    obtain ⟨al,us,h1,h2,h3,h4,h5,h6⟩:=ih (by omega)
    have h7:=hget k (by omega)
    rw [hs,List.getElem?_eq_getElem (by omega)] at h7
    obtain ⟨cs',hc,ht'⟩:=Option.bind_eq_some_iff.1 h7
    obtain ⟨e,he,hce,hq⟩:=hel n' (by omega) cs' _ ht'
    obtain ⟨hl',_,hat⟩:=World.cells?_some hc
    have hcl : cs'.length = s:=by rw [hce.len,he]
    refine ⟨al ++ [e],us ++ cs',by simp [h1],by rw [List.length_append,h2,hcl,Nat.add_mul]; omega,fun z hz=>?_,fun z hz=>?_,?_,fun j y hj=>?_⟩
    ·rcases List.mem_append.1 hz with hz | hz
     ·exact h3 z hz
     ·obtain rfl : z = e:=by simpa using hz
      exact hq
    ·rw [List.map_append] at hz
     rcases List.mem_append.1 hz with hz | hz
     ·exact h4 z hz
     ·obtain rfl : z = toD e:=by simpa using hz
      exact he
    ·have : D.flat ((al ++ [e]).map toD) = D.flat (al.map toD) ++ (toD e).cells:=by
      unfold D.flat
      rw [List.map_append,List.flatMap_append,List.map_cons,List.map_nil,List.flatMap_cons,List.flatMap_nil,List.append_nil]
     rw [this]
     exact h5.append hce
    ·by_cases hjl : j < us.length
     ·rw [List.getElem?_append_left hjl] at hj
      exact h6 j y hj
     ·rw [List.getElem?_append_right (by omega)] at hj
      have hlt : j - us.length < s:=by
       have:=(List.getElem?_eq_some_iff.1 hj).1
       omega
      have h8:=hat (j - us.length) (by omega)
      rw [Go.Deep.add_add,show k * s + (j - us.length) = j by omega] at h8
      rw [h8]
      exact hj
  obtain ⟨al,us,h1,h2,h3,h4,h5,h6⟩:=step len (Nat.le_refl _)
  refine ⟨al,h3,by unfold big; unfold maxLen at hm; omega,?_⟩
  refine one _ rfl _ ?_
  by_cases hl : len = 0
  ·subst hl
   obtain rfl : al = []:=List.length_eq_zero_iff.1 h1
   exact .sl0 _ s (some a) cap
  ·have hus : 0 < us.length:=by rw [h2]; exact Nat.mul_pos (by omega) h0
   obtain ⟨b,o,sp⟩:=a
   have h9:=h6 0 _ (List.getElem?_eq_getElem hus)
   have hsp : sp = none:=by simpa [Addr.add] using World.cell?_spot h9
   subst hsp
   have hb : b < W.heap.size:=World.block_lt_of_cell? W ⟨b,o,none⟩ (by simpa [Addr.add] using h9)
   have:=Fz.ofCells (w:=W) (F:=allOf W) (m:=noNames) (b:=b) (off:=o) (cap:=cap) h0 (by rw [List.length_map]; omega) h4 h5 (fun j y hj=>by
    have:=h6 j y hj
    rw [add_lit] at this
    exact ⟨this,hb⟩)
   rw [List.length_map,h1] at this
   exact this
theorem CellsOK.intro1 {y : Value} {e : D} (hy : y.oneCell' = true) (he : Fz W (allOf W) noNames e y) : CellsOK W (allOf W) noNames [e] [y]:=by
 refine ⟨rfl,fun u hu=>by rw [List.mem_singleton.1 hu]; exact hy,fun j d' u hd hu=>?_⟩
 rcases j with _ | j
 ·obtain rfl : e = d':=by simpa using hd
  obtain rfl : y = u:=by simpa using hu
  exact he
 ·simp at hd
theorem CellsOK.fz1 {y : Value} {e : D} (h : CellsOK W (allOf W) noNames [e] [y]) : Fz W (allOf W) noNames e y:=h.fz 0 e y rfl rfl
theorem int_fz {P : Program} {t : TypeId} (ht : P.underlying t = some (.int .i64)) {fuel : Nat} {cs : List Value} {x : DataW H × List MemPlace} {spare : Nat → Bool} (h : DataW.trod enc P W base spare held fuel t cs = some x) :
  ∃ n : Int,CellsOK W (allOf W) noNames [I n] cs:=by
 obtain ⟨k,rfl,_,_⟩:=DataW.trod_int ht h
 exact ⟨k,CellsOK.intro1 rfl (.v _ _)⟩
end
end Go.Proofs.YtjngffbghkafaaaGreat
set_option maxHeartbeats 4000000
set_option maxRecDepth 100000
namespace Go.Proofs.YtjngffbghkafaaaGreat
open Go.RowKit
mutual
def esz : E → Nat
 | .mk _ _ _ ks=>1 + eszL ks
def eszL : List E → Nat
 | []=>0
 | e :: l=>esz e + eszL l
end
theorem esz_eq (e : E) : esz e = 1 + eszL e.ks:=by cases e; rfl
theorem eszL_append : ∀ (l m : List E),eszL (l ++ m) = eszL l + eszL m
 | [],m=>by rw [List.nil_append,eszL,Nat.zero_add]
 | e :: l,m=>by rw [List.cons_append,eszL,eszL,eszL_append l m]; omega
theorem eszL_next {es : List E} {i : Nat} {x : E} (h : es[i]? = some x) : eszL (es.take (i + 1)) = eszL (es.take i) + esz x:=by
 rw [take_next h,eszL_append,eszL,eszL]
 omega
theorem eszL_len : ∀ l : List E,l.length ≤ eszL l
 | []=>Nat.le_refl _
 | e :: l=>by
  have:=eszL_len l
  rw [eszL,esz_eq,List.length_cons]
  omega
theorem eszL_mem {e : E} {l : List E} (h : e ∈ l) : esz e ≤ eszL l:=by
 induction l with
 | nil=>cases h
 | cons x l ih=>
  rw [eszL]
  rcases List.mem_cons.1 h with rfl | h
  ·omega
  ·have:=ih h; omega
theorem eszL_rest : ∀ (es : List E) (i : Nat),i ≤ es.length → eszL (es.take i) + (es.length - i) ≤ eszL es
 | es,i,hi=>by
  have h1:=eszL_append (es.take i) (es.drop i)
  rw [List.take_append_drop] at h1
  have h2:=eszL_len (es.drop i)
  rw [List.length_drop] at h2
  omega
theorem eszL_low : ∀ (es : List E) (i : Nat),i ≤ es.length → i ≤ eszL (es.take i):=fun es i hi=>by
 have h:=eszL_len (es.take i)
 rw [List.length_take] at h
 omega
end Go.Proofs.YtjngffbghkafaaaGreat
namespace Go.Proofs.YtjngffbghkafaaaGreat
open Go.RowKit
noncomputable section
def r_Z77_0 : List GI:=[gi 3 (.box 3 2000003 (.t 0) (some 5)),gk 6 0]
def r_Z77_1 : List GI:=[gt 11 2,gd 12 .lss 11 0,gt 13 12,⟨.lod 14 3 (some 5),some 14,some (13,false),false⟩,⟨.call 15 133 [.t 14],some 15,some (13,false),true⟩,⟨.un 16 UnOp.not (.t 15),some 16,some (13,false),false⟩,gi 17 (.pick 17 (.t 13) (.k (.v (.bool true))) (.t 16))]
def r_Z77_2 : List GI:=[gk 6 0]
def r_Z77_3 : List GI:=[gf 18 3 0,gl 19 18,gd 20 .eql 19 1]
def r_Z77_4 : List GI:=[gf 21 3 1,gl 22 21,gd 23 .lss 22 0,gt 24 23,⟨.fad 25 3 1,some 25,some (24,false),false⟩,⟨.lod 26 25 none,some 26,some (24,false),false⟩,⟨.mov 27 (.t 1),some 27,some (24,false),false⟩,⟨.len 28 (.t 27),some 28,some (24,false),false⟩,⟨.bin 29 .geq (.t 26) (.t 28),some 29,some (24,false),false⟩,gi 30 (.pick 30 (.t 24) (.k (.v (.bool true))) (.t 29))]
def r_Z77_5 : List GI:=[gk 6 0]
def r_Z77_6 : List GI:=[gt 31 1,gf 32 3 1,gl 33 32,ga 34 31 33 1,gl 35 34,gt 6 35]
def r_Z77_7 : List GI:=[gi 7 (.mov 7 (.k .nul))]
def r_Z77_8 : List GI:=[gf 36 3 4,gl 37 36,gn 38 37,gk 39 0]
def r_Z77_9 : List GI:=[gb 40 .lss 39 38]
def r_Z77_10 : List GI:=[ga 41 37 39 5,gs 42 41 5,gi 9 (.alloc 9 2000009 [I 0,I 0,.nul,.nul,.nul]),g0 (.sto 9 (.t 42) (some 5))]
def r_Z77_11 : List GI:=[gs 43 9 5,gt 44 1,gt 45 2,gd 46 .sub 45 1,gc 47 82 [.t 43,.t 44,.t 46],gt 10 47]
def r_Z77_12 : List GI:=[gt 48 10,gd 49 .eql 48 0]
def r_Z77_13 : List GI:=[gk 6 0]
def r_Z77_14 : List GI:=[gt 50 7,gt 51 10,gi 52 (.bsl 52 1 none [I 0] [(0,.t 51)]),gi 53 (.app 53 2000053 (.t 50) (.t 52) 1 8),gt 7 53]
def r_Z77_15 : List GI:=[gd 54 .add 39 1,gt 39 54]
def r_Z77_16 : List GI:=[gs 55 3 5,gt 56 7,gc 57 134 [.t 55,.t 56],gi 58 (.un 58 UnOp.not (.t 57))]
def r_Z77_17 : List GI:=[gk 6 0]
def r_Z77_18 : List GI:=[gs 59 3 5,gt 60 7,gc 61 92 [.t 59,.t 60],gt 6 61]
def dc_Z77 : DC:=.seq (.z r_Z77_0) (.seq (.seq (.z r_Z77_1) (.cond (.t 17) (.seq (.z r_Z77_2) .ret) .skip)) (.seq (.seq (.z r_Z77_3) (.cond (.t 20) (.seq (.seq (.z r_Z77_4) (.cond (.t 30) (.seq (.z r_Z77_5) .ret) .skip)) (.seq (.z r_Z77_6) .ret)) .skip)) (.seq (.z r_Z77_7) (.seq (.seq (.z r_Z77_8) (.block 0 (.loop (.seq (.z r_Z77_9) (.seq (.cond (.t 40) .skip (.exit 0)) (.seq (.block 1 (.seq (.z r_Z77_10) (.seq (.z r_Z77_11) (.seq (.seq (.z r_Z77_12) (.cond (.t 49) (.seq (.z r_Z77_13) .ret) .skip)) (.z r_Z77_14))))) (.z r_Z77_15))))))) (.seq (.seq (.z r_Z77_16) (.cond (.t 58) (.seq (.z r_Z77_17) .ret) .skip)) (.seq (.z r_Z77_18) .ret))))))
theorem c_Z77 : cfun Tryz.prog [] 82 = some (62,dc_Z77,[(Res.tmp 6)]):=by kernel_rfl
end
end Go.Proofs.YtjngffbghkafaaaGreat
namespace Go.Proofs.YtjngffbghkafaaaGreat
open Go.RowKit
noncomputable section
def r_Z106_0 : List GI:=[gi 3 (.box 3 2000003 (.t 0) (some 5)),gk 6 0]
def r_Z106_1 : List GI:=[gi 10 (.mov 10 (.k .nul)),gt 7 10]
def r_Z106_2 : List GI:=[gs 11 3 5,gc 12 124 [.t 11],gi 13 (.un 13 UnOp.not (.t 12)),gt 14 13,⟨.fad 15 3 4,some 15,some (14,false),false⟩,⟨.lod 16 15 none,some 16,some (14,false),false⟩,⟨.len 17 (.t 16),some 17,some (14,false),false⟩,⟨.bin 18 .gtr (.t 17) (.k (I 0)),some 18,some (14,false),false⟩,⟨.mov 19 (.t 18),some 19,some (14,false),false⟩,⟨.mov 20 (.t 2),some 20,some (19,true),false⟩,⟨.bin 21 .eql (.t 20) (.k (I 0)),some 21,some (19,true),false⟩,⟨.pick 22 (.t 19) (.t 21) (.k (.v (.bool false))),some 22,some (14,false),false⟩,gi 23 (.pick 23 (.t 14) (.k (.v (.bool true))) (.t 22))]
def r_Z106_3 : List GI:=[gk 6 0]
def r_Z106_4 : List GI:=[gk 8 0]
def r_Z106_5 : List GI:=[gt 24 8,gf 25 3 4,gl 26 25,gn 27 26,gb 28 .lss 24 27]
def r_Z106_6 : List GI:=[gf 31 3 4,gl 32 31,gt 33 8,ga 34 32 33 5,gs 35 34 5,gt 36 1,gt 37 2,gd 38 .sub 37 1,gc 39 77 [.t 35,.t 36,.t 38],gt 9 39]
def r_Z106_7 : List GI:=[gt 40 9,gd 41 .eql 40 0]
def r_Z106_8 : List GI:=[gk 6 0]
def r_Z106_9 : List GI:=[gt 42 7,gt 43 9,gi 44 (.bsl 44 1 none [I 0] [(0,.t 43)]),gi 45 (.app 45 2000045 (.t 42) (.t 44) 1 8),gt 7 45]
def r_Z106_10 : List GI:=[gt 29 8,gd 30 .add 29 1,gt 8 30]
def r_Z106_11 : List GI:=[gf 46 3 0,gl 47 46]
def r_Z106_12 : List GI:=[gd 49 .eql 47 1,gt 48 49]
def r_Z106_13 : List GI:=[gf 50 3 1,gl 51 50,gt 52 1,gn 53 52,gd 54 .sub 53 1,gc 55 67 [.t 51,.k (I 0),.t 54]]
def r_Z106_14 : List GI:=[gt 56 1,gf 57 3 1,gl 58 57,ga 59 56 58 1,gl 60 59,gt 6 60]
def r_Z106_15 : List GI:=[gd 62 .eql 47 2,gt 61 62]
def r_Z106_16 : List GI:=[gf 63 3 2,gl 64 63,gi 65 (.iad 65 64 (.k (I 0)) 5),gs 66 65 5,gt 67 7,gi 68 (.iad 68 67 (.k (I 0)) 1),gl 69 68,gc 70 125 [.t 66,.t 69]]
def r_Z106_17 : List GI:=[gt 71 7,gi 72 (.iad 72 71 (.k (I 0)) 1),gl 73 72,gt 6 73]
def r_Z106_18 : List GI:=[gd 75 .eql 47 3,gt 74 75]
def r_Z106_19 : List GI:=[gf 76 3 2,gl 77 76,gt 78 7,gi 79 (.iad 79 78 (.k (I 0)) 1),gl 80 79,gc 81 126 [.t 77,.t 80],gt 6 81]
def r_Z106_20 : List GI:=[gd 83 .eql 47 4,gt 82 83]
def r_Z106_21 : List GI:=[gd 84 .eql 47 5,gt 82 84]
def r_Z106_22 : List GI:=[gt 85 7,gi 86 (.iad 86 85 (.k (I 0)) 1),gl 87 86,gt 88 7,gi 89 (.iad 89 88 (.k (I 1)) 1),gl 90 89,gb 91 .add 87 90,gd 92 .leq 91 6,gt 93 92,⟨.fad 94 3 2,some 94,some (93,true),false⟩,⟨.lod 95 94 none,some 95,some (93,true),false⟩,⟨.iad 96 95 (.k (I 0)) 5,some 96,some (93,true),false⟩,⟨.lod 97 96 (some 5),some 97,some (93,true),false⟩,⟨.mov 98 (.t 7),some 98,some (93,true),false⟩,⟨.iad 99 98 (.k (I 0)) 1,some 99,some (93,true),false⟩,⟨.lod 100 99 none,some 100,some (93,true),false⟩,⟨.mov 101 (.t 7),some 101,some (93,true),false⟩,⟨.iad 102 101 (.k (I 1)) 1,some 102,some (93,true),false⟩,⟨.lod 103 102 none,some 103,some (93,true),false⟩,⟨.bin 104 .add (.t 100) (.t 103),some 104,some (93,true),false⟩,⟨.call 105 125 [.t 97,.t 104],some 105,some (93,true),true⟩,gi 106 (.pick 106 (.t 93) (.t 105) (.k (.v (.bool false))))]
def r_Z106_23 : List GI:=[gt 107 7,gi 108 (.iad 108 107 (.k (I 0)) 1),gl 109 108,gt 110 7,gi 111 (.iad 111 110 (.k (I 1)) 1),gl 112 111,gb 113 .add 109 112,gt 6 113]
def r_Z106_24 : List GI:=[gd 115 .eql 47 6,gt 114 115]
def r_Z106_25 : List GI:=[gt 116 7,gi 117 (.iad 117 116 (.k (I 0)) 1),gl 118 117,gt 119 7,gi 120 (.iad 120 119 (.k (I 1)) 1),gl 121 120,gb 122 .eql 118 121]
def r_Z106_26 : List GI:=[gt 123 7,gi 124 (.iad 124 123 (.k (I 0)) 1),gl 125 124,gt 6 125]
def r_Z106_27 : List GI:=[gd 127 .eql 47 7,gt 126 127]
def r_Z106_28 : List GI:=[gt 128 7,gi 129 (.iad 129 128 (.k (I 0)) 1),gl 130 129,gt 6 130]
def r_Z106_29 : List GI:=[gd 132 .eql 47 8,gt 131 132]
def r_Z106_30 : List GI:=[gf 133 3 3,gl 134 133,gt 135 7,gi 136 (.iad 136 135 (.k (I 0)) 1),gl 137 136,gc 138 127 [.t 134,.t 137],gt 139 138,⟨.fad 140 3 3,some 140,some (139,true),false⟩,⟨.lod 141 140 none,some 141,some (139,true),false⟩,⟨.len 142 (.t 141),some 142,some (139,true),false⟩,⟨.bin 143 .lss (.t 142) (.k (I 6)),some 143,some (139,true),false⟩,gi 144 (.pick 144 (.t 139) (.t 143) (.k (.v (.bool false))))]
def r_Z106_31 : List GI:=[gf 145 3 3,gl 146 145,gn 147 146,gd 148 .add 147 1,gt 6 148]
def r_Z106_32 : List GI:=[gk 6 0]
def dc_Z106 : DC:=.seq (.z r_Z106_0) (.seq (.z r_Z106_1) (.seq (.seq (.z r_Z106_2) (.cond (.t 23) (.seq (.z r_Z106_3) .ret) .skip)) (.seq (.seq (.z r_Z106_4) (.block 0 (.loop (.seq (.seq (.z r_Z106_5) (.cond (.t 28) .skip (.exit 0))) (.seq (.block 1 (.seq (.z r_Z106_6) (.seq (.seq (.z r_Z106_7) (.cond (.t 41) (.seq (.z r_Z106_8) .ret) .skip)) (.z r_Z106_9)))) (.z r_Z106_10)))))) (.seq (.seq (.z r_Z106_11) (.block 2 (.seq (.z r_Z106_12) (.cond (.t 48) (.seq (.z r_Z106_13) (.cond (.t 55) (.seq (.z r_Z106_14) .ret) .skip)) (.seq (.z r_Z106_15) (.cond (.t 61) (.seq (.reg r_Z106_16 (some [0,1,3,7,0,16,48,127])) (.cond (.t 70) (.seq (.z r_Z106_17) .ret) .skip)) (.seq (.z r_Z106_18) (.cond (.t 74) (.seq (.reg r_Z106_19 (some [0,1,0,4,12,31,63])) .ret) (.seq (.seq (.z r_Z106_20) (.cond (.t 82) .skip (.z r_Z106_21))) (.cond (.t 82) (.seq (.reg r_Z106_22 (some [0,1,3,0,8,24,63,127,255,511,1023,2047,4095,511,8703,25087,511,66047,197119,516607,1048575,2097151])) (.cond (.t 106) (.seq (.reg r_Z106_23 (some [0,1,3,0,8,24,63,127])) .ret) .skip)) (.seq (.z r_Z106_24) (.cond (.t 114) (.seq (.reg r_Z106_25 (some [0,1,3,0,8,24,63])) (.cond (.t 122) (.seq (.z r_Z106_26) .ret) .skip)) (.seq (.z r_Z106_27) (.cond (.t 126) (.seq (.z r_Z106_28) .ret) (.seq (.z r_Z106_29) (.cond (.t 131) (.seq (.reg r_Z106_30 (some [0,1,0,4,12,31,63,127,255,511,1023,2047])) (.cond (.t 144) (.seq (.z r_Z106_31) .ret) .skip)) .skip)))))))))))))))) (.seq (.z r_Z106_32) .ret)))))
theorem c_Z106 : cfun Tryz.prog [] 77 = some (149,dc_Z106,[(Res.tmp 6)]):=by kernel_rfl
end
end Go.Proofs.YtjngffbghkafaaaGreat
