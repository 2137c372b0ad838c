/-
  The width of a plan out of those of its kids, in the model. No condition.
-/
import Derived.Test.YtgpdmgaemhelgaaGreatJSDcVWid
import Derived.Test.YtgpdmgaemhelgaaGreatKSDca
import Derived.Test.YtgpdmgaemhelgaaGreatJSVOutB
import Derived.Test.YtgpdmgaemhelgaaGreatJSVGo
import Derived.Test.YtgpdmgaemhelgaaGreatKSDcb
set_option maxHeartbeats 4000000
set_option maxRecDepth 100000
namespace Go.Proofs.YtgpdmgaemhelgaaGreat
open Go.RowKit
theorem one_sum {ns : List Int} {n : Int} (h : ns.length = 1) (h0 : ns[0]? = some n) : ns.sum = n:=by
 match ns,h with
 | [m],_=>cases h0; simp
theorem two_sum {ns : List Int} {n m : Int} (h : ns.length = 2) (h0 : ns[0]? = some n) (h1 : ns[1]? = some m) : ns.sum = n + m:=by
 match ns,h with
 | [a,b],_=>cases h0; cases h1; simp
theorem one_all {α : Type} {l : List α} {x : α} {P : α → Prop} (h : l.length = 1) (h0 : l[0]? = some x) : (∀ (j : Nat) (y : α),l[j]? = some y → P y) ↔ P x:=by
 match l,h with
 | [m],_=>
  cases h0
  refine ⟨fun h=>h 0 _ rfl,fun h j y hj=>?_⟩
  rcases j with _ | j
  ·cases hj; exact h
  ·simp at hj
theorem planWidth_main (p : Pl) (ws : List Int) (d : Nat) (hd : d < 1000) (hd0 : 0 < d) (hf : fields p) (hk : ¬ p.k = 1) (hc : p.cs.length ≤ 1048576) (hec : p.es.length ≤ 1048576) (ns : List Int) (hl : ns.length = p.ks.length) (hn : ∀ (j : Nat) (x : Int),ns[j]? = some x → 0 ≤ x ∧ x ≤ 6)
  (hA : ∀ (i : Nat) (x : Pl) (n : Int),p.ks[i]? = some x → ns[i]? = some n → Does Tryz.prog 95 [] [pD x,intsD ws,I ((d : Int) - 1)] (I n) []) : Does Tryz.prog 95 [] [pD p,intsD ws,I d] (I (resV p ns)) []:=by
 have ho:=onlyFields_ok p
 rw [decide_eq_true hf] at ho
 have hf1:=hf
 unfold fields at hf1
 have hks : 1 ≤ p.ks.length ∧ p.ks.length ≤ 2:=by omega
 refine Bg c_Z92 mixed (go1 trivial ?_)
 refine Uc trivial (ho) (go1 trivial ?_)
 refine dw_for (c:=2) (l:=fun i=>[(1,intsD ws),(2,I d),(3,.ref 1000000 0),(7,.own 1000001 1 i),(8,I i),(1000000,.obj [I p.k,I p.t,.sl 5 (p.es.map eD),intsD p.cs,.sl 5 (p.ks.map pD)]),(1000001,.row 1 ((ns.take i).map I))]) p.ks.length (fun i=>∀ (j : Nat) (n : Int),j < i → ns[j]? = some n → ¬ n = 0) 0 (fun j n hj=>by omega) ((wk_row 7 2000045 1 (by decide) (by decide) rfl rfl).trans (Wk.list [2000003,2000045] rfl rfl ?_)) (fun i hi hJ=>?_) (Nat.zero_le _)
 ·repeat' (first|(conv in hold _=>simp (disch:=omega) only [go_sem])|exact trivial|exact Sub.refl _|omega)
  exact rfl
 ·have hlt:=take_len (vs:=ns) (i:=i) (by omega)
  have hmt:=take_map I (vs:=ns) (i:=i) (by omega)
  by_cases hil : i < p.ks.length
  ·obtain ⟨x,hx⟩ : ∃ x,p.ks[i]? = some x:=⟨_,List.getElem?_eq_getElem hil⟩
   obtain ⟨n,hnx,_⟩:=get_ex (ns:=ns) (i:=i) (by omega)
   have hix:=hA i x n hx hnx
   have htn:=take_next hnx
   by_cases hn0 : n = 0
   ·rw [resV_z ⟨i,by rw [hnx,hn0]⟩]
    refine go1 @hx ?_
    exact Uc trivial (hix) (go0 trivial)
   ·refine go1 @hx ?_
    refine Uc trivial (hix) (go1 trivial ?_)
    refine ⟨hil,upto1 (P:=fun _ n=>¬ n = 0) hnx hn0 hJ,Wk.list [1000000,2000045] rfl rfl ?_⟩
    repeat' (first|(conv in hold _=>simp (disch:=omega) only [go_sem])|exact trivial|exact Sub.refl _|omega)
    rw [hmt,htn,List.map_append,List.map_cons,List.map_nil]
  ·obtain rfl : i = p.ks.length:=by omega
   have hz : ¬ zeroIn ns:=fun ⟨j,hj⟩=>hJ j 0 (by rw [← hl]; exact (List.getElem?_eq_some_iff.1 hj).1) hj rfl
   have e1 : ns.take p.ks.length = ns:=List.take_of_length_le (by omega)
   obtain ⟨n0,h0,g0⟩:=get_ex (ns:=ns) (i:=0) (by omega)
   have r0:=hn 0 n0 h0
   have z0:=hJ 0 n0 (by omega) h0
   by_cases h2 : p.k = 2
   ·have hel : p.es.length = 1:=by omega
    obtain ⟨x,hx⟩ : ∃ x,p.es[0]? = some x:=⟨_,List.getElem?_eq_getElem (by omega)⟩
    have hs:=one_sum (by omega) h0
    have hfv : fitsV p ns ↔ eOk x n0 8:=by
     unfold fitsV
     rw [if_neg (by omega),if_neg (by omega),one_all (P:=fun e=>(1 ≤ ns.sum ∧ ns.sum ≤ 6) ∧ eOk e ns.sum 8) hel hx,hs]
     exact ⟨fun h=>h.2,fun h=>⟨by omega,h⟩⟩
    have hfi : fieldsI p:=⟨hf,by omega⟩
    have hv:=ValidExpr_ok x n0 (by omega)
    by_cases hxo : eOk x n0 8
    ·rw [resV_t hz hfi (hfv.2 hxo),show fromV p ns = n0 by unfold fromV; rw [if_neg (by omega),if_neg (by omega),if_neg (by omega),g0]]
     rw [decide_eq_true ⟨by omega,hxo⟩] at hv
     refine go1 (cj3 @e1 @h0 @hx) ?_
     exact Uc @h0 (hv) (go0 @h0)
    ·rw [resV_f (fun h=>hxo (hfv.1 h.2))]
     rw [decide_eq_false (fun h=>hxo h.2)] at hv
     refine go1 (cj3 @e1 @h0 @hx) ?_
     exact Uc trivial (hv) (go0 trivial)
   ·by_cases h3 : p.k = 3
    ·have hs:=one_sum (by omega) h0
     have hv:=projectWidth_ok p.es n0 (by omega) hec
     have hfv : fitsV p ns ↔ esOk p.es n0:=by
      unfold fitsV esOk
      rw [if_neg (by omega),if_neg (by omega),hs]
      exact ⟨fun h j e hj=>(h j e hj).2,fun h j e hj=>⟨by omega,h j e hj⟩⟩
     have hres : resV p ns = (if p.es.length ≤ 6 ∧ esOk p.es n0 then (p.es.length : Int) else 0):=by
      by_cases hq : p.es.length ≤ 6 ∧ esOk p.es n0
      ·rw [if_pos hq]
       by_cases hpos : 1 ≤ p.es.length
       ·rw [resV_t hz ⟨hf,fun _=>⟨hpos,hq.1⟩⟩ (hfv.2 hq.2)]
        unfold fromV
        rw [if_pos h3]
       ·rw [resV_f (fun h=>hpos (h.1.2 h3).1)]
        omega
      ·rw [if_neg hq,resV_f (fun h=>hq ⟨(h.1.2 h3).2,hfv.1 h.2⟩)]
     rw [hres]
     refine go1 (cj2 @e1 @h0) ?_
     exact Uc trivial (hv) (go0 trivial)
    ·have hfi : fieldsI p:=⟨hf,fun h=>(h3 h).elim⟩
     by_cases h45 : p.k = 4 ∨ p.k = 5
     ·have hel : p.es.length = 1:=by omega
      obtain ⟨x,hx⟩ : ∃ x,p.es[0]? = some x:=⟨_,List.getElem?_eq_getElem (by omega)⟩
      obtain ⟨n1,h1,g1⟩:=get_ex (ns:=ns) (i:=1) (by omega)
      have r1:=hn 1 n1 h1
      have z1:=hJ 1 n1 (by omega) h1
      have hs:=two_sum (by omega) h0 h1
      have hv:=ValidExpr_ok x (n0 + n1) (by omega)
      have hfv : fitsV p ns ↔ n0 + n1 ≤ 6 ∧ eOk x (n0 + n1) 8:=by
       unfold fitsV
       rw [if_neg (by omega),if_neg (by omega),one_all (P:=fun e=>(1 ≤ ns.sum ∧ ns.sum ≤ 6) ∧ eOk e ns.sum 8) hel hx,hs]
       exact ⟨fun h=>⟨by omega,h.2⟩,fun h=>⟨by omega,h.2⟩⟩
      by_cases hle : n0 + n1 ≤ 6
      ·by_cases hxo : eOk x (n0 + n1) 8
       ·rw [resV_t hz hfi (hfv.2 ⟨hle,hxo⟩),show fromV p ns = n0 + n1 by unfold fromV; rw [if_neg h3,if_pos h45,hs]]
        rw [decide_eq_true ⟨by omega,hxo⟩] at hv
        repeat' (first|with_reducible refine acc_none ?_ | (conv in hold _=>simp (disch:=omega) only [go_sem,e1,List.getElem?_map,h0,h1,hx,Option.map_some])|refine Stp.go ?_|(with_reducible first|refine it_pos rfl ?_|refine it_neg (by decide) ?_|refine st_nil rfl ?_|refine s_op ?_ ?_|exact trivial)|((with_reducible first|refine dw_reg0 ?_|refine dw_regB ?_);(conv=>arg 3;whnf))|(refine Spl.go (fun hq he=>?_) (fun hq he=>?_)<;>first|(exfalso;clear hq;omega)|((try first|(conv=>arg 8;simp only [hq])|(conv=>arg 4;simp only [hq]));clear hq))|((with_reducible first|refine c_split (fun hq=>?_) (fun hq=>?_)|refine q_split (fun hq=>?_) (fun hq=>?_))<;>(try first|(conv=>arg 8;simp only [hq])|(conv=>arg 4;simp only [hq])))|(with_reducible refine fin_0 ?_ (by first|rfl|(conv=>lhs;simp only [go_sem,e1,List.getElem?_map,h0,h1,hx,Option.map_some])) ?_)|exact Sub.refl _|omega)
        all_goals
         exact Uc (cj2 @h0 @h1) (hv) (go0 (cj2 @h0 @h1))
       ·rw [resV_f (fun h=>hxo (hfv.1 h.2).2)]
        rw [decide_eq_false (fun h=>hxo h.2)] at hv
        repeat' (first|with_reducible refine acc_none ?_ | (conv in hold _=>simp (disch:=omega) only [go_sem,e1,List.getElem?_map,h0,h1,hx,Option.map_some])|refine Stp.go ?_|(with_reducible first|refine it_pos rfl ?_|refine it_neg (by decide) ?_|refine st_nil rfl ?_|refine s_op ?_ ?_|exact trivial)|((with_reducible first|refine dw_reg0 ?_|refine dw_regB ?_);(conv=>arg 3;whnf))|(refine Spl.go (fun hq he=>?_) (fun hq he=>?_)<;>first|(exfalso;clear hq;omega)|((try first|(conv=>arg 8;simp only [hq])|(conv=>arg 4;simp only [hq]));clear hq))|((with_reducible first|refine c_split (fun hq=>?_) (fun hq=>?_)|refine q_split (fun hq=>?_) (fun hq=>?_))<;>(try first|(conv=>arg 8;simp only [hq])|(conv=>arg 4;simp only [hq])))|(with_reducible refine fin_0 ?_ (by first|rfl|(conv=>lhs;simp only [go_sem,e1,List.getElem?_map,h0,h1,hx,Option.map_some])) ?_)|exact Sub.refl _|omega)
        all_goals
         exact Uc trivial (hv) (go0 trivial)
      ·rw [resV_f (fun h=>hle (hfv.1 h.2).1)]
       exact go0 (cj4 @e1 @h0 @h1 @hx)
     ·by_cases h6 : p.k = 6
      ·obtain ⟨n1,h1,g1⟩:=get_ex (ns:=ns) (i:=1) (by omega)
       have hfv : fitsV p ns ↔ n0 = n1:=by unfold fitsV; rw [if_pos h6,g0,g1]
       by_cases hq : n0 = n1
       ·rw [resV_t hz hfi (hfv.2 hq),show fromV p ns = n0 by unfold fromV; rw [if_neg h3,if_neg h45,if_neg (by omega),g0]]
        exact go0 (cj3 @e1 @h0 @h1)
       ·rw [resV_f (fun h=>hq (hfv.1 h.2))]
        exact go0 (cj3 @e1 @h0 @h1)
      ·by_cases h8 : p.k = 8
       ·have hv:=validCols_ok p.cs n0 (by omega) hc
        have hfv : fitsV p ns ↔ p.cs.length < 6 ∧ colsOk p.cs n0:=by unfold fitsV; rw [if_neg h6,if_pos h8,g0]
        by_cases hco : colsOk p.cs n0
        ·rw [decide_eq_true hco] at hv
         by_cases hq : p.cs.length < 6
         ·rw [resV_t hz hfi (hfv.2 ⟨hq,hco⟩),show fromV p ns = p.cs.length + 1 by unfold fromV; rw [if_neg h3,if_neg h45,if_pos h8]]
          refine go1 (cj2 @e1 @h0) ?_
          exact Uc trivial (hv) (go0 trivial)
         ·rw [resV_f (fun h=>hq (hfv.1 h.2).1)]
          refine go1 (cj2 @e1 @h0) ?_
          exact Uc trivial (hv) (go0 trivial)
        ·rw [decide_eq_false hco] at hv
         rw [resV_f (fun h=>hco (hfv.1 h.2).2)]
         refine go1 (cj2 @e1 @h0) ?_
         exact Uc trivial (hv) (go0 trivial)
       ·have hel : p.es = []:=List.length_eq_zero_iff.1 (by omega)
        have hfv : fitsV p ns:=by
         unfold fitsV
         rw [if_neg h6,if_neg h8,hel]
         exact fun j e hj=>by simp at hj
        rw [resV_t hz hfi hfv,show fromV p ns = n0 by unfold fromV; rw [if_neg h3,if_neg h45,if_neg h8,g0]]
        exact go0 (cj2 @e1 @h0)
end Go.Proofs.YtgpdmgaemhelgaaGreat
set_option maxHeartbeats 4000000
set_option maxRecDepth 100000
namespace Go.Proofs.YtgpdmgaemhelgaaGreat
open Go.RowKit
theorem range8 {a : Int} (h : 0 ≤ a ∧ a ≤ 7) : a = 0 ∨ a = 1 ∨ a = 2 ∨ a = 3 ∨ a = 4 ∨ a = 5 ∨ a = 6 ∨ a = 7:=by omega
theorem min_ok (x y : Int) : Does Tryz.prog 197 [] [I x,I y] (I (min x y)) []:=by
 exact Bg c_Z65 mixed (go0 trivial)
theorem max_ok (x y : Int) : Does Tryz.prog 198 [] [I x,I y] (I (max x y)) []:=by
 exact Bg c_Z66 mixed (go0 trivial)
def notS (a : Int) : Int:=intBit .or .i64 (intBit .or .i64 (intBit .and .i64 a 4) (IntKind.i64.wrap (intBit .and .i64 a 1 * 2 ^ min 1 64))) ((intBit .and .i64 a 2).fdiv (2 ^ min 1 64))
def in7 (n : Int) : Bool:=decide (0 ≤ n ∧ n ≤ 7)
theorem in7_iff {n : Int} (h : in7 n = true) : 0 ≤ n ∧ n ≤ 7:=of_decide_eq_true h
theorem tab_not {a : Int} (h : 0 ≤ a ∧ a ≤ 7) : notS a = neg a ∧ in7 (neg a) = true:=by
 rcases range8 h with rfl | rfl | rfl | rfl | rfl | rfl | rfl | rfl
 all_goals exact ⟨by kernel_rfl,by kernel_rfl⟩
theorem tab_and {a b : Int} (h : 0 ≤ a ∧ a ≤ 7) (h' : 0 ≤ b ∧ b ≤ 7) : tsS 8 a b = tsI min a b ∧ in7 (tsI min a b) = true:=by
 rcases range8 h with rfl | rfl | rfl | rfl | rfl | rfl | rfl | rfl
 all_goals rcases range8 h' with rfl | rfl | rfl | rfl | rfl | rfl | rfl | rfl
 all_goals exact ⟨by kernel_rfl,by kernel_rfl⟩
theorem tab_or {a b : Int} (h : 0 ≤ a ∧ a ≤ 7) (h' : 0 ≤ b ∧ b ≤ 7) : tsS 9 a b = tsI max a b ∧ in7 (tsI max a b) = true:=by
 rcases range8 h with rfl | rfl | rfl | rfl | rfl | rfl | rfl | rfl
 all_goals rcases range8 h' with rfl | rfl | rfl | rfl | rfl | rfl | rfl | rfl
 all_goals exact ⟨by kernel_rfl,by kernel_rfl⟩
def r04 (a b : Int) : Bool:=intBit .and .i64 (intBit .or .i64 a b) 4 == 0 || intBit .and .i64 (intBit .or .i64 a b) 4 == 4
theorem tab_r {a b : Int} (h : 0 ≤ a ∧ a ≤ 7) (h' : 0 ≤ b ∧ b ≤ 7) : intBit .and .i64 (intBit .or .i64 a b) 4 = 0 ∨ intBit .and .i64 (intBit .or .i64 a b) 4 = 4:=by
 have h1 : r04 a b = true:=by
  rcases range8 h with rfl | rfl | rfl | rfl | rfl | rfl | rfl | rfl
  all_goals rcases range8 h' with rfl | rfl | rfl | rfl | rfl | rfl | rfl | rfl
  all_goals kernel_rfl
 unfold r04 at h1
 rw [Bool.or_eq_true,beq_iff_eq,beq_iff_eq] at h1
 exact h1
theorem o02 : intBit .or .i64 0 2 = 2:=by kernel_rfl
theorem o01 : intBit .or .i64 0 1 = 1:=by kernel_rfl
theorem o21 : intBit .or .i64 2 1 = 3:=by kernel_rfl
theorem o03 : intBit .or .i64 0 3 = 3:=by kernel_rfl
theorem o43 : intBit .or .i64 4 3 = 7:=by kernel_rfl
theorem o34 : intBit .or .i64 3 4 = 7:=by kernel_rfl
theorem o74 : intBit .or .i64 7 4 = 7:=by kernel_rfl
theorem a03 : intBit .and .i64 0 3 = 0:=by kernel_rfl
theorem a43 : intBit .and .i64 4 3 = 0:=by kernel_rfl
theorem a33 : intBit .and .i64 3 3 = 3:=by kernel_rfl
theorem a73 : intBit .and .i64 7 3 = 3:=by kernel_rfl
def ntV (a : Int) : Int:=if intBit .and .i64 a 4 = 0 then (if intBit .and .i64 a 3 = 0 then 0 else 1) else if intBit .and .i64 a 3 = 0 then 2 else 3
theorem ntV_range (a : Int) : 0 ≤ ntV a ∧ ntV a ≤ 7:=by
 unfold ntV
 repeat' split
 all_goals decide
theorem null_ok (a : Int) : Does Tryz.prog 195 [] [I a] (I (ntV a)) []:=by
 unfold ntV
 by_cases h4 : intBit .and .i64 a 4 = 0
 ·rw [if_pos h4]
  by_cases h3 : intBit .and .i64 a 3 = 0
  ·rw [if_pos h3]
   exact Bg c_Z27 mixed (go0 (cj3 @o02 @o01 @o21))
  ·rw [if_neg h3]
   exact Bg c_Z27 mixed (go0 (cj3 @o02 @o01 @o21))
 ·rw [if_neg h4]
  by_cases h3 : intBit .and .i64 a 3 = 0
  ·rw [if_pos h3]
   exact Bg c_Z27 mixed (go0 (cj3 @o02 @o01 @o21))
  ·rw [if_neg h3]
   exact Bg c_Z27 mixed (go0 (cj3 @o02 @o01 @o21))
def both (a b : Int) : Prop:=¬ intBit .and .i64 a 3 = 0 ∧ ¬ intBit .and .i64 b 3 = 0
noncomputable instance bothDec (a b : Int) : Decidable (both a b):=Classical.propDecidable _
theorem cmp_no {a b r : Int} (hr : intBit .and .i64 (intBit .or .i64 a b) 4 = r) (h : ¬ both a b) : Does Tryz.prog 199 [] [I a,I b] (I r) []:=by
 unfold both at h
 exact Bg c_Z19 mixed (go0 @hr)
theorem cmp_0 {a b : Int} (hr : intBit .and .i64 (intBit .or .i64 a b) 4 = 0) (h : both a b) : Does Tryz.prog 199 [] [I a,I b] (I 3) []:=by
 unfold both at h
 exact Bg c_Z19 mixed (go0 (cj2 @hr @o03))
theorem cmp_4 {a b : Int} (hr : intBit .and .i64 (intBit .or .i64 a b) 4 = 4) (h : both a b) : Does Tryz.prog 199 [] [I a,I b] (I 7) []:=by
 unfold both at h
 exact Bg c_Z19 mixed (go0 (cj2 @hr @o43))
theorem ari_0 {a b : Int} (h : Does Tryz.prog 199 [] [I a,I b] (I 0) []) : Does Tryz.prog 200 [] [I a,I b] (I 0) []:=by
 refine Bg c_Z18 mixed (go1 trivial ?_)
 exact Uc @a03 (h) (go0 @a03)
theorem ari_4 {a b : Int} (h : Does Tryz.prog 199 [] [I a,I b] (I 4) []) : Does Tryz.prog 200 [] [I a,I b] (I 4) []:=by
 refine Bg c_Z18 mixed (go1 trivial ?_)
 exact Uc @a43 (h) (go0 @a43)
theorem ari_3 {a b : Int} (h : Does Tryz.prog 199 [] [I a,I b] (I 3) []) : Does Tryz.prog 200 [] [I a,I b] (I 7) []:=by
 refine Bg c_Z18 mixed (go1 trivial ?_)
 exact Uc (cj2 @a33 @o34) (h) (go0 (cj2 @a33 @o34))
theorem ari_7 {a b : Int} (h : Does Tryz.prog 199 [] [I a,I b] (I 7) []) : Does Tryz.prog 200 [] [I a,I b] (I 7) []:=by
 refine Bg c_Z18 mixed (go1 trivial ?_)
 exact Uc (cj2 @a73 @o74) (h) (go0 (cj2 @a73 @o74))
end Go.Proofs.YtgpdmgaemhelgaaGreat
set_option maxHeartbeats 4000000
set_option maxRecDepth 100000
namespace Go.Proofs.YtgpdmgaemhelgaaGreat
open Go.RowKit
theorem resV_range (p : Pl) (ns : List Int) (hn : ∀ (j : Nat) (x : Int),ns[j]? = some x → 0 ≤ x ∧ x ≤ 6) : 0 ≤ resV p ns ∧ resV p ns ≤ 6:=by
 by_cases hz : zeroIn ns
 ·rw [resV_z hz]; decide
 ·by_cases hq : fieldsI p ∧ fitsV p ns
  ·rw [resV_t hz hq.1 hq.2]
   have hf:=hq.1
   have hv:=hq.2
   unfold fieldsI fields at hf
   unfold fromV
   by_cases h3 : p.k = 3
   ·rw [if_pos h3]; omega
   ·rw [if_neg h3]
    by_cases h4 : p.k = 4 ∨ p.k = 5
    ·rw [if_pos h4]
     unfold fitsV at hv
     rw [if_neg (by omega),if_neg (by omega)] at hv
     obtain ⟨x,hx⟩ : ∃ x,p.es[0]? = some x:=⟨_,List.getElem?_eq_getElem (by omega)⟩
     have:=(hv 0 x hx).1
     omega
    ·rw [if_neg h4]
     by_cases h8 : p.k = 8
     ·rw [if_pos h8]
      unfold fitsV at hv
      rw [if_neg (by omega),if_pos h8] at hv
      have:=hv.1
      omega
     ·rw [if_neg h8,List.getD_eq_getElem?_getD]
      cases h0 : ns[0]? with
      | none=>decide
      | some x=>exact hn 0 x h0
  ·rw [resV_f hq]; decide
theorem widthWithin_neg (p : Pl) (ws : List Int) : Does Tryz.prog 56 [] [pD p,intsD ws,I (-1)] (I 0) []:=by
 exact Bg c_Z60 mixed (go0 trivial)
theorem widthWithin_no (p : Pl) (ws : List Int) (d : Nat) (hf : ¬ fieldsI p) : Does Tryz.prog 56 [] [pD p,intsD ws,I d] (I 0) []:=by
 have ho:=hasOwnFields_ok p
 rw [decide_eq_false hf] at ho
 refine Bg c_Z60 mixed (go1 trivial ?_)
 exact Uc trivial (ho) (go0 trivial)
theorem planWidth_no (p : Pl) (ws : List Int) (d : Int) (hf : ¬ fields p) : Does Tryz.prog 95 [] [pD p,intsD ws,I d] (I 0) []:=by
 have ho:=onlyFields_ok p
 rw [decide_eq_false hf] at ho
 refine Bg c_Z92 mixed (go1 trivial ?_)
 exact Uc trivial (ho) (go0 trivial)
theorem planWidth_0 (p : Pl) (ws : List Int) (hf : fields p) (hk : 0 < p.ks.length) : Does Tryz.prog 95 [] [pD p,intsD ws,I 0] (I 0) []:=by
 have ho:=onlyFields_ok p
 rw [decide_eq_true hf] at ho
 refine Bg c_Z92 mixed (go1 trivial ?_)
 exact Uc trivial (ho) (go0 trivial)
def scanV (ws : List Int) (t : Int) : Int:=if 0 ≤ t ∧ t ≤ ws.length - 1 then ws.getD t.toNat 0 else 0
theorem scan_range {ws : List Int} (hw : wsOk ws) (t : Int) : 0 ≤ scanV ws t ∧ scanV ws t ≤ 6:=by
 unfold scanV
 split
 ·rw [List.getD_eq_getElem?_getD]
  cases h0 : ws[t.toNat]? with
  | none=>decide
  | some x=>have:=hw.2 _ x h0; exact ⟨by show (0 : Int) ≤ x; omega,by show x ≤ 6; omega⟩
 ·decide
theorem planWidth_scan (p : Pl) (ws : List Int) (hw : wsOk ws) (d : Int) (hf : fields p) (hk : p.k = 1) : Does Tryz.prog 95 [] [pD p,intsD ws,I d] (I (scanV ws p.t)) []:=by
 have ho:=onlyFields_ok p
 rw [decide_eq_true hf] at ho
 have hwl:=hw.1
 have hks : p.ks.length = 0:=by unfold fields at hf; omega
 have hr:=inRange_ok p.t 0 (ws.length - 1)
 refine Bg c_Z92 mixed (go1 trivial ?_)
 refine Uc trivial (ho) (go1 trivial ?_)
 refine dw_for (c:=1) (l:=fun i=>[(1,intsD ws),(3,.ref 1000000 0),(8,I i),(1000000,.obj [I p.k,I p.t,.sl 5 (p.es.map eD),intsD p.cs,.sl 5 (p.ks.map pD)])]) 0 (fun _=>True) 0 trivial (Wk.list [2000003] rfl rfl ?_) (fun i hi _=>?_) (Nat.zero_le _)
 ·repeat' (first|(conv in hold _=>simp (disch:=omega) only [go_sem])|exact trivial|exact Sub.refl _|omega)
  exact rfl
 ·obtain rfl : i = 0:=by omega
  by_cases ht : 0 ≤ p.t ∧ p.t ≤ ws.length - 1
  ·rw [decide_eq_true ht] at hr
   obtain ⟨n,h0,g0⟩:=get_ex (ns:=ws) (i:=p.t.toNat) (by omega)
   rw [show scanV ws p.t = n by unfold scanV; rw [if_pos ht,g0]]
   refine go1 @hks ?_
   exact Uc @h0 (hr) (go0 @h0)
  ·rw [decide_eq_false ht] at hr
   rw [show scanV ws p.t = 0 from if_neg ht]
   refine go1 @hks ?_
   exact Uc trivial (hr) (go0 trivial)
theorem widthWithin_scan (p : Pl) (ws : List Int) (hw : wsOk ws) (d : Nat) (hf : fields p) (hk : p.k = 1) : Does Tryz.prog 56 [] [pD p,intsD ws,I d] (I (scanV ws p.t)) []:=by
 have ho:=hasOwnFields_ok p
 rw [decide_eq_true (show fieldsI p from ⟨hf,by omega⟩)] at ho
 have hwl:=hw.1
 by_cases ht : 0 ≤ p.t ∧ p.t ≤ ws.length - 1
 ·obtain ⟨n,h0,g0⟩:=get_ex (ns:=ws) (i:=p.t.toNat) (by omega)
  rw [show scanV ws p.t = n by unfold scanV; rw [if_pos ht,g0]]
  refine Bg c_Z60 mixed (go1 @h0 ?_)
  exact Uc @h0 (ho) (go0 @h0)
 ·rw [show scanV ws p.t = 0 from if_neg ht]
  refine Bg c_Z60 mixed (go1 trivial ?_)
  exact Uc trivial (ho) (go0 trivial)
end Go.Proofs.YtgpdmgaemhelgaaGreat
