/-
  The width of a plan out of those of its kids, in the model. No condition.
-/
import Derived.Test.YtgpdmgaemhelgaaGreatJSDcVWid
import Derived.Test.YtgpdmgaemhelgaaGreatKSDca
import Derived.Test.YtgpdmgaemhelgaaGreatJSVPb
import Derived.Test.YtgpdmgaemhelgaaGreatJSVYld
import Derived.Test.YtgpdmgaemhelgaaGreatKSDcb
set_option maxHeartbeats 4000000
set_option maxRecDepth 100000
namespace Go.Proofs.YtgpdmgaemhelgaaGreat
open Go.RowKit
theorem one_sum {ns : List Int} {n : Int} (h : ns.length = 1) (h0 : ns[0]? = some n) : ns.sum = n:=by
 match ns,h with
 | [m],_=>cases h0; simp
theorem two_sum {ns : List Int} {n m : Int} (h : ns.length = 2) (h0 : ns[0]? = some n) (h1 : ns[1]? = some m) : ns.sum = n + m:=by
 match ns,h with
 | [a,b],_=>cases h0; cases h1; simp
theorem one_all {α : Type} {l : List α} {x : α} {P : α → Prop} (h : l.length = 1) (h0 : l[0]? = some x) : (∀ (j : Nat) (y : α),l[j]? = some y → P y) ↔ P x:=by
 match l,h with
 | [m],_=>
  cases h0
  refine ⟨fun h=>h 0 _ rfl,fun h j y hj=>?_⟩
  rcases j with _ | j
  ·cases hj; exact h
  ·simp at hj
theorem planWidth_main (p : Pl) (ws : List Int) (d : Nat) (hd : d < 1000) (hd0 : 0 < d) (hf : fields p) (hk : ¬ p.k = 1) (hc : p.cs.length ≤ 1048576) (hec : p.es.length ≤ 1048576) (ns : List Int) (hl : ns.length = p.ks.length) (hn : ∀ (j : Nat) (x : Int),ns[j]? = some x → 0 ≤ x ∧ x ≤ 6)
  (hA : ∀ (i : Nat) (x : Pl) (n : Int),p.ks[i]? = some x → ns[i]? = some n → Does Tryz.prog 95 [] [pD x,intsD ws,I ((d : Int) - 1)] (I n) []) : Does Tryz.prog 95 [] [pD p,intsD ws,I d] (I (resV p ns)) []:=by
 have ho:=onlyFields_ok p
 rw [decide_eq_true hf] at ho
 have hf1:=hf
 unfold fields at hf1
 have hks : 1 ≤ p.ks.length ∧ p.ks.length ≤ 2:=by omega
 refine Bg c_Z104 mixed (go1 trivial ?_)
 refine Uc trivial (ho) (go1 trivial ?_)
 refine dw_for (c:=2) (l:=fun i=>[(1,intsD ws),(2,I d),(3,.ref 1000000 0),(7,.own 1000001 1 i),(8,I i),(1000000,.obj [I p.k,I p.t,.sl 5 (p.es.map eD),intsD p.cs,.sl 5 (p.ks.map pD)]),(1000001,.row 1 ((ns.take i).map I))]) p.ks.length (fun i=>∀ (j : Nat) (n : Int),j < i → ns[j]? = some n → ¬ n = 0) 0 (fun j n hj=>by omega) ((wk_row 7 2000045 1 (by decide) (by decide) rfl rfl).trans (Wk.list [2000003,2000045] rfl rfl ?_)) (fun i hi hJ=>?_) (Nat.zero_le _)
 ·repeat' (first|(conv in hold _=>simp (disch:=omega) only [go_sem])|exact trivial|exact Sub.refl _|omega)
  exact rfl
 ·have hlt:=take_len (vs:=ns) (i:=i) (by omega)
  have hmt:=take_map I (vs:=ns) (i:=i) (by omega)
  by_cases hil : i < p.ks.length
  ·obtain ⟨x,hx⟩ : ∃ x,p.ks[i]? = some x:=⟨_,List.getElem?_eq_getElem hil⟩
   obtain ⟨n,hnx,_⟩:=get_ex (ns:=ns) (i:=i) (by omega)
   have hix:=hA i x n hx hnx
   have htn:=take_next hnx
   by_cases hn0 : n = 0
   ·rw [resV_z ⟨i,by rw [hnx,hn0]⟩]
    refine go1 @hx ?_
    exact Uc trivial (hix) (go0 trivial)
   ·refine go1 @hx ?_
    refine Uc trivial (hix) (go1 trivial ?_)
    refine ⟨hil,upto1 (P:=fun _ n=>¬ n = 0) hnx hn0 hJ,Wk.list [1000000,2000045] rfl rfl ?_⟩
    repeat' (first|(conv in hold _=>simp (disch:=omega) only [go_sem])|exact trivial|exact Sub.refl _|omega)
    rw [hmt,htn,List.map_append,List.map_cons,List.map_nil]
  ·obtain rfl : i = p.ks.length:=by omega
   have hz : ¬ zeroIn ns:=fun ⟨j,hj⟩=>hJ j 0 (by rw [← hl]; exact (List.getElem?_eq_some_iff.1 hj).1) hj rfl
   have e1 : ns.take p.ks.length = ns:=List.take_of_length_le (by omega)
   obtain ⟨n0,h0,g0⟩:=get_ex (ns:=ns) (i:=0) (by omega)
   have r0:=hn 0 n0 h0
   have z0:=hJ 0 n0 (by omega) h0
   by_cases h2 : p.k = 2
   ·have hel : p.es.length = 1:=by omega
    obtain ⟨x,hx⟩ : ∃ x,p.es[0]? = some x:=⟨_,List.getElem?_eq_getElem (by omega)⟩
    have hs:=one_sum (by omega) h0
    have hfv : fitsV p ns ↔ eOk x n0 8:=by
     unfold fitsV
     rw [if_neg (by omega),if_neg (by omega),one_all (P:=fun e=>(1 ≤ ns.sum ∧ ns.sum ≤ 6) ∧ eOk e ns.sum 8) hel hx,hs]
     exact ⟨fun h=>h.2,fun h=>⟨by omega,h⟩⟩
    have hfi : fieldsI p:=⟨hf,by omega⟩
    have hv:=ValidExpr_ok x n0 (by omega)
    by_cases hxo : eOk x n0 8
    ·rw [resV_t hz hfi (hfv.2 hxo),show fromV p ns = n0 by unfold fromV; rw [if_neg (by omega),if_neg (by omega),if_neg (by omega),g0]]
     rw [decide_eq_true ⟨by omega,hxo⟩] at hv
     refine go1 (cj3 @e1 @h0 @hx) ?_
     exact Uc @h0 (hv) (go0 @h0)
    ·rw [resV_f (fun h=>hxo (hfv.1 h.2))]
     rw [decide_eq_false (fun h=>hxo h.2)] at hv
     refine go1 (cj3 @e1 @h0 @hx) ?_
     exact Uc trivial (hv) (go0 trivial)
   ·by_cases h3 : p.k = 3
    ·have hs:=one_sum (by omega) h0
     have hv:=projectWidth_ok p.es n0 (by omega) hec
     have hfv : fitsV p ns ↔ esOk p.es n0:=by
      unfold fitsV esOk
      rw [if_neg (by omega),if_neg (by omega),hs]
      exact ⟨fun h j e hj=>(h j e hj).2,fun h j e hj=>⟨by omega,h j e hj⟩⟩
     have hres : resV p ns = (if p.es.length ≤ 6 ∧ esOk p.es n0 then (p.es.length : Int) else 0):=by
      by_cases hq : p.es.length ≤ 6 ∧ esOk p.es n0
      ·rw [if_pos hq]
       by_cases hpos : 1 ≤ p.es.length
       ·rw [resV_t hz ⟨hf,fun _=>⟨hpos,hq.1⟩⟩ (hfv.2 hq.2)]
        unfold fromV
        rw [if_pos h3]
       ·rw [resV_f (fun h=>hpos (h.1.2 h3).1)]
        omega
      ·rw [if_neg hq,resV_f (fun h=>hq ⟨(h.1.2 h3).2,hfv.1 h.2⟩)]
     rw [hres]
     refine go1 (cj2 @e1 @h0) ?_
     exact Uc trivial (hv) (go0 trivial)
    ·have hfi : fieldsI p:=⟨hf,fun h=>(h3 h).elim⟩
     by_cases h45 : p.k = 4 ∨ p.k = 5
     ·have hel : p.es.length = 1:=by omega
      obtain ⟨x,hx⟩ : ∃ x,p.es[0]? = some x:=⟨_,List.getElem?_eq_getElem (by omega)⟩
      obtain ⟨n1,h1,g1⟩:=get_ex (ns:=ns) (i:=1) (by omega)
      have r1:=hn 1 n1 h1
      have z1:=hJ 1 n1 (by omega) h1
      have hs:=two_sum (by omega) h0 h1
      have hv:=ValidExpr_ok x (n0 + n1) (by omega)
      have hfv : fitsV p ns ↔ n0 + n1 ≤ 6 ∧ eOk x (n0 + n1) 8:=by
       unfold fitsV
       rw [if_neg (by omega),if_neg (by omega),one_all (P:=fun e=>(1 ≤ ns.sum ∧ ns.sum ≤ 6) ∧ eOk e ns.sum 8) hel hx,hs]
       exact ⟨fun h=>⟨by omega,h.2⟩,fun h=>⟨by omega,h.2⟩⟩
      by_cases hle : n0 + n1 ≤ 6
      ·by_cases hxo : eOk x (n0 + n1) 8
       ·rw [resV_t hz hfi (hfv.2 ⟨hle,hxo⟩),show fromV p ns = n0 + n1 by unfold fromV; rw [if_neg h3,if_pos h45,hs]]
        rw [decide_eq_true ⟨by omega,hxo⟩] at hv
        repeat' (first|with_reducible refine acc_none ?_ | (conv in hold _=>simp (disch:=omega) only [go_sem,e1,List.getElem?_map,h0,h1,hx,Option.map_some])|refine Stp.go ?_|(with_reducible first|refine it_pos rfl ?_|refine it_neg (by decide) ?_|refine st_nil rfl ?_|refine s_op ?_ ?_|exact trivial)|((with_reducible first|refine dw_reg0 ?_|refine dw_regB ?_);(conv=>arg 3;whnf))|(refine Spl.go (fun hq he=>?_) (fun hq he=>?_)<;>first|(exfalso;clear hq;omega)|((try first|(conv=>arg 8;simp only [hq])|(conv=>arg 4;simp only [hq]));clear hq))|((with_reducible first|refine c_split (fun hq=>?_) (fun hq=>?_)|refine q_split (fun hq=>?_) (fun hq=>?_))<;>(try first|(conv=>arg 8;simp only [hq])|(conv=>arg 4;simp only [hq])))|(with_reducible refine fin_0 ?_ (by first|rfl|(conv=>lhs;simp only [go_sem,e1,List.getElem?_map,h0,h1,hx,Option.map_some])) ?_)|exact Sub.refl _|omega)
        all_goals
         exact Uc (cj2 @h0 @h1) (hv) (go0 (cj2 @h0 @h1))
       ·rw [resV_f (fun h=>hxo (hfv.1 h.2).2)]
        rw [decide_eq_false (fun h=>hxo h.2)] at hv
        repeat' (first|with_reducible refine acc_none ?_ | (conv in hold _=>simp (disch:=omega) only [go_sem,e1,List.getElem?_map,h0,h1,hx,Option.map_some])|refine Stp.go ?_|(with_reducible first|refine it_pos rfl ?_|refine it_neg (by decide) ?_|refine st_nil rfl ?_|refine s_op ?_ ?_|exact trivial)|((with_reducible first|refine dw_reg0 ?_|refine dw_regB ?_);(conv=>arg 3;whnf))|(refine Spl.go (fun hq he=>?_) (fun hq he=>?_)<;>first|(exfalso;clear hq;omega)|((try first|(conv=>arg 8;simp only [hq])|(conv=>arg 4;simp only [hq]));clear hq))|((with_reducible first|refine c_split (fun hq=>?_) (fun hq=>?_)|refine q_split (fun hq=>?_) (fun hq=>?_))<;>(try first|(conv=>arg 8;simp only [hq])|(conv=>arg 4;simp only [hq])))|(with_reducible refine fin_0 ?_ (by first|rfl|(conv=>lhs;simp only [go_sem,e1,List.getElem?_map,h0,h1,hx,Option.map_some])) ?_)|exact Sub.refl _|omega)
        all_goals
         exact Uc trivial (hv) (go0 trivial)
      ·rw [resV_f (fun h=>hle (hfv.1 h.2).1)]
       exact go0 (cj4 @e1 @h0 @h1 @hx)
     ·by_cases h6 : p.k = 6
      ·obtain ⟨n1,h1,g1⟩:=get_ex (ns:=ns) (i:=1) (by omega)
       have hfv : fitsV p ns ↔ n0 = n1:=by unfold fitsV; rw [if_pos h6,g0,g1]
       by_cases hq : n0 = n1
       ·rw [resV_t hz hfi (hfv.2 hq),show fromV p ns = n0 by unfold fromV; rw [if_neg h3,if_neg h45,if_neg (by omega),g0]]
        exact go0 (cj3 @e1 @h0 @h1)
       ·rw [resV_f (fun h=>hq (hfv.1 h.2))]
        exact go0 (cj3 @e1 @h0 @h1)
      ·by_cases h8 : p.k = 8
       ·have hv:=validCols_ok p.cs n0 (by omega) hc
        have hfv : fitsV p ns ↔ p.cs.length < 6 ∧ colsOk p.cs n0:=by unfold fitsV; rw [if_neg h6,if_pos h8,g0]
        by_cases hco : colsOk p.cs n0
        ·rw [decide_eq_true hco] at hv
         by_cases hq : p.cs.length < 6
         ·rw [resV_t hz hfi (hfv.2 ⟨hq,hco⟩),show fromV p ns = p.cs.length + 1 by unfold fromV; rw [if_neg h3,if_neg h45,if_pos h8]]
          refine go1 (cj2 @e1 @h0) ?_
          exact Uc trivial (hv) (go0 trivial)
         ·rw [resV_f (fun h=>hq (hfv.1 h.2).1)]
          refine go1 (cj2 @e1 @h0) ?_
          exact Uc trivial (hv) (go0 trivial)
        ·rw [decide_eq_false hco] at hv
         rw [resV_f (fun h=>hco (hfv.1 h.2).2)]
         refine go1 (cj2 @e1 @h0) ?_
         exact Uc trivial (hv) (go0 trivial)
       ·have hel : p.es = []:=List.length_eq_zero_iff.1 (by omega)
        have hfv : fitsV p ns:=by
         unfold fitsV
         rw [if_neg h6,if_neg h8,hel]
         exact fun j e hj=>by simp at hj
        rw [resV_t hz hfi hfv,show fromV p ns = n0 by unfold fromV; rw [if_neg h3,if_neg h45,if_neg h8,g0]]
        exact go0 (cj2 @e1 @h0)
end Go.Proofs.YtgpdmgaemhelgaaGreat
set_option maxHeartbeats 4000000
set_option maxRecDepth 100000
namespace Go.Proofs.YtgpdmgaemhelgaaGreat
open Go.RowKit
def tsJ (g : Int → Int → Int) (x : Int) (r y : Int) : Int:=intBit .or .i64 r (sT (g x y))
def tsK (g : Int → Int → Int) (b : Int) (r x : Int) : Int:=(tl b).foldl (tsJ g x) r
def tsI (g : Int → Int → Int) (a b : Int) : Int:=(tl a).foldl (tsK g b) 0
theorem truthStates_impl (a b : Int) {f : FuncId} (hf : enters Tryz.prog f = true) (g : Int → Int → Int) (hg : ∀ x y,(0 ≤ x ∧ x ≤ 2) → (0 ≤ y ∧ y ≤ 2) → Does Tryz.prog f [] [I x,I y] (I (g x y)) []) : Does Tryz.prog 196 [] [I a,I b,.fn f []] (I (tsI g a b)) []:=by
 have h1:=truthsOf_ok a
 have h2:=truthsOf_ok b
 have hl1:=tl_len a
 have hl2:=tl_len b
 refine Bg c_Z59 mixed (go1 trivial ?_)
 refine Uc trivial (h1) (go1 trivial ?_)
 refine dw_for (c:=0) (l:=fun i=>[(1,I b),(2,.fn f []),(7,I (((tl a).take i).foldl (tsK g b) 0)),(13,.sl 1 ((tl a).map I)),(14,I (tl a).length),(15,I i)]) (tl a).length (fun _=>True) 0 trivial (Wk.list [] rfl rfl ?_) (fun i hi _=>?_) (Nat.zero_le _)
 ·repeat' (first|(conv in hold _=>simp (disch:=omega) only [go_sem])|exact trivial|exact Sub.refl _|omega)
  exact ⟨rfl,rfl⟩
 ·rcases at_or_end hi with ⟨x,hx,hlt⟩ | rfl
  ·have hnx:=foldl_next (f:=tsK g b) (z:=(0 : Int)) hx
   refine go1 @hx ?_
   refine Uc trivial (h2) (go1 trivial ?_)
   refine dw_for (c:=0) (l:=fun j=>[(1,I b),(2,.fn f []),(7,I (((tl b).take j).foldl (tsJ g x) (((tl a).take i).foldl (tsK g b) 0))),(9,I x),(13,.sl 1 ((tl a).map I)),(14,I (tl a).length),(15,I i),(20,.sl 1 ((tl b).map I)),(21,I (tl b).length),(22,I j)]) (tl b).length (fun _=>True) 0 trivial (Wk.list [] rfl rfl ?_) (fun j hj _=>?_) (Nat.zero_le _)
   ·repeat' (first|(conv in hold _=>simp (disch:=omega) only [go_sem])|exact trivial|exact Sub.refl _|omega)
    exact ⟨rfl,rfl⟩
   ·rcases at_or_end hj with ⟨y,hy,hltj⟩ | rfl
    ·have hny:=foldl_next (f:=tsJ g x) (z:=((tl a).take i).foldl (tsK g b) 0) hy
     have hgx:=hg x y (tl_mem (List.mem_of_getElem? hx)) (tl_mem (List.mem_of_getElem? hy))
     have hv:=truth_value_ok (g x y)
     have hs:=stateOf_impl (itv (g x y))
     refine go1 @hy ?_
     refine v_fn (hf) ?_
     refine Uc trivial (hgx) (go1 trivial ?_)
     refine Uc trivial (hv) (go1 trivial ?_)
     refine Uc trivial (hs) (go1 trivial ?_)
     refine ⟨hltj,trivial,Wk.list [] rfl rfl ?_⟩
     repeat' (first|(conv in hold _=>simp (disch:=omega) only [go_sem,hny])|exact trivial|exact Sub.refl _|omega)
     rfl
    ·have e1 : (tl b).take (tl b).length = tl b:=List.take_length
     refine go1 @e1 ?_
     refine ⟨hlt,trivial,Wk.list [] rfl rfl ?_⟩
     repeat' (first|(conv in hold _=>simp (disch:=omega) only [go_sem,hnx])|exact trivial|exact Sub.refl _|omega)
     rfl
  ·have e1 : (tl a).take (tl a).length = tl a:=List.take_length
   exact go0 @e1
def pw : Nat → Int
 | 0=>1
 | n + 1=>2 * pw n
def stepS (k a b x y r : Int) : Int:=if (a.tdiv x).tmod 2 = 1 ∧ (b.tdiv y).tmod 2 = 1 then intBit .or .i64 r (stV (comb k (valS x) (valS y))) else r
def inn (k a b x r : Int) : Nat → Int
 | 0=>r
 | j + 1=>stepS k a b x (pw j) (inn k a b x r j)
def outS (k a b : Int) : Nat → Int
 | 0=>0
 | i + 1=>inn k a b (pw i) (outS k a b i) 3
def tsS (k a b : Int) : Int:=outS k a b 3
theorem pw_at {i : Nat} (h : i < 3) : pw i = 1 ∨ pw i = 2 ∨ pw i = 4:=by
 match i,h with
 | 0,_=>exact Or.inl rfl
 | 1,_=>exact Or.inr (Or.inl rfl)
 | 2,_=>exact Or.inr (Or.inr rfl)
theorem pw_next (i : Nat) : pw (i + 1) = 2 * pw i:=rfl
theorem valS_ok (x : Int) : (valS x).ok:=by
 unfold valS
 split
 ·exact ⟨by decide,by decide,fun _=>rfl⟩
 ·split
  ·exact ⟨by decide,by decide,fun h=>by cases h⟩
  ·exact ⟨by decide,by decide,fun h=>by cases h⟩
theorem div_range {a x : Int} (ha : 0 ≤ a ∧ a ≤ 7) (hx : x = 1 ∨ x = 2 ∨ x = 4) : 0 ≤ a.tdiv x ∧ a.tdiv x ≤ 7:=by
 rw [Int.tdiv_eq_ediv_of_nonneg ha.1]
 rcases hx with rfl | rfl | rfl <;> omega
theorem truthStates_spec (k a b : Int) (ha : 0 ≤ a ∧ a ≤ 7) (hb : 0 ≤ b ∧ b ≤ 7) : Does Tryz.prog 203 [] [I k,I a,I b] (I (tsS k a b)) []:=by
 refine Bg c_Z68 mixed (go1 trivial ?_)
 refine dw_for (c:=0) (l:=fun i=>[(0,I k),(1,I a),(2,I b),(7,I (outS k a b i)),(8,I (pw i))]) 3 (fun _=>True) 0 trivial (Wk.list [] rfl rfl ?_) (fun i hi _=>?_) (Nat.zero_le _)
 ·repeat' (first|(conv in hold _=>simp (disch:=omega) only [go_sem])|exact trivial|exact Sub.refl _|omega)
  exact ⟨rfl,rfl⟩
 ·by_cases hil : i < 3
  ·have hp:=pw_at hil
   have hda:=div_range ha hp
   refine go1 trivial ?_
   refine dw_for (c:=0) (l:=fun j=>[(0,I k),(1,I a),(2,I b),(7,I (inn k a b (pw i) (outS k a b i) j)),(8,I (pw i)),(9,I (pw j))]) 3 (fun _=>True) 0 trivial (Wk.list [] rfl rfl ?_) (fun j hj _=>?_) (Nat.zero_le _)
   ·repeat' (first|(conv in hold _=>simp (disch:=omega) only [go_sem])|exact trivial|exact Sub.refl _|omega)
    exact ⟨rfl,rfl⟩
   ·by_cases hjl : j < 3
    ·have hq:=pw_at hjl
     have hdb:=div_range hb hq
     have h1:=valueOf_ok (pw i)
     have h2:=valueOf_ok (pw j)
     have h3:=combine_ok k _ _ (valS_ok (pw i)) (valS_ok (pw j))
     have h4:=stateOf_spec (comb k (valS (pw i)) (valS (pw j)))
     by_cases hc : (a.tdiv (pw i)).tmod 2 = 1 ∧ (b.tdiv (pw j)).tmod 2 = 1
     ·have hst : inn k a b (pw i) (outS k a b i) (j + 1) = intBit .or .i64 (inn k a b (pw i) (outS k a b i) j) (stV (comb k (valS (pw i)) (valS (pw j)))):=if_pos hc
      refine go1 trivial ?_
      refine Uc trivial (h1) (go1 trivial ?_)
      refine Uc trivial (h2) (go1 trivial ?_)
      refine Uc trivial (h3) (go1 trivial ?_)
      refine Uc trivial (h4) (go1 trivial ?_)
      refine ⟨hjl,trivial,Wk.list [] rfl rfl ?_⟩
      exact Ag (cj2 @hst @pw_next)
     ·have hst : inn k a b (pw i) (outS k a b i) (j + 1) = inn k a b (pw i) (outS k a b i) j:=if_neg hc
      repeat' (first|with_reducible refine acc_none ?_ | (conv in hold _=>simp (disch:=omega) only [go_sem])|refine Stp.go ?_|(with_reducible first|refine it_pos rfl ?_|refine it_neg (by decide) ?_|refine st_nil rfl ?_|refine s_op ?_ ?_|exact trivial)|((with_reducible first|refine dw_reg0 ?_|refine dw_regB ?_);(conv=>arg 3;whnf))|(refine Spl.go (fun hq he=>?_) (fun hq he=>?_)<;>first|(exfalso;clear hq;omega)|((try first|(conv=>arg 8;simp only [hq])|(conv=>arg 4;simp only [hq]));clear hq))|((with_reducible first|refine c_split (fun hq=>?_) (fun hq=>?_)|refine q_split (fun hq=>?_) (fun hq=>?_))<;>(try first|(conv=>arg 8;simp only [hq])|(conv=>arg 4;simp only [hq])))|(with_reducible refine fin_0 ?_ (by first|rfl|(conv=>lhs;simp only [go_sem])) ?_)|exact Sub.refl _|omega)
      all_goals refine ⟨hjl,trivial,Wk.list [] rfl rfl ?_⟩
      all_goals
       exact Ag (cj2 @hst @pw_next)
    ·obtain rfl : j = 3:=by omega
     have h8 : pw 3 = 8:=rfl
     refine go1 @h8 ?_
     refine ⟨hil,trivial,Wk.list [] rfl rfl ?_⟩
     repeat' (first|(conv in hold _=>simp (disch:=omega) only [go_sem,pw_next])|exact trivial|exact Sub.refl _|omega)
     rfl
  ·obtain rfl : i = 3:=by omega
   have h8 : pw 3 = 8:=rfl
   exact go0 @h8
end Go.Proofs.YtgpdmgaemhelgaaGreat
