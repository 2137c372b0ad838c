/-
  The states of an expression, in both packages. No condition.
-/
import Derived.Test.YtgpdmgaemhelgaaGreatKSDca
import Derived.Test.YtgpdmgaemhelgaaGreatKSDcb
import Derived.Test.YtgpdmgaemhelgaaGreatJSVWidE
import Derived.Test.YtgpdmgaemhelgaaGreatJSVGo
set_option maxHeartbeats 4000000
set_option maxRecDepth 100000
set_option linter.unusedVariables false
set_option linter.unusedSimpArgs false
namespace Go.Proofs.YtgpdmgaemhelgaaGreat
open Go.RowKit
theorem stV_range (v : V) : 0 ≤ stV v ∧ stV v ≤ 7:=by
 unfold stV
 repeat' split
 all_goals decide
def anyN (a : Int) : Bool:=intBit .and .i64 a 3 != 0
def hasN (a b : Int) : Bool:=intBit .and .i64 (intBit .or .i64 a b) 4 != 0
def bnS (k a b : Int) : Int:=
 if k = 8 then tsI min a b else if k = 9 then tsI max a b else
 if anyN a && anyN b then (if 6 ≤ k then (if hasN a b then 7 else 3) else 7) else (if hasN a b then 4 else 0)
mutual
def oc : E → List Int → Int
 | .mk k c v ks,ss=>if k = 1 then ss.getD c.toNat 0 else if k = 2 then stV v else
  match ocL ks ss with
  | []=>0
  | a :: l=>if k = 10 then neg a else if k = 11 then ntV a else bnS k a (l.headD 0)
def ocL : List E → List Int → List Int
 | [],_=>[]
 | e :: l,ss=>oc e ss :: ocL l ss
end
theorem ocL_map : ∀ (l : List E) (ss : List Int),ocL l ss = l.map (fun e=>oc e ss)
 | [],_=>by rw [ocL]; rfl
 | e :: l,ss=>by rw [ocL,ocL_map l]; rfl
theorem oc_col {e : E} {ss : List Int} {s : Int} (h : e.k = 1) (hs : ss[e.c.toNat]? = some s) : oc e ss = s:=by
 cases e with
 | mk k c u ks=>
  have h : k = 1:=h
  rw [oc,if_pos h,List.getD_eq_getElem?_getD,show ss[c.toNat]? = some s from hs]
  rfl
theorem oc_const {e : E} {ss : List Int} (h : e.k = 2) : oc e ss = stV e.v:=by
 cases e with
 | mk k c u ks=>
  have h : k = 2:=h
  rw [oc,if_neg (by omega),if_pos h]
  rfl
theorem oc_not {e a : E} {ss : List Int} (h : e.k = 10) (hk : e.ks = [a]) : oc e ss = neg (oc a ss):=by
 cases e with
 | mk k c u ks=>
  have h : k = 10:=h
  have hk : ks = [a]:=hk
  subst hk
  rw [oc,if_neg (by omega),if_neg (by omega),ocL_map]
  exact if_pos h
theorem oc_null {e a : E} {ss : List Int} (h : e.k = 11) (hk : e.ks = [a]) : oc e ss = ntV (oc a ss):=by
 cases e with
 | mk k c u ks=>
  have hk' : k = 11:=h
  have hk : ks = [a]:=hk
  subst hk
  rw [oc,if_neg (by omega),if_neg (by omega),ocL_map]
  show (if k = 10 then _ else if k = 11 then _ else _) = _
  rw [if_neg (by omega),if_pos hk']
theorem oc_two {e a b : E} {ss : List Int} (h1 : ¬ e.k = 1) (h2 : ¬ e.k = 2) (h10 : ¬ e.k = 10) (h11 : ¬ e.k = 11) (hk : e.ks = [a,b]) : oc e ss = bnS e.k (oc a ss) (oc b ss):=by
 cases e with
 | mk k c u ks=>
  have hk : ks = [a,b]:=hk
  subst hk
  have h1 : ¬ k = 1:=h1
  have h2 : ¬ k = 2:=h2
  have h10 : ¬ k = 10:=h10
  have h11 : ¬ k = 11:=h11
  rw [oc,if_neg h1,if_neg h2,ocL_map]
  show (if k = 10 then _ else if k = 11 then _ else _) = _
  rw [if_neg h10,if_neg h11]
  rfl
theorem hasN_0 {a b : Int} (h : intBit .and .i64 (intBit .or .i64 a b) 4 = 0) : hasN a b = false:=by unfold hasN; rw [h]; rfl
theorem hasN_4 {a b : Int} (h : intBit .and .i64 (intBit .or .i64 a b) 4 = 4) : hasN a b = true:=by unfold hasN; rw [h]; rfl
theorem any_both {a b : Int} (h : both a b) : (anyN a && anyN b) = true:=by unfold anyN; rw [Bool.and_eq_true,bne_iff_ne,bne_iff_ne]; exact h
theorem any_not {a b : Int} (h : ¬ both a b) : (anyN a && anyN b) = false:=by
 rw [Bool.eq_false_iff]
 unfold anyN
 rw [ne_eq,Bool.and_eq_true,bne_iff_ne,bne_iff_ne]
 exact h
theorem bnS_8 {k a b : Int} (h : k = 8) : bnS k a b = tsI min a b:=if_pos h
theorem bnS_9 {k a b : Int} (h : k = 9) : bnS k a b = tsI max a b:=by unfold bnS; rw [if_neg (by omega),if_pos h]
theorem bnS_b0 {k a b : Int} (h8 : ¬ k = 8) (h9 : ¬ k = 9) (hb : both a b) (h6 : 6 ≤ k) (hr : intBit .and .i64 (intBit .or .i64 a b) 4 = 0) : bnS k a b = 3:=by
 unfold bnS
 rw [if_neg h8,if_neg h9,any_both hb,if_pos rfl,if_pos h6,hasN_0 hr]
 rfl
theorem bnS_b4 {k a b : Int} (h8 : ¬ k = 8) (h9 : ¬ k = 9) (hb : both a b) (h6 : 6 ≤ k) (hr : intBit .and .i64 (intBit .or .i64 a b) 4 = 4) : bnS k a b = 7:=by
 unfold bnS
 rw [if_neg h8,if_neg h9,any_both hb,if_pos rfl,if_pos h6,hasN_4 hr]
 rfl
theorem bnS_ba {k a b : Int} (h8 : ¬ k = 8) (h9 : ¬ k = 9) (hb : both a b) (h6 : ¬ 6 ≤ k) : bnS k a b = 7:=by
 unfold bnS
 rw [if_neg h8,if_neg h9,any_both hb,if_pos rfl,if_neg h6]
theorem bnS_n0 {k a b : Int} (h8 : ¬ k = 8) (h9 : ¬ k = 9) (hb : ¬ both a b) (hr : intBit .and .i64 (intBit .or .i64 a b) 4 = 0) : bnS k a b = 0:=by
 unfold bnS
 rw [if_neg h8,if_neg h9,any_not hb,if_neg (by decide),hasN_0 hr]
 rfl
theorem bnS_n4 {k a b : Int} (h8 : ¬ k = 8) (h9 : ¬ k = 9) (hb : ¬ both a b) (hr : intBit .and .i64 (intBit .or .i64 a b) 4 = 4) : bnS k a b = 4:=by
 unfold bnS
 rw [if_neg h8,if_neg h9,any_not hb,if_neg (by decide),hasN_4 hr]
 rfl
theorem oc_ok {ss : List Int} (hs : ∀ (j : Nat) (s : Int),ss[j]? = some s → 1 ≤ s ∧ s ≤ 7) (hf1 : enters Tryz.prog 197 = true) (hf2 : enters Tryz.prog 198 = true) : ∀ (e : E) (d : Nat),eOk e ss.length d → (0 ≤ oc e ss ∧ oc e ss ≤ 7) ∧ Does Tryz.prog 187 [] [eD e,intsD ss] (I (oc e ss)) [] ∧ Does Tryz.prog 184 [] [eD e,intsD ss] (I (oc e ss)) []:=by
 refine E.ind (fun e ih d he=>?_)
 rcases eOk_kids he with ⟨h1,_⟩ | ⟨h1,a,hks,hao⟩ | ⟨h1,a,b,hks,hao,hbo⟩
 ·rcases h1 with h1 | h1
  ·have hlo:=((eOk_iff e _ d).1 he).2.2.2
   unfold leafOk at hlo
   rw [if_pos h1] at hlo
   have e0 : ss[e.c.toNat]? = some _:=List.getElem?_eq_getElem (show e.c.toNat < ss.length by omega)
   generalize ss[e.c.toNat]'(by omega) = s at e0
   have:=hs _ s e0
   rw [oc_col h1 e0]
   refine ⟨by omega,?_,?_⟩
   ·exact Bg c_Z114 mixed (go0 @e0)
   ·exact Bg c_Z102 mixed (go0 @e0)
  ·rw [oc_const h1]
   refine ⟨stV_range e.v,?_,?_⟩
   ·refine Bg c_Z114 mixed (go1 trivial ?_)
    exact Uc trivial (stateOf_spec e.v) (go0 trivial)
   ·refine Bg c_Z102 mixed (go1 trivial ?_)
    exact Uc trivial (stateOf_impl e.v) (go0 trivial)
 ·obtain ⟨hn,hA,hB⟩:=ih a (by rw [hks]; exact List.mem_cons_self ..) (d - 1) hao
  generalize hgn : oc a ss = n at hn hA hB
  rcases h1 with h1 | h1
  ·have ht:=tab_not hn
   have hneg:=negatedStates_ok n
   rw [oc_not h1 hks,hgn]
   refine ⟨in7_iff ht.2,?_,?_⟩
   ·refine Bg c_Z114 mixed (go1 @hks ?_)
    refine Uc trivial (hA) (go1 trivial ?_)
    exact Sub.of_eq (congrArg (fun n=>D.v (Value.int .i64 n)) ht.1)
   ·refine Bg c_Z102 mixed (go1 @hks ?_)
    refine Uc trivial (hB) (go1 trivial ?_)
    exact Uc trivial (hneg) (go0 trivial)
  ·have hnt:=null_ok n
   rw [oc_null h1 hks,hgn]
   refine ⟨ntV_range n,?_,?_⟩
   ·unfold ntV
    by_cases h4 : intBit .and .i64 n 4 = 0
    ·rw [if_pos h4]
     by_cases h3 : intBit .and .i64 n 3 = 0
     ·rw [if_pos h3]
      refine Bg c_Z114 mixed (go1 @hks ?_)
      exact Uc (cj3 @o02 @o01 @o21) (hA) (go0 (cj3 @o02 @o01 @o21))
     ·rw [if_neg h3]
      refine Bg c_Z114 mixed (go1 @hks ?_)
      exact Uc (cj3 @o02 @o01 @o21) (hA) (go0 (cj3 @o02 @o01 @o21))
    ·rw [if_neg h4]
     by_cases h3 : intBit .and .i64 n 3 = 0
     ·rw [if_pos h3]
      refine Bg c_Z114 mixed (go1 @hks ?_)
      exact Uc (cj3 @o02 @o01 @o21) (hA) (go0 (cj3 @o02 @o01 @o21))
     ·rw [if_neg h3]
      refine Bg c_Z114 mixed (go1 @hks ?_)
      exact Uc (cj3 @o02 @o01 @o21) (hA) (go0 (cj3 @o02 @o01 @o21))
   ·refine Bg c_Z102 mixed (go1 @hks ?_)
    refine Uc trivial (hB) (go1 trivial ?_)
    exact Uc trivial (hnt) (go0 trivial)
 ·obtain ⟨hn,hA,hB⟩:=ih a (by rw [hks]; exact List.mem_cons_self ..) (d - 1) hao
  obtain ⟨hm,hC,hD⟩:=ih b (by rw [hks]; exact List.mem_cons_of_mem _ (List.mem_cons_self ..)) (d - 1) hbo
  rw [oc_two (by omega) (by omega) (by omega) (by omega) hks]
  generalize oc a ss = n at hn hA hB ⊢
  generalize oc b ss = m at hm hC hD ⊢
  by_cases h8 : e.k = 8
  ·have ht:=tab_and hn hm
   have hts:=truthStates_spec 8 n m hn hm
   rw [ht.1] at hts
   have hti:=truthStates_impl n m hf1 min (fun x y _ _=>min_ok x y)
   rw [bnS_8 h8]
   refine ⟨in7_iff ht.2,?_,?_⟩
   ·refine Bg c_Z114 mixed (go1 (cj2 @hks @h8) ?_)
    refine Uc (cj2 @hks @h8) (hA) (go1 (cj2 @hks @h8) ?_)
    refine Uc @h8 (hC) (go1 @h8 ?_)
    exact Uc trivial (hts) (go0 trivial)
   ·refine Bg c_Z102 mixed (go1 @hks ?_)
    refine Uc @hks (hB) (go1 @hks ?_)
    refine Uc trivial (hD) (go1 trivial ?_)
    exact Uc trivial (hti) (go0 trivial)
  ·by_cases h9 : e.k = 9
   ·have ht:=tab_or hn hm
    have hts:=truthStates_spec 9 n m hn hm
    rw [ht.1] at hts
    have hti:=truthStates_impl n m hf2 max (fun x y _ _=>max_ok x y)
    rw [bnS_9 h9]
    refine ⟨in7_iff ht.2,?_,?_⟩
    ·refine Bg c_Z114 mixed (go1 (cj2 @hks @h9) ?_)
     refine Uc (cj2 @hks @h9) (hA) (go1 (cj2 @hks @h9) ?_)
     refine Uc @h9 (hC) (go1 @h9 ?_)
     exact Uc trivial (hts) (go0 trivial)
    ·refine Bg c_Z102 mixed (go1 @hks ?_)
     refine Uc @hks (hB) (go1 @hks ?_)
     refine Uc trivial (hD) (go1 trivial ?_)
     exact Uc trivial (hti) (go0 trivial)
   ·by_cases hbo : both n m
    ·have hbo':=hbo
     unfold both at hbo'
     by_cases h67 : 6 ≤ e.k
     ·rcases tab_r hn hm with hr | hr
      ·have hc:=cmp_0 hr hbo
       rw [bnS_b0 h8 h9 hbo h67 hr]
       refine ⟨by decide,?_,?_⟩
       ·refine Bg c_Z114 mixed (go1 @hks ?_)
        refine Uc @hks (hA) (go1 @hks ?_)
        exact Uc (cj2 @hr @o03) (hC) (go0 (cj2 @hr @o03))
       ·refine Bg c_Z102 mixed (go1 @hks ?_)
        refine Uc @hks (hB) (go1 @hks ?_)
        refine c_doesE (hD) ?_ ?_ ?_
        ·((try (conv=>rhs;simp (disch:=omega) only [go_sem])); try rfl)
        ·first|rfl|(conv=>lhs;simp only [go_sem])
        repeat' (first|with_reducible refine acc_none ?_ | (conv in hold _=>simp (disch:=omega) only [go_sem])|refine Stp.go ?_|(with_reducible first|refine it_pos rfl ?_|refine it_neg (by decide) ?_|refine st_nil rfl ?_|refine s_op ?_ ?_|exact trivial)|((with_reducible first|refine dw_reg0 ?_|refine dw_regB ?_);(conv=>arg 3;whnf))|(refine Spl.go (fun hq he=>?_) (fun hq he=>?_)<;>first|(exfalso;clear hq;omega)|((try first|(conv=>arg 8;simp only [hq])|(conv=>arg 4;simp only [hq]));clear hq))|((with_reducible first|refine c_split (fun hq=>?_) (fun hq=>?_)|refine q_split (fun hq=>?_) (fun hq=>?_))<;>(try first|(conv=>arg 8;simp only [hq])|(conv=>arg 4;simp only [hq])))|(with_reducible refine fin_0 ?_ (by first|rfl|(conv=>lhs;simp only [go_sem])) ?_)|exact Sub.refl _|omega)
        all_goals
         exact Uc trivial (hc) (go0 trivial)
      ·have hc:=cmp_4 hr hbo
       rw [bnS_b4 h8 h9 hbo h67 hr]
       refine ⟨by decide,?_,?_⟩
       ·refine Bg c_Z114 mixed (go1 @hks ?_)
        refine Uc @hks (hA) (go1 @hks ?_)
        exact Uc (cj2 @hr @o43) (hC) (go0 (cj2 @hr @o43))
       ·refine Bg c_Z102 mixed (go1 @hks ?_)
        refine Uc @hks (hB) (go1 @hks ?_)
        refine c_doesE (hD) ?_ ?_ ?_
        ·((try (conv=>rhs;simp (disch:=omega) only [go_sem])); try rfl)
        ·first|rfl|(conv=>lhs;simp only [go_sem])
        repeat' (first|with_reducible refine acc_none ?_ | (conv in hold _=>simp (disch:=omega) only [go_sem])|refine Stp.go ?_|(with_reducible first|refine it_pos rfl ?_|refine it_neg (by decide) ?_|refine st_nil rfl ?_|refine s_op ?_ ?_|exact trivial)|((with_reducible first|refine dw_reg0 ?_|refine dw_regB ?_);(conv=>arg 3;whnf))|(refine Spl.go (fun hq he=>?_) (fun hq he=>?_)<;>first|(exfalso;clear hq;omega)|((try first|(conv=>arg 8;simp only [hq])|(conv=>arg 4;simp only [hq]));clear hq))|((with_reducible first|refine c_split (fun hq=>?_) (fun hq=>?_)|refine q_split (fun hq=>?_) (fun hq=>?_))<;>(try first|(conv=>arg 8;simp only [hq])|(conv=>arg 4;simp only [hq])))|(with_reducible refine fin_0 ?_ (by first|rfl|(conv=>lhs;simp only [go_sem])) ?_)|exact Sub.refl _|omega)
        all_goals
         exact Uc trivial (hc) (go0 trivial)
     ·rw [bnS_ba h8 h9 hbo h67]
      refine ⟨by decide,?_,?_⟩
      ·rcases tab_r hn hm with hr | hr
       ·refine Bg c_Z114 mixed (go1 @hks ?_)
        refine Uc @hks (hA) (go1 @hks ?_)
        exact Uc (cj3 @hr @o03 @o34) (hC) (go0 (cj3 @hr @o03 @o34))
       ·refine Bg c_Z114 mixed (go1 @hks ?_)
        refine Uc @hks (hA) (go1 @hks ?_)
        exact Uc (cj3 @hr @o43 @o74) (hC) (go0 (cj3 @hr @o43 @o74))
      ·have hc : Does Tryz.prog 200 [] [I n,I m] (I 7) []:=by
        rcases tab_r hn hm with hr | hr
        ·exact ari_3 (cmp_0 hr hbo)
        ·exact ari_7 (cmp_4 hr hbo)
       refine Bg c_Z102 mixed (go1 @hks ?_)
       refine Uc @hks (hB) (go1 @hks ?_)
       refine Uc trivial (hD) (go1 trivial ?_)
       exact Uc trivial (hc) (go0 trivial)
    ·have hbo':=hbo
     unfold both at hbo'
     rcases tab_r hn hm with hr | hr
     ·have hc:=cmp_no hr hbo
      have ha:=ari_0 hc
      rw [bnS_n0 h8 h9 hbo hr]
      refine ⟨by decide,?_,?_⟩
      ·refine Bg c_Z114 mixed (go1 @hks ?_)
       refine Uc @hks (hA) (go1 @hks ?_)
       exact Uc @hr (hC) (go0 @hr)
      ·by_cases h67 : 6 ≤ e.k
       ·refine Bg c_Z102 mixed (go1 @hks ?_)
        refine Uc @hks (hB) (go1 @hks ?_)
        refine c_doesE (hD) ?_ ?_ ?_
        ·((try (conv=>rhs;simp (disch:=omega) only [go_sem])); try rfl)
        ·first|rfl|(conv=>lhs;simp only [go_sem])
        repeat' (first|with_reducible refine acc_none ?_ | (conv in hold _=>simp (disch:=omega) only [go_sem])|refine Stp.go ?_|(with_reducible first|refine it_pos rfl ?_|refine it_neg (by decide) ?_|refine st_nil rfl ?_|refine s_op ?_ ?_|exact trivial)|((with_reducible first|refine dw_reg0 ?_|refine dw_regB ?_);(conv=>arg 3;whnf))|(refine Spl.go (fun hq he=>?_) (fun hq he=>?_)<;>first|(exfalso;clear hq;omega)|((try first|(conv=>arg 8;simp only [hq])|(conv=>arg 4;simp only [hq]));clear hq))|((with_reducible first|refine c_split (fun hq=>?_) (fun hq=>?_)|refine q_split (fun hq=>?_) (fun hq=>?_))<;>(try first|(conv=>arg 8;simp only [hq])|(conv=>arg 4;simp only [hq])))|(with_reducible refine fin_0 ?_ (by first|rfl|(conv=>lhs;simp only [go_sem])) ?_)|exact Sub.refl _|omega)
        all_goals
         exact Uc trivial (hc) (go0 trivial)
       ·refine Bg c_Z102 mixed (go1 @hks ?_)
        refine Uc @hks (hB) (go1 @hks ?_)
        refine Uc trivial (hD) (go1 trivial ?_)
        exact Uc trivial (ha) (go0 trivial)
     ·have hc:=cmp_no hr hbo
      have ha:=ari_4 hc
      rw [bnS_n4 h8 h9 hbo hr]
      refine ⟨by decide,?_,?_⟩
      ·refine Bg c_Z114 mixed (go1 @hks ?_)
       refine Uc @hks (hA) (go1 @hks ?_)
       exact Uc @hr (hC) (go0 @hr)
      ·by_cases h67 : 6 ≤ e.k
       ·refine Bg c_Z102 mixed (go1 @hks ?_)
        refine Uc @hks (hB) (go1 @hks ?_)
        refine c_doesE (hD) ?_ ?_ ?_
        ·((try (conv=>rhs;simp (disch:=omega) only [go_sem])); try rfl)
        ·first|rfl|(conv=>lhs;simp only [go_sem])
        repeat' (first|with_reducible refine acc_none ?_ | (conv in hold _=>simp (disch:=omega) only [go_sem])|refine Stp.go ?_|(with_reducible first|refine it_pos rfl ?_|refine it_neg (by decide) ?_|refine st_nil rfl ?_|refine s_op ?_ ?_|exact trivial)|((with_reducible first|refine dw_reg0 ?_|refine dw_regB ?_);(conv=>arg 3;whnf))|(refine Spl.go (fun hq he=>?_) (fun hq he=>?_)<;>first|(exfalso;clear hq;omega)|((try first|(conv=>arg 8;simp only [hq])|(conv=>arg 4;simp only [hq]));clear hq))|((with_reducible first|refine c_split (fun hq=>?_) (fun hq=>?_)|refine q_split (fun hq=>?_) (fun hq=>?_))<;>(try first|(conv=>arg 8;simp only [hq])|(conv=>arg 4;simp only [hq])))|(with_reducible refine fin_0 ?_ (by first|rfl|(conv=>lhs;simp only [go_sem])) ?_)|exact Sub.refl _|omega)
        all_goals
         exact Uc trivial (hc) (go0 trivial)
       ·refine Bg c_Z102 mixed (go1 @hks ?_)
        refine Uc @hks (hB) (go1 @hks ?_)
        refine Uc trivial (hD) (go1 trivial ?_)
        exact Uc trivial (ha) (go0 trivial)
end Go.Proofs.YtgpdmgaemhelgaaGreat
