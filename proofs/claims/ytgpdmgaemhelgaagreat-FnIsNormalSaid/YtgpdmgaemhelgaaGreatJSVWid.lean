/-
  Widths, columns and lists of expressions, in both packages. No condition.
-/
import Derived.Test.YtgpdmgaemhelgaaGreatJSDcVWid
import Derived.Test.YtgpdmgaemhelgaaGreatKSDca
import Derived.Test.YtgpdmgaemhelgaaGreatJSVCpE
import Derived.Test.YtgpdmgaemhelgaaGreatJSVCols
import Derived.Test.YtgpdmgaemhelgaaGreatJSVBox
import Derived.Test.YtgpdmgaemhelgaaGreatJSVYld
set_option maxHeartbeats 4000000
set_option maxRecDepth 100000
namespace Go.Proofs.YtgpdmgaemhelgaaGreat
open Go.RowKit
def wsOk (ws : List Int) : Prop:=(1 ≤ ws.length ∧ ws.length ≤ 4) ∧ ∀ (j : Nat) (w : Int),ws[j]? = some w → 1 ≤ w ∧ w ≤ 6
noncomputable instance wsOkDec (ws : List Int) : Decidable (wsOk ws):=Classical.propDecidable _
theorem upto1 {α : Type} {l : List α} {i : Nat} {x : α} {P : Nat → α → Prop} (hx : l[i]? = some x) (h : P i x) (hJ : ∀ (j : Nat) (y : α),j < i → l[j]? = some y → P j y) : ∀ (j : Nat) (y : α),j < i + 1 → l[j]? = some y → P j y:=by
 intro j y hj hy
 by_cases hji : j = i
 ·subst hji
  rw [hx] at hy
  cases hy
  exact h
 ·exact hJ j y (by omega) hy
theorem upto0 {α : Type} {l : List α} {P : Nat → α → Prop} (hJ : ∀ (j : Nat) (y : α),j < l.length → l[j]? = some y → P j y) : ∀ (j : Nat) (y : α),l[j]? = some y → P j y:=fun j y h=>hJ j y (List.getElem?_eq_some_iff.1 h).1 h
theorem validWidths_spec (ws : List Int) (hl : ws.length ≤ 1048576) : Does Tryz.prog 94 [] [intsD ws] (Bo (decide (wsOk ws))) []:=by
 refine Bg c_Z77 mixed (go1 trivial ?_)
 refine dw_for (c:=0) (l:=fun i=>[(0,intsD ws),(3,I i)]) ws.length (fun i=>∀ (j : Nat) (w : Int),j < i → ws[j]? = some w → 1 ≤ w ∧ w ≤ 6) 0 (fun j w hj=>by omega) (Wk.list [] rfl rfl ?_) (fun i hi hJ=>?_) (Nat.zero_le _)
 ·repeat' (first|(conv in hold _=>simp (disch:=omega) only [go_sem])|exact trivial|exact Sub.refl _|omega)
  exact rfl
 ·rcases at_or_end hi with ⟨x,hx,hlt⟩ | rfl
  ·have hr:=inRange_ok x 1 6
   by_cases h1 : 1 ≤ x ∧ x ≤ 6
   ·rw [decide_eq_true h1] at hr
    refine go1 @hx ?_
    refine Uc trivial (hr) (go1 trivial ?_)
    refine ⟨hlt,upto1 (P:=fun _ w=>1 ≤ w ∧ w ≤ 6) hx h1 hJ,Wk.list [] rfl rfl ?_⟩
    exact Ag trivial
   ·rw [decide_eq_false h1] at hr
    refine go1 @hx ?_
    refine Uc trivial (hr) (go1 trivial ?_)
    exact sub_f (fun h=>h1 (h.2 i x hx))
  ·have hr:=inRange_ok ws.length 1 4
   refine go1 trivial ?_
   refine Uc trivial (hr) (go1 trivial ?_)
   exact sub_iff (by rw [decide_eq_true_iff]; exact ⟨fun h=>⟨by omega,upto0 (P:=fun _ w=>1 ≤ w ∧ w ≤ 6) hJ⟩,fun h=>by have:=h.1; omega⟩)
theorem validWidths_impl (ws : List Int) (hl : ws.length ≤ 1048576) : Does Tryz.prog 55 [] [intsD ws] (Bo (decide (wsOk ws))) []:=by
 by_cases hb : 1 ≤ ws.length ∧ ws.length ≤ 4
 ·refine Bg c_Z69 mixed (go1 trivial ?_)
  refine dw_for (c:=0) (l:=fun i=>[(13,intsD ws),(14,I ws.length),(15,I i)]) ws.length (fun i=>∀ (j : Nat) (w : Int),j < i → ws[j]? = some w → 1 ≤ w ∧ w ≤ 6) 0 (fun j w hj=>by omega) (Wk.list [] rfl rfl ?_) (fun i hi hJ=>?_) (Nat.zero_le _)
  ·repeat' (first|(conv in hold _=>simp (disch:=omega) only [go_sem])|exact trivial|exact Sub.refl _|omega)
   exact rfl
  ·rcases at_or_end hi with ⟨x,hx,hlt⟩ | rfl
   ·have hr:=validWidth_ok x
    by_cases h1 : 1 ≤ x ∧ x ≤ 6
    ·rw [decide_eq_true h1] at hr
     refine go1 @hx ?_
     refine Uc trivial (hr) (go1 trivial ?_)
     refine ⟨hlt,upto1 (P:=fun _ w=>1 ≤ w ∧ w ≤ 6) hx h1 hJ,Wk.list [] rfl rfl ?_⟩
     exact Ag trivial
    ·rw [decide_eq_false h1] at hr
     refine go1 @hx ?_
     refine Uc trivial (hr) (go1 trivial ?_)
     exact sub_f (fun h=>h1 (h.2 i x hx))
   ·refine go1 trivial ?_
    exact sub_iff ⟨fun _=>⟨hb,upto0 (P:=fun _ w=>1 ≤ w ∧ w ≤ 6) hJ⟩,fun _=>rfl⟩
 ·refine does0 c_Z69 mixed (Nat.le_of_ble_eq_true rfl) ?_
  conv=>arg 3; whnf
  repeat' (first|with_reducible refine acc_none ?_ | (conv in hold _=>simp (disch:=omega) only [go_sem])|refine Stp.go ?_|(with_reducible first|refine it_pos rfl ?_|refine it_neg (by decide) ?_|refine st_nil rfl ?_|refine s_op ?_ ?_|exact trivial)|((with_reducible first|refine dw_reg0 ?_|refine dw_regB ?_);(conv=>arg 3;whnf))|(refine Spl.go (fun hq he=>?_) (fun hq he=>?_)<;>first|(exfalso;clear hq;omega)|((try first|(conv=>arg 8;simp only [hq])|(conv=>arg 4;simp only [hq]));clear hq))|((with_reducible first|refine c_split (fun hq=>?_) (fun hq=>?_)|refine q_split (fun hq=>?_) (fun hq=>?_))<;>(try first|(conv=>arg 8;simp only [hq])|(conv=>arg 4;simp only [hq])))|(with_reducible refine fin_0 ?_ (by first|rfl|(conv=>lhs;simp only [go_sem])) ?_)|exact Sub.refl _|omega)
  all_goals exact sub_f (fun h=>hb h.1)
def colAt (cs : List Int) (w : Int) (i : Nat) (c : Int) : Prop:=(0 ≤ c ∧ c ≤ w - 1) ∧ ∀ b,0 < i → cs[i - 1]? = some b → b < c
def colsOk (cs : List Int) (w : Int) : Prop:=∀ (i : Nat) (c : Int),cs[i]? = some c → colAt cs w i c
noncomputable instance colsOkDec (cs : List Int) (w : Int) : Decidable (colsOk cs w):=Classical.propDecidable _
theorem validCols_ok (cs : List Int) (w : Int) (hw : 0 ≤ w ∧ w ≤ 1000) (hl : cs.length ≤ 1048576) : Does Tryz.prog 140 [] [intsD cs,I w] (Bo (decide (colsOk cs w))) []:=by
 refine Bg c_Z118 mixed (go1 trivial ?_)
 refine dw_for (c:=0) (l:=fun i=>[(0,intsD cs),(1,I w),(5,I i)]) cs.length (fun i=>∀ (j : Nat) (c : Int),j < i → cs[j]? = some c → colAt cs w j c) 0 (fun j w hj=>by omega) (Wk.list [] rfl rfl ?_) (fun i hi hJ=>?_) (Nat.zero_le _)
 ·repeat' (first|(conv in hold _=>simp (disch:=omega) only [go_sem])|exact trivial|exact Sub.refl _|omega)
  exact rfl
 ·rcases at_or_end hi with ⟨x,hx,hlt⟩ | rfl
  ·have hr:=inRange_ok x 0 (w - 1)
   by_cases h1 : 0 ≤ x ∧ x ≤ w - 1
   ·rw [decide_eq_true h1] at hr
    by_cases hi0 : i = 0
    ·refine go1 @hx ?_
     refine Uc trivial (hr) (go1 trivial ?_)
     refine ⟨hlt,upto1 (P:=colAt cs w) hx ⟨h1,fun b h0=>by omega⟩ hJ,Wk.list [] rfl rfl ?_⟩
     exact Ag trivial
    ·obtain ⟨b,hb⟩ : ∃ b,cs[i - 1]? = some b:=⟨_,List.getElem?_eq_getElem (by omega)⟩
     have hii : ((i : Int) - 1).toNat = i - 1:=by omega
     by_cases h2 : b < x
     ·refine go1 @hx ?_
      refine Uc (cj3 @hx @hb @hii) (hr) (go1 (cj3 @hx @hb @hii) ?_)
      refine ⟨hlt,upto1 (P:=colAt cs w) hx ⟨h1,fun b' _ hb'=>by rw [hb] at hb'; cases hb'; exact h2⟩ hJ,Wk.list [] rfl rfl ?_⟩
      exact Ag trivial
     ·refine go1 @hx ?_
      refine Uc (cj3 @hx @hb @hii) (hr) (go1 (cj3 @hx @hb @hii) ?_)
      exact sub_f (fun h=>h2 ((h i x hx).2 b (by omega) hb))
   ·rw [decide_eq_false h1] at hr
    refine go1 @hx ?_
    refine Uc trivial (hr) (go1 trivial ?_)
    exact sub_f (fun h=>h1 (h i x hx).1)
  ·refine go1 trivial ?_
   exact sub_iff ⟨fun _=>upto0 (P:=colAt cs w) hJ,fun _=>rfl⟩
def lastOf (cs : List Int) (i : Nat) : Int:=if i = 0 then -1 else cs.getD (i - 1) 0
theorem lastOf_next {cs : List Int} {i : Nat} {x : Int} (hx : cs[i]? = some x) : lastOf cs (i + 1) = x:=by
 unfold lastOf
 rw [if_neg (by omega),Nat.add_sub_cancel,List.getD_eq_getElem?_getD,hx]
 rfl
theorem validColumns_ok (cs : List Int) (w : Int) (hl : cs.length ≤ 1048576) : Does Tryz.prog 145 [] [intsD cs,I w] (Bo (decide (cs.length < 6 ∧ colsOk cs w))) []:=by
 by_cases hb : cs.length < 6
 ·refine Bg c_Z51 mixed (go1 trivial ?_)
  refine dw_for (c:=0) (l:=fun i=>[(1,I w),(5,I (lastOf cs i)),(11,intsD cs),(12,I cs.length),(13,I i)]) cs.length (fun i=>∀ (j : Nat) (c : Int),j < i → cs[j]? = some c → colAt cs w j c) 0 (fun j w hj=>by omega) (Wk.list [] rfl rfl ?_) (fun i hi hJ=>?_) (Nat.zero_le _)
  ·repeat' (first|(conv in hold _=>simp (disch:=omega) only [go_sem])|exact trivial|exact Sub.refl _|omega)
   exact ⟨rfl,rfl⟩
  ·rcases at_or_end hi with ⟨x,hx,hlt⟩ | rfl
   ·have hnx:=lastOf_next hx
    have hlast : lastOf cs i < x ∧ x < w ↔ colAt cs w i x:=by
     unfold lastOf colAt
     by_cases hi0 : i = 0
     ·rw [if_pos hi0]
      exact ⟨fun h=>⟨by omega,fun b h0=>by omega⟩,fun h=>by have:=h.1; omega⟩
     ·obtain ⟨b,hb⟩ : ∃ b,cs[i - 1]? = some b:=⟨_,List.getElem?_eq_getElem (by omega)⟩
      have h3:=(hJ (i - 1) b (by omega) hb).1
      rw [if_neg hi0,List.getD_eq_getElem?_getD,hb,Option.getD_some]
      exact ⟨fun h=>⟨by omega,fun b' _ hb'=>by cases hb'; exact h.1⟩,fun h=>⟨h.2 b (by omega) rfl,by have:=h.1; omega⟩⟩
    by_cases h1 : lastOf cs i < x ∧ x < w
    ·refine go1 @hx ?_
     refine ⟨hlt,upto1 (P:=colAt cs w) hx (hlast.1 h1) hJ,Wk.list [] rfl rfl ?_⟩
     exact Ag @hnx
    ·repeat' (first|with_reducible refine acc_none ?_ | (conv in hold _=>simp (disch:=omega) only [go_sem,List.getElem?_map,hx,Option.map_some])|refine Stp.go ?_|(with_reducible first|refine it_pos rfl ?_|refine it_neg (by decide) ?_|refine st_nil rfl ?_|refine s_op ?_ ?_|exact trivial)|((with_reducible first|refine dw_reg0 ?_|refine dw_regB ?_);(conv=>arg 3;whnf))|(refine Spl.go (fun hq he=>?_) (fun hq he=>?_)<;>first|(exfalso;clear hq;omega)|((try first|(conv=>arg 8;simp only [hq])|(conv=>arg 4;simp only [hq]));clear hq))|((with_reducible first|refine c_split (fun hq=>?_) (fun hq=>?_)|refine q_split (fun hq=>?_) (fun hq=>?_))<;>(try first|(conv=>arg 8;simp only [hq])|(conv=>arg 4;simp only [hq])))|(with_reducible refine fin_0 ?_ (by first|rfl|(conv=>lhs;simp only [go_sem,List.getElem?_map,hx,Option.map_some])) ?_)|exact Sub.refl _|omega)
     all_goals exact sub_f (fun h=>h1 (hlast.2 (h.2 i x hx)))
   ·refine go1 trivial ?_
    exact sub_iff ⟨fun _=>⟨hb,upto0 (P:=colAt cs w) hJ⟩,fun _=>rfl⟩
 ·refine Bg c_Z51 mixed (go1 trivial ?_)
  exact sub_f (fun h=>hb h.1)
def esOk (es : List E) (w : Int) : Prop:=∀ (j : Nat) (e : E),es[j]? = some e → eOk e w 8
noncomputable instance esOkDec (es : List E) (w : Int) : Decidable (esOk es w):=Classical.propDecidable _
theorem projectWidth_ok (es : List E) (w : Int) (hw : 1 ≤ w ∧ w ≤ 6) (hl : es.length ≤ 1048576) : Does Tryz.prog 139 [] [.sl 5 (es.map eD),I w] (I (if es.length ≤ 6 ∧ esOk es w then es.length else 0)) []:=by
 refine Bg c_Z54 mixed (go1 trivial ?_)
 refine dw_for (c:=0) (l:=fun i=>[(0,.sl 5 (es.map eD)),(1,I w),(5,I i)]) es.length (fun i=>∀ (j : Nat) (e : E),j < i → es[j]? = some e → eOk e w 8) 0 (fun j w hj=>by omega) (Wk.list [] rfl rfl ?_) (fun i hi hJ=>?_) (Nat.zero_le _)
 ·repeat' (first|(conv in hold _=>simp (disch:=omega) only [go_sem])|exact trivial|exact Sub.refl _|omega)
  exact rfl
 ·rcases at_or_end hi with ⟨x,hx,hlt⟩ | rfl
  ·have hr:=ValidExpr_ok x w (by omega)
   by_cases h1 : eOk x w 8
   ·rw [decide_eq_true ⟨hw,h1⟩] at hr
    refine go1 @hx ?_
    refine Uc trivial (hr) (go1 trivial ?_)
    refine ⟨hlt,upto1 (P:=fun _ e=>eOk e w 8) hx h1 hJ,Wk.list [] rfl rfl ?_⟩
    exact Ag trivial
   ·rw [decide_eq_false (fun h=>h1 h.2)] at hr
    rw [if_neg (fun h=>h1 (h.2 i x hx))]
    refine go1 @hx ?_
    exact Uc trivial (hr) (go0 trivial)
  ·by_cases h6 : es.length ≤ 6
   ·rw [if_pos ⟨h6,upto0 (P:=fun _ e=>eOk e w 8) hJ⟩]
    exact go0 trivial
   ·rw [if_neg (fun h=>h6 h.1)]
    exact go0 trivial
end Go.Proofs.YtgpdmgaemhelgaaGreat
set_option maxHeartbeats 4000000
set_option maxRecDepth 100000
namespace Go.Proofs.YtgpdmgaemhelgaaGreat
open Go.RowKit
def fields (p : Pl) : Prop:=(1 ≤ p.k ∧ p.k ≤ 8) ∧ (p.k = 1 → p.ks.length = 0) ∧ (p.k = 4 ∨ p.k = 5 ∨ p.k = 6 → p.ks.length = 2) ∧ (p.k = 2 ∨ p.k = 3 ∨ p.k = 7 ∨ p.k = 8 → p.ks.length = 1) ∧
 (p.k = 2 ∨ p.k = 4 ∨ p.k = 5 → p.es.length = 1) ∧ (p.k = 1 ∨ p.k = 6 ∨ p.k = 7 ∨ p.k = 8 → p.es.length = 0) ∧ (p.t = 0 ∨ p.k = 1) ∧ (p.cs.length = 0 ∨ p.k = 8)
noncomputable instance fieldsDec (p : Pl) : Decidable (fields p):=Classical.propDecidable _
theorem onlyFields_ok (p : Pl) : Does Tryz.prog 137 [] [pD p] (Bo (decide (fields p))) []:=by
 have hr:=inRange_ok p.k 1 8
 by_cases hk : 1 ≤ p.k ∧ p.k ≤ 8
 ·rw [decide_eq_true hk] at hr
  refine does0 c_Z92 mixed (Nat.le_of_ble_eq_true rfl) ?_
  conv=>arg 3; whnf
  repeat' (first|with_reducible refine acc_none ?_ | (conv in hold _=>simp (disch:=omega) only [go_sem])|refine Stp.go ?_|(with_reducible first|refine it_pos rfl ?_|refine it_neg (by decide) ?_|refine st_nil rfl ?_|refine s_op ?_ ?_|exact trivial)|((with_reducible first|refine dw_reg0 ?_|refine dw_regB ?_);(conv=>arg 3;whnf))|(refine Spl.go (fun hq he=>?_) (fun hq he=>?_)<;>first|(exfalso;clear hq;omega)|((try first|(conv=>arg 8;simp only [hq])|(conv=>arg 4;simp only [hq]));clear hq))|((with_reducible first|refine c_split (fun hq=>?_) (fun hq=>?_)|refine q_split (fun hq=>?_) (fun hq=>?_))<;>(try first|(conv=>arg 8;simp only [hq])|(conv=>arg 4;simp only [hq])))|(with_reducible refine fin_0 ?_ (by first|rfl|(conv=>lhs;simp only [go_sem])) ?_)|exact Sub.refl _|omega)
  all_goals
   refine c_doesE (hr) ?_ ?_ ?_
   ·((try (conv=>rhs;simp (disch:=omega) only [go_sem])); try rfl)
   ·first|rfl|(conv=>lhs;simp only [go_sem])
   repeat' (first|with_reducible refine acc_none ?_ | (conv in hold _=>simp (disch:=omega) only [go_sem])|refine Stp.go ?_|(with_reducible first|refine it_pos rfl ?_|refine it_neg (by decide) ?_|refine st_nil rfl ?_|refine s_op ?_ ?_|exact trivial)|((with_reducible first|refine dw_reg0 ?_|refine dw_regB ?_);(conv=>arg 3;whnf))|(refine Spl.go (fun hq he=>?_) (fun hq he=>?_)<;>first|(exfalso;clear hq;omega)|((try first|(conv=>arg 8;simp only [hq])|(conv=>arg 4;simp only [hq]));clear hq))|((with_reducible first|refine c_split (fun hq=>?_) (fun hq=>?_)|refine q_split (fun hq=>?_) (fun hq=>?_))<;>(try first|(conv=>arg 8;simp only [hq])|(conv=>arg 4;simp only [hq])))|(with_reducible refine fin_0 ?_ (by first|rfl|(conv=>lhs;simp only [go_sem])) ?_)|exact Sub.refl _|omega)
  all_goals first
   | exact sub_f (fun h=>by unfold fields at h; omega)
   | exact sub_iff ⟨fun _=>by unfold fields; omega,fun _=>rfl⟩
   | exact sub_iff ⟨fun h'=>by unfold fields; simp at h'; omega,fun h'=>by unfold fields at h'; simp; omega⟩
 ·rw [decide_eq_false hk] at hr
  refine Bg c_Z92 mixed (go1 trivial ?_)
  refine Uc trivial (hr) (go1 trivial ?_)
  exact sub_f (fun h=>hk h.1)
def fieldsI (p : Pl) : Prop:=fields p ∧ (p.k = 3 → 1 ≤ p.es.length ∧ p.es.length ≤ 6)
noncomputable instance fieldsIDec (p : Pl) : Decidable (fieldsI p):=Classical.propDecidable _
theorem shapeOf_ok (k : Int) (h : 1 ≤ k ∧ k ≤ 8) : Does Tryz.prog 144 [] [I k] (.tup [.agg [I (if k = 2 ∨ k = 3 ∨ k = 4 ∨ k = 5 then 1 else 0),I (if k = 3 then 6 else if k = 2 ∨ k = 4 ∨ k = 5 then 1 else 0),I (if k = 1 then 0 else if k = 4 ∨ k = 5 ∨ k = 6 then 2 else 1)],Bo true]) []:=by
 refine does0 c_Z145 mixed (Nat.le_of_ble_eq_true rfl) ?_
 conv=>arg 3; whnf
 repeat' (first|with_reducible refine acc_none ?_ | (conv in hold _=>simp (disch:=omega) only [go_sem])|refine Stp.go ?_|(with_reducible first|refine it_pos rfl ?_|refine it_neg (by decide) ?_|refine st_nil rfl ?_|refine s_op ?_ ?_|exact trivial)|((with_reducible first|refine dw_reg0 ?_|refine dw_regB ?_);(conv=>arg 3;whnf))|(refine Spl.go (fun hq he=>?_) (fun hq he=>?_)<;>first|(exfalso;clear hq;omega)|((try first|(conv=>arg 8;simp only [hq])|(conv=>arg 4;simp only [hq]));clear hq))|((with_reducible first|refine c_split (fun hq=>?_) (fun hq=>?_)|refine q_split (fun hq=>?_) (fun hq=>?_))<;>(try first|(conv=>arg 8;simp only [hq])|(conv=>arg 4;simp only [hq])))|(with_reducible refine fin_0 ?_ (by first|rfl|(conv=>lhs;simp only [go_sem])) ?_)|exact Sub.refl _|omega)
 all_goals exact Sub.of_eq (by subst he; rfl)
theorem shapeOf_no (k : Int) (h : ¬ (1 ≤ k ∧ k ≤ 8)) : Does Tryz.prog 144 [] [I k] (.tup [.agg [I 0,I 0,I 0],Bo false]) []:=by
 exact Bg c_Z145 mixed (go0 trivial)
theorem hasOwnFields_ok (p : Pl) : Does Tryz.prog 100 [] [pD p] (Bo (decide (fieldsI p))) [] := by
  by_cases hk : 1 ≤ p.k ∧ p.k ≤ 8
  · have hs := shapeOf_ok p.k hk
    refine Bg c_Z47 mixed (go1 trivial ?_)
    refine c_doesE (hs) ?_ ?_ ?_
    · ((try (conv=>rhs;simp (disch:=omega) only [go_sem])); try rfl)
    · first|rfl|(conv=>lhs;simp only [go_sem])
    repeat' (first|with_reducible refine acc_none ?_ | (conv in hold _=>simp (disch:=omega) only [go_sem])|refine Stp.go ?_|(with_reducible first|refine it_pos rfl ?_|refine it_neg (by decide) ?_|refine st_nil rfl ?_|refine s_op ?_ ?_|exact trivial)|((with_reducible first|refine dw_reg0 ?_|refine dw_regB ?_);(conv=>arg 3;whnf))|(refine Spl.go (fun hq he=>?_) (fun hq he=>?_)<;>first|(exfalso;clear hq;omega)|((try first|(conv=>arg 8;simp only [hq])|(conv=>arg 4;simp only [hq]));clear hq))|((with_reducible first|refine c_split (fun hq=>?_) (fun hq=>?_)|refine q_split (fun hq=>?_) (fun hq=>?_))<;>(try first|(conv=>arg 8;simp only [hq])|(conv=>arg 4;simp only [hq])))|(with_reducible refine fin_0 ?_ (by first|rfl|(conv=>lhs;simp only [go_sem])) ?_)|exact Sub.refl _|omega)
    all_goals first
      | exact sub_f (fun h => by unfold fieldsI fields at h; omega)
      | exact sub_iff ⟨fun _ => by unfold fieldsI fields; omega, fun _ => rfl⟩
      | exact sub_iff ⟨fun h' => by unfold fieldsI fields; simp at h'; omega, fun h' => by unfold fieldsI fields at h'; simp; omega⟩
      | (by_cases h0 : p.cs.length = 0
         · exact Sub.of_eq (by rw [h0, decide_eq_true (show fieldsI p by unfold fieldsI fields; omega)]; rfl)
         · exact Sub.of_eq (by rw [decide_eq_false (fun h : fieldsI p => by unfold fieldsI fields at h; omega), beq_eq_false_iff_ne.2 (by omega)]))
  · have hs := shapeOf_no p.k hk
    refine Bg c_Z47 mixed (go1 trivial ?_)
    refine Uc trivial (hs) (go1 trivial ?_)
    exact sub_f (fun h => hk h.1.1)
end Go.Proofs.YtgpdmgaemhelgaaGreat
