/-
  Validity, in both packages. No condition.
-/
import Derived.Test.YtclkehekhdfnnaaKSDca
import Derived.Test.YtclkehekhdfnnaaKSDcb
import Derived.Test.YtclkehekhdfnnaaJSVVa
import Derived.Test.YtclkehekhdfnnaaKSVSem
import Derived.Test.YtclkehekhdfnnaaJSVLib
import Derived.Test.YtclkehekhdfnnaaSVGo
set_option maxHeartbeats 4000000
set_option maxRecDepth 100000
namespace Go.Proofs.Ytclkehekhdfnnaa
open Go.RowKit
theorem validExpr_ok (w : Int) (hw : -1000 < w ∧ w < 1000) : ∀ (e : E) (d : Nat),d < 1000 → Does Try.prog 46 [] [eD e,I w,I d] (Bo (decide (eOk e w d))) []:=by
 refine E.ind (fun e ih d hd=>?_)
 have hk2:=kidsN_le e.k
 have hk0 : e.k = 1 ∨ e.k = 2 → kidsN e.k = 0:=kidsN_leaf
 refine does0 c_Z14 mixed (Nat.le_of_ble_eq_true rfl) ?_
 conv=>arg 3; whnf
 repeat' (first|with_reducible refine acc_none ?_ | (conv in hold _=>simp (disch:=omega) only [go_sem])|refine Stp.go ?_|(with_reducible first|refine it_pos rfl ?_|refine it_neg (by decide) ?_|refine st_nil rfl ?_|refine s_op ?_ ?_|exact trivial)|((with_reducible first|refine dw_reg0 ?_|refine dw_regB ?_);(conv=>arg 3;whnf))|(refine Spl.go (fun hq he=>?_) (fun hq he=>?_)<;>first|(exfalso;clear hq;omega)|((try first|(conv=>arg 8;simp only [hq])|(conv=>arg 4;simp only [hq]));clear hq))|((with_reducible first|refine c_split (fun hq=>?_) (fun hq=>?_)|refine q_split (fun hq=>?_) (fun hq=>?_))<;>(try first|(conv=>arg 8;simp only [hq])|(conv=>arg 4;simp only [hq])))|(with_reducible refine fin_0 ?_ (by first|rfl|(conv=>lhs;simp only [go_sem])) ?_)|exact Sub.refl _|omega)
 refine c_doesE (does_kidsOf e.k) ?_ ?_ ?_
 ·((try (conv=>rhs;simp (disch:=omega) only [go_sem])); try rfl)
 ·first|rfl|(conv=>lhs;simp only [go_sem])
 repeat' (first|with_reducible refine acc_none ?_ | (conv in hold _=>simp (disch:=omega) only [go_sem])|refine Stp.go ?_|(with_reducible first|refine it_pos rfl ?_|refine it_neg (by decide) ?_|refine st_nil rfl ?_|refine s_op ?_ ?_|exact trivial)|((with_reducible first|refine dw_reg0 ?_|refine dw_regB ?_);(conv=>arg 3;whnf))|(refine Spl.go (fun hq he=>?_) (fun hq he=>?_)<;>first|(exfalso;clear hq;omega)|((try first|(conv=>arg 8;simp only [hq])|(conv=>arg 4;simp only [hq]));clear hq))|((with_reducible first|refine c_split (fun hq=>?_) (fun hq=>?_)|refine q_split (fun hq=>?_) (fun hq=>?_))<;>(try first|(conv=>arg 8;simp only [hq])|(conv=>arg 4;simp only [hq])))|(with_reducible refine fin_0 ?_ (by first|rfl|(conv=>lhs;simp only [go_sem])) ?_)|exact Sub.refl _|omega)
 all_goals try exact sub_f (fun h=>by rw [eOk_iff] at h; have:=h.1; have:=h.2.1; omega)
 ·refine dw_for (c:=1) (l:=fun i=>[(1,I w),(2,I d),(3,.ref 1000000 0),(7,I i),(1000000,.obj [I e.k,I e.c,Bo e.v.b,I e.v.n,.sl 5 (e.ks.map eD)])]) e.ks.length (fun i=>∀ j x,j < i → e.ks[j]? = some x → eOk x w (d - 1)) 0 (by omega) (Wk.list [2000003] rfl rfl ?_) (fun i hi hJ=>?_) (Nat.zero_le _)
  ·repeat' (first|(conv in hold _=>simp (disch:=omega) only [go_sem])|exact trivial|exact Sub.refl _|omega)
   try exact rfl
  ·skip
   rcases at_or_end hi with ⟨x,hx,hlt⟩ | rfl
   ·have hdc : ((d - 1 : Nat) : Int) = (d : Int) - 1:=by omega
    have hih:=ih x (List.mem_of_getElem? hx) (d - 1) (by omega)
    rw [hdc] at hih
    repeat' (first|with_reducible refine acc_none ?_ | (conv in hold _=>simp (disch:=omega) only [go_sem,List.getElem?_map,hx,Option.map_some])|refine Stp.go ?_|(with_reducible first|refine it_pos rfl ?_|refine it_neg (by decide) ?_|refine st_nil rfl ?_|refine s_op ?_ ?_|exact trivial)|((with_reducible first|refine dw_reg0 ?_|refine dw_regB ?_);(conv=>arg 3;whnf))|(refine Spl.go (fun hq he=>?_) (fun hq he=>?_)<;>first|(exfalso;clear hq;omega)|((try first|(conv=>arg 8;simp only [hq])|(conv=>arg 4;simp only [hq]));clear hq))|((with_reducible first|refine c_split (fun hq=>?_) (fun hq=>?_)|refine q_split (fun hq=>?_) (fun hq=>?_))<;>(try first|(conv=>arg 8;simp only [hq])|(conv=>arg 4;simp only [hq])))|(with_reducible refine fin_0 ?_ (by first|rfl|(conv=>lhs;simp only [go_sem,List.getElem?_map,hx,Option.map_some])) ?_)|exact Sub.refl _|omega)
    refine c_doesE (hih) ?_ ?_ ?_
    ·((try (conv=>rhs;simp (disch:=omega) only [go_sem])); try rfl)
    ·first|rfl|(conv=>lhs;simp only [go_sem])
    repeat' (first|with_reducible refine acc_none ?_ | (conv in hold _=>simp (disch:=omega) only [go_sem])|refine Stp.go ?_|(with_reducible first|refine it_pos rfl ?_|refine it_neg (by decide) ?_|refine st_nil rfl ?_|refine s_op ?_ ?_|exact trivial)|((with_reducible first|refine dw_reg0 ?_|refine dw_regB ?_);(conv=>arg 3;whnf))|(refine Spl.go (fun hq he=>?_) (fun hq he=>?_)<;>first|(exfalso;clear hq;omega)|((try first|(conv=>arg 8;simp only [hq])|(conv=>arg 4;simp only [hq]));clear hq))|((with_reducible first|refine c_split (fun hq=>?_) (fun hq=>?_)|refine q_split (fun hq=>?_) (fun hq=>?_))<;>(try first|(conv=>arg 8;simp only [hq])|(conv=>arg 4;simp only [hq])))|(with_reducible refine fin_0 ?_ (by first|rfl|(conv=>lhs;simp only [go_sem])) ?_)|exact Sub.refl _|omega)
    ·exact sub_f (fun h=>by rw [eOk_iff] at h; exact he (h.2.2.1 x (List.mem_of_getElem? hx)))
    ·refine ⟨hlt,upto_next hx hJ he,Wk.list [1000000] rfl rfl ?_⟩
     repeat' (first|(conv in hold _=>simp (disch:=omega) only [go_sem])|exact trivial|exact Sub.refl _|omega)
   ·have core : eOk e w d ↔ leafOk e.k e.c e.v w:=by
     rw [eOk_iff]
     exact ⟨fun h=>h.2.2.2,fun h=>⟨by omega,by omega,upto_all hJ,h⟩⟩
    repeat' (first|with_reducible refine acc_none ?_ | (conv in hold _=>simp (disch:=omega) only [go_sem])|refine Stp.go ?_|(with_reducible first|refine it_pos rfl ?_|refine it_neg (by decide) ?_|refine st_nil rfl ?_|refine s_op ?_ ?_|exact trivial)|((with_reducible first|refine dw_reg0 ?_|refine dw_regB ?_);(conv=>arg 3;whnf))|(refine Spl.go (fun hq he=>?_) (fun hq he=>?_)<;>first|(exfalso;clear hq;omega)|((try first|(conv=>arg 8;simp only [hq])|(conv=>arg 4;simp only [hq]));clear hq))|((with_reducible first|refine c_split (fun hq=>?_) (fun hq=>?_)|refine q_split (fun hq=>?_) (fun hq=>?_))<;>(try first|(conv=>arg 8;simp only [hq])|(conv=>arg 4;simp only [hq])))|(with_reducible refine fin_0 ?_ (by first|rfl|(conv=>lhs;simp only [go_sem])) ?_)|exact Sub.refl _|omega)
    all_goals try exact sub_f (fun h=>leaf2f (by omega) (by omega) (core.1 h))
    all_goals try exact sub_iff ((leaf3 (by omega) (by omega) (by omega)).trans core.symm)
 ·refine dw_for (c:=1) (l:=fun i=>[(1,I w),(2,I d),(3,.ref 1000000 0),(7,I i),(1000000,.obj [I e.k,I e.c,Bo e.v.b,I e.v.n,.sl 5 (e.ks.map eD)])]) e.ks.length (fun i=>∀ j x,j < i → e.ks[j]? = some x → eOk x w (d - 1)) 0 (by omega) (Wk.list [2000003] rfl rfl ?_) (fun i hi hJ=>?_) (Nat.zero_le _)
  ·repeat' (first|(conv in hold _=>simp (disch:=omega) only [go_sem])|exact trivial|exact Sub.refl _|omega)
   try exact rfl
  ·skip
   rcases at_or_end hi with ⟨x,hx,hlt⟩ | rfl
   ·exact absurd hlt (by omega)
   ·have core : eOk e w d ↔ leafOk e.k e.c e.v w:=by
     rw [eOk_iff]
     exact ⟨fun h=>h.2.2.2,fun h=>⟨by omega,by omega,upto_all hJ,h⟩⟩
    repeat' (first|with_reducible refine acc_none ?_ | (conv in hold _=>simp (disch:=omega) only [go_sem])|refine Stp.go ?_|(with_reducible first|refine it_pos rfl ?_|refine it_neg (by decide) ?_|refine st_nil rfl ?_|refine s_op ?_ ?_|exact trivial)|((with_reducible first|refine dw_reg0 ?_|refine dw_regB ?_);(conv=>arg 3;whnf))|(refine Spl.go (fun hq he=>?_) (fun hq he=>?_)<;>first|(exfalso;clear hq;omega)|((try first|(conv=>arg 8;simp only [hq])|(conv=>arg 4;simp only [hq]));clear hq))|((with_reducible first|refine c_split (fun hq=>?_) (fun hq=>?_)|refine q_split (fun hq=>?_) (fun hq=>?_))<;>(try first|(conv=>arg 8;simp only [hq])|(conv=>arg 4;simp only [hq])))|(with_reducible refine fin_0 ?_ (by first|rfl|(conv=>lhs;simp only [go_sem])) ?_)|exact Sub.refl _|omega)
    all_goals try exact sub_f (fun h=>leaf2f (by omega) (by omega) (core.1 h))
    all_goals try exact sub_iff ((leaf3 (by omega) (by omega) (by omega)).trans core.symm)
    ·refine c_doesE (inRange_ok e.c 0 (w - 1)) ?_ ?_ ?_
     ·((try (conv=>rhs;simp (disch:=omega) only [go_sem])); try rfl)
     ·first|rfl|(conv=>lhs;simp only [go_sem])
     repeat' (first|with_reducible refine acc_none ?_ | (conv in hold _=>simp (disch:=omega) only [go_sem])|refine Stp.go ?_|(with_reducible first|refine it_pos rfl ?_|refine it_neg (by decide) ?_|refine st_nil rfl ?_|refine s_op ?_ ?_|exact trivial)|((with_reducible first|refine dw_reg0 ?_|refine dw_regB ?_);(conv=>arg 3;whnf))|(refine Spl.go (fun hq he=>?_) (fun hq he=>?_)<;>first|(exfalso;clear hq;omega)|((try first|(conv=>arg 8;simp only [hq])|(conv=>arg 4;simp only [hq]));clear hq))|((with_reducible first|refine c_split (fun hq=>?_) (fun hq=>?_)|refine q_split (fun hq=>?_) (fun hq=>?_))<;>(try first|(conv=>arg 8;simp only [hq])|(conv=>arg 4;simp only [hq])))|(with_reducible refine fin_0 ?_ (by first|rfl|(conv=>lhs;simp only [go_sem])) ?_)|exact Sub.refl _|omega)
     ·exact sub_iff ((leaf1 (by omega) (by omega)).trans core.symm)
     ·exact sub_f (fun h=>leaf1f (by omega) (by omega) (core.1 h))
    ·refine Uc trivial (validValue_ok e.v) (go1 trivial ?_)
     exact sub_iff (by rw [decide_eq_true_iff]; exact (leaf2 (by omega) (by omega)).trans core.symm)
theorem ValidExpr_ok (e : E) (w : Int) (hw : -1000 < w ∧ w < 1000) : Does Try.prog 31 [] [eD e,I w] (Bo (decide ((1 ≤ w ∧ w ≤ 6) ∧ eOk e w 8))) []:=by
 have h8:=validExpr_ok w hw e 8 (by decide)
 refine Bg c_Z13 mixed (go1 trivial ?_)
 refine c_doesE (inRange_ok w 1 6) ?_ ?_ ?_
 ·((try (conv=>rhs;simp (disch:=omega) only [go_sem])); try rfl)
 ·first|rfl|(conv=>lhs;simp only [go_sem])
 repeat' (first|with_reducible refine acc_none ?_ | (conv in hold _=>simp (disch:=omega) only [go_sem])|refine Stp.go ?_|(with_reducible first|refine it_pos rfl ?_|refine it_neg (by decide) ?_|refine st_nil rfl ?_|refine s_op ?_ ?_|exact trivial)|((with_reducible first|refine dw_reg0 ?_|refine dw_regB ?_);(conv=>arg 3;whnf))|(refine Spl.go (fun hq he=>?_) (fun hq he=>?_)<;>first|(exfalso;clear hq;omega)|((try first|(conv=>arg 8;simp only [hq])|(conv=>arg 4;simp only [hq]));clear hq))|((with_reducible first|refine c_split (fun hq=>?_) (fun hq=>?_)|refine q_split (fun hq=>?_) (fun hq=>?_))<;>(try first|(conv=>arg 8;simp only [hq])|(conv=>arg 4;simp only [hq])))|(with_reducible refine fin_0 ?_ (by first|rfl|(conv=>lhs;simp only [go_sem])) ?_)|exact Sub.refl _|omega)
 ·refine Uc trivial (h8) (go1 trivial ?_)
  exact sub_iff (by rw [decide_eq_true_iff]; exact ⟨fun h=>⟨he,h⟩,fun h=>h.2⟩)
 ·exact sub_f (fun h=>he h.1)
theorem ValidExpr_any (e : E) (w : Int) : Does Try.prog 31 [] [eD e,I w] (Bo (decide ((1 ≤ w ∧ w ≤ 6) ∧ eOk e w 8))) []:=by
 by_cases hw : 1 ≤ w ∧ w ≤ 6
 ·exact ValidExpr_ok e w (by omega)
 ·rw [decide_eq_false (fun h=>hw h.1)]
  refine Bg c_Z13 mixed (go1 trivial ?_)
  exact Uc trivial (inRange_ok w 1 6) (go0 trivial)
end Go.Proofs.Ytclkehekhdfnnaa
