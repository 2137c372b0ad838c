/-
  The program's values of expressions. No condition.
-/
import Derived.Test.YtclkehekhdfnnaaKSDca
import Derived.Test.YtclkehekhdfnnaaKSDcb
import Derived.Test.YtclkehekhdfnnaaJSVVa
import Derived.Test.YtclkehekhdfnnaaKSVSem
import Derived.Test.YtclkehekhdfnnaaJSVLib
import Derived.Test.YtclkehekhdfnnaaSVGo
set_option maxHeartbeats 4000000
set_option maxRecDepth 100000
namespace Go.Proofs.Ytclkehekhdfnnaa
open Go.RowKit
theorem kidCount_ok (k : Int) : Does Try.prog 59 [] [I k] (I (kidsN k)) []:=by
 refine does0 c_Z16 mixed (Nat.le_of_ble_eq_true rfl) ?_
 conv=>arg 3; whnf
 repeat' (first|with_reducible refine acc_none ?_ | (conv in hold _=>simp (disch:=omega) only [go_sem])|refine Stp.go ?_|(with_reducible first|refine it_pos rfl ?_|refine it_neg (by decide) ?_|refine st_nil rfl ?_|refine s_op ?_ ?_|exact trivial)|((with_reducible first|refine dw_reg0 ?_|refine dw_regB ?_);(conv=>arg 3;whnf))|(refine Spl.go (fun hq he=>?_) (fun hq he=>?_)<;>first|(exfalso;clear hq;omega)|((try first|(conv=>arg 8;simp only [hq])|(conv=>arg 4;simp only [hq]));clear hq))|((with_reducible first|refine c_split (fun hq=>?_) (fun hq=>?_)|refine q_split (fun hq=>?_) (fun hq=>?_))<;>(try first|(conv=>arg 8;simp only [hq])|(conv=>arg 4;simp only [hq])))|(with_reducible refine fin_0 ?_ (by first|rfl|(conv=>lhs;simp only [go_sem])) ?_)|exact Sub.refl _|omega)
 all_goals (refine Sub.of_eq ?_; unfold kidsN; congr 2; omega)
theorem validWithin_ok (w : Int) : ∀ (e : E),(∀ d : Nat,d < 1000 → Does Try.prog 49 [] [eD e,I w,I d] (Bo (decide (eOk e w d))) []) ∧ Does Try.prog 49 [] [eD e,I w,I (-1)] (Bo false) []:=by
 refine E.ind (fun e ih=>⟨fun d hd=>?_,?_⟩)
 ·have hk2:=kidsN_le e.k
  have hk0 : e.k = 1 ∨ e.k = 2 → kidsN e.k = 0:=kidsN_leaf
  refine Bg c_Z6 mixed (go1 trivial ?_)
  refine c_doesE (kidCount_ok e.k) ?_ ?_ ?_
  ·((try (conv=>rhs;simp (disch:=omega) only [go_sem])); try rfl)
  ·first|rfl|(conv=>lhs;simp only [go_sem])
  repeat' (first|with_reducible refine acc_none ?_ | (conv in hold _=>simp (disch:=omega) only [go_sem])|refine Stp.go ?_|(with_reducible first|refine it_pos rfl ?_|refine it_neg (by decide) ?_|refine st_nil rfl ?_|refine s_op ?_ ?_|exact trivial)|((with_reducible first|refine dw_reg0 ?_|refine dw_regB ?_);(conv=>arg 3;whnf))|(refine Spl.go (fun hq he=>?_) (fun hq he=>?_)<;>first|(exfalso;clear hq;omega)|((try first|(conv=>arg 8;simp only [hq])|(conv=>arg 4;simp only [hq]));clear hq))|((with_reducible first|refine c_split (fun hq=>?_) (fun hq=>?_)|refine q_split (fun hq=>?_) (fun hq=>?_))<;>(try first|(conv=>arg 8;simp only [hq])|(conv=>arg 4;simp only [hq])))|(with_reducible refine fin_0 ?_ (by first|rfl|(conv=>lhs;simp only [go_sem])) ?_)|exact Sub.refl _|omega)
  all_goals try exact sub_f (fun h=>by rw [eOk_iff] at h; have:=h.1; omega)
  all_goals try exact sub_f (fun h=>by rw [eOk_iff] at h; have:=h.2.2.2; revert this; exact leaf2f (by omega) (by omega))
  ·have core : eOk e w d ↔ leafOk e.k e.c e.v w:=by
    rw [eOk_iff]
    exact ⟨fun h=>h.2.2.2,fun h=>⟨by omega,by omega,fun x hx=>by have:=List.length_pos_of_mem hx; omega,h⟩⟩
   by_cases hcol : 0 ≤ e.c ∧ e.c < w
   ·have hr:=isColumn_ok e.c w
    rw [decide_eq_true hcol] at hr
    refine Uc trivial (hr) (go1 trivial ?_)
    exact sub_iff ((leaf1 (by omega) (by omega)).trans core.symm)
   ·have hr:=isColumn_ok e.c w
    rw [decide_eq_false hcol] at hr
    refine Uc trivial (hr) (go1 trivial ?_)
    exact sub_f (fun h=>by rw [eOk_iff] at h; have:=h.2.2.2; revert this; exact leaf1f (by omega) (by omega))
  ·have core : eOk e w d ↔ leafOk e.k e.c e.v w:=by
    rw [eOk_iff]
    exact ⟨fun h=>h.2.2.2,fun h=>⟨by omega,by omega,fun x hx=>by have:=List.length_pos_of_mem hx; omega,h⟩⟩
   refine Uc trivial (Value_valid_ok e.v) (go1 trivial ?_)
   exact sub_iff (by rw [decide_eq_true_iff]; exact (leaf2 (by omega) (by omega)).trans core.symm)
  ·exact sub_f (fun h=>by
    rw [eOk_iff] at h
    rw [(leaf3 (by omega) (by omega) (by omega)).2 h.2.2.2] at hq
    cases hq)
  ·have hlf : leafOk e.k e.c e.v w:=(leaf3 (by omega) (by omega) (by omega)).1 (by simpa using hq)
   refine dw_for (c:=0) (l:=fun i=>[(1,I w),(2,I d),(54,.sl 5 (e.ks.map eD)),(55,I e.ks.length),(56,I i)]) e.ks.length (fun i=>∀ j x,j < i → e.ks[j]? = some x → d ≠ 0 ∧ eOk x w (d - 1)) 0 (by omega) (Wk.list [] rfl rfl ?_) (fun i hi hJ=>?_) (Nat.zero_le _)
   ·repeat' (first|(conv in hold _=>simp (disch:=omega) only [go_sem])|exact trivial|exact Sub.refl _|omega)
    exact rfl
   ·skip
    rcases at_or_end hi with ⟨x,hx,hlt⟩ | rfl
    ·have hkid : Does Try.prog 49 [] [eD x,I w,I ((d : Int) - 1)] (Bo (decide (d ≠ 0 ∧ eOk x w (d - 1)))) []:=by
      by_cases h0 : d = 0
      ·subst h0
       rw [decide_eq_false (fun h=>h.1 rfl)]
       exact (ih x (List.mem_of_getElem? hx)).2
      ·have:=(ih x (List.mem_of_getElem? hx)).1 (d - 1) (by omega)
       rw [show ((d - 1 : Nat) : Int) = (d : Int) - 1 by omega] at this
       rw [show decide (d ≠ 0 ∧ eOk x w (d - 1)) = decide (eOk x w (d - 1)) by simp [h0]]
       exact this
     refine go1 @hx ?_
     refine c_doesE (hkid) ?_ ?_ ?_
     ·((try (conv=>rhs;simp (disch:=omega) only [go_sem])); try rfl)
     ·first|rfl|(conv=>lhs;simp only [go_sem])
     repeat' (first|with_reducible refine acc_none ?_ | (conv in hold _=>simp (disch:=omega) only [go_sem])|refine Stp.go ?_|(with_reducible first|refine it_pos rfl ?_|refine it_neg (by decide) ?_|refine st_nil rfl ?_|refine s_op ?_ ?_|exact trivial)|((with_reducible first|refine dw_reg0 ?_|refine dw_regB ?_);(conv=>arg 3;whnf))|(refine Spl.go (fun hq he=>?_) (fun hq he=>?_)<;>first|(exfalso;clear hq;omega)|((try first|(conv=>arg 8;simp only [hq])|(conv=>arg 4;simp only [hq]));clear hq))|((with_reducible first|refine c_split (fun hq=>?_) (fun hq=>?_)|refine q_split (fun hq=>?_) (fun hq=>?_))<;>(try first|(conv=>arg 8;simp only [hq])|(conv=>arg 4;simp only [hq])))|(with_reducible refine fin_0 ?_ (by first|rfl|(conv=>lhs;simp only [go_sem])) ?_)|exact Sub.refl _|omega)
     ·exact sub_f (fun h=>by rw [eOk_iff] at h; exact he ⟨h.2.1 (by omega),h.2.2.1 x (List.mem_of_getElem? hx)⟩)
     ·refine ⟨hlt,upto_next hx hJ he,Wk.list [] rfl rfl ?_⟩
      repeat' (first|(conv in hold _=>simp (disch:=omega) only [go_sem])|exact trivial|exact Sub.refl _|omega)
    ·refine go1 trivial ?_
     refine sub_t ((eOk_iff e w d).2 ⟨by omega,fun h0=>?_,fun x hx=>(upto_all hJ x hx).2,hlf⟩)
     exact (upto_all hJ _ (List.getElem_mem h0)).1
 ·exact Bg c_Z6 mixed (go0 trivial)
theorem implValidExpr_ok (e : E) (w : Int) : Does Try.prog 34 [] [eD e,I w] (Bo (decide ((1 ≤ w ∧ w ≤ 6) ∧ eOk e w 8))) []:=by
 have h8:=(validWithin_ok w e).1 8 (by decide)
 refine Bg c_Z9 mixed (go1 trivial ?_)
 refine c_doesE (validWidth_ok w) ?_ ?_ ?_
 ·((try (conv=>rhs;simp (disch:=omega) only [go_sem])); try rfl)
 ·first|rfl|(conv=>lhs;simp only [go_sem])
 repeat' (first|with_reducible refine acc_none ?_ | (conv in hold _=>simp (disch:=omega) only [go_sem])|refine Stp.go ?_|(with_reducible first|refine it_pos rfl ?_|refine it_neg (by decide) ?_|refine st_nil rfl ?_|refine s_op ?_ ?_|exact trivial)|((with_reducible first|refine dw_reg0 ?_|refine dw_regB ?_);(conv=>arg 3;whnf))|(refine Spl.go (fun hq he=>?_) (fun hq he=>?_)<;>first|(exfalso;clear hq;omega)|((try first|(conv=>arg 8;simp only [hq])|(conv=>arg 4;simp only [hq]));clear hq))|((with_reducible first|refine c_split (fun hq=>?_) (fun hq=>?_)|refine q_split (fun hq=>?_) (fun hq=>?_))<;>(try first|(conv=>arg 8;simp only [hq])|(conv=>arg 4;simp only [hq])))|(with_reducible refine fin_0 ?_ (by first|rfl|(conv=>lhs;simp only [go_sem])) ?_)|exact Sub.refl _|omega)
 ·refine Uc trivial (h8) (go1 trivial ?_)
  exact sub_iff (by rw [decide_eq_true_iff]; exact ⟨fun h=>⟨he,h⟩,fun h=>h.2⟩)
 ·exact sub_f (fun h=>he h.1)
end Go.Proofs.Ytclkehekhdfnnaa
