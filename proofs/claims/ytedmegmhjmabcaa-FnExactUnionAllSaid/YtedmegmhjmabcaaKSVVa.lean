/-
  Values and rows: what is valid, in both packages. No condition.
-/
import Derived.Test.YtedmegmhjmabcaaKSDca
import Derived.Test.YtedmegmhjmabcaaKSDcb
import Derived.Test.YtedmegmhjmabcaaKSVSem
import Derived.Test.YtedmegmhjmabcaaSVGo
set_option maxHeartbeats 4000000
set_option maxRecDepth 100000
set_option linter.unusedVariables false
set_option linter.unusedSimpArgs false
namespace Go.Proofs.Ytedmegmhjmabcaa
open Go.RowKit
theorem inRange_ok (n lo hi : Int) : Does Try.prog 58 [] [I n,I lo,I hi] (Bo (decide (lo ≤ n ∧ n ≤ hi))) []:=by
 refine does0 c_Z44 mixed (Nat.le_of_ble_eq_true rfl) ?_
 conv=>arg 3; whnf
 repeat' (first|with_reducible refine acc_none ?_ | (conv in hold _=>simp (disch:=omega) only [go_sem])|refine Stp.go ?_|(with_reducible first|refine it_pos rfl ?_|refine it_neg (by decide) ?_|refine st_nil rfl ?_|refine s_op ?_ ?_|exact trivial)|((with_reducible first|refine dw_reg0 ?_|refine dw_regB ?_);(conv=>arg 3;whnf))|(refine Spl.go (fun hq he=>?_) (fun hq he=>?_)<;>first|(exfalso;clear hq;omega)|((try first|(conv=>arg 8;simp only [hq])|(conv=>arg 4;simp only [hq]));clear hq))|((with_reducible first|refine c_split (fun hq=>?_) (fun hq=>?_)|refine q_split (fun hq=>?_) (fun hq=>?_))<;>(try first|(conv=>arg 8;simp only [hq])|(conv=>arg 4;simp only [hq])))|(with_reducible refine fin_0 ?_ (by first|rfl|(conv=>lhs;simp only [go_sem])) ?_)|exact Sub.refl _|omega)
 ·exact sub_iff (by simp [he])
 ·exact sub_f (fun h=>he h.1)
theorem validValue_ok (v : V) : Does Try.prog 124 [] [vD v] (Bo (decide v.ok)) []:=by
 refine Bg c_Z20 mixed (go1 trivial ?_)
 refine c_doesE (inRange_ok v.n (-9999) 9999) ?_ ?_ ?_
 ·((try (conv=>rhs;simp (disch:=omega) only [go_sem])); try rfl)
 ·first|rfl|(conv=>lhs;simp only [go_sem])
 repeat' (first|with_reducible refine acc_none ?_ | (conv in hold _=>simp (disch:=omega) only [go_sem])|refine Stp.go ?_|(with_reducible first|refine it_pos rfl ?_|refine it_neg (by decide) ?_|refine st_nil rfl ?_|refine s_op ?_ ?_|exact trivial)|((with_reducible first|refine dw_reg0 ?_|refine dw_regB ?_);(conv=>arg 3;whnf))|(refine Spl.go (fun hq he=>?_) (fun hq he=>?_)<;>first|(exfalso;clear hq;omega)|((try first|(conv=>arg 8;simp only [hq])|(conv=>arg 4;simp only [hq]));clear hq))|((with_reducible first|refine c_split (fun hq=>?_) (fun hq=>?_)|refine q_split (fun hq=>?_) (fun hq=>?_))<;>(try first|(conv=>arg 8;simp only [hq])|(conv=>arg 4;simp only [hq])))|(with_reducible refine fin_0 ?_ (by first|rfl|(conv=>lhs;simp only [go_sem])) ?_)|exact Sub.refl _|omega)
 ·have hb : v.b = true:=by simpa using hq
  refine sub_iff ?_
  rw [V.ok_iff,beq_iff_eq]
  exact ⟨fun h=>⟨he.1,he.2,fun _=>h⟩,fun h=>h.2.2 hb⟩
 ·have hb : v.b = false:=by simpa using hq
  exact sub_t ⟨he.1,he.2,fun h=>by rw [hb] at h; cases h⟩
 ·exact sub_f (fun h=>he ⟨h.lo,h.hi⟩)
theorem validRow_ok (vs : List V) (hl : vs.length < 2000000) : Does Try.prog 92 [] [rowD vs] (Bo (decide (rowOk vs))) []:=by
 refine Bg c_Z37 mixed (go1 trivial ?_)
 refine dw_for (c:=0) (l:=fun i=>[(0,rowD vs),(3,I i)]) vs.length (fun i=>∀ j v,j < i → vs[j]? = some v → v.ok) 0 (by omega) (Wk.list [] rfl rfl ?_) (fun i hi hJ=>?_) (Nat.zero_le _)
 ·repeat' (first|(conv in hold _=>simp (disch:=omega) only [go_sem])|exact trivial|exact Sub.refl _|omega)
  exact rfl
 ·skip
  rcases at_or_end hi with ⟨v,hv,hlt⟩ | rfl
  ·refine go1 @hv ?_
   refine c_doesE (validValue_ok v) ?_ ?_ ?_
   ·((try (conv=>rhs;simp (disch:=omega) only [go_sem])); try rfl)
   ·first|rfl|(conv=>lhs;simp only [go_sem])
   repeat' (first|with_reducible refine acc_none ?_ | (conv in hold _=>simp (disch:=omega) only [go_sem])|refine Stp.go ?_|(with_reducible first|refine it_pos rfl ?_|refine it_neg (by decide) ?_|refine st_nil rfl ?_|refine s_op ?_ ?_|exact trivial)|((with_reducible first|refine dw_reg0 ?_|refine dw_regB ?_);(conv=>arg 3;whnf))|(refine Spl.go (fun hq he=>?_) (fun hq he=>?_)<;>first|(exfalso;clear hq;omega)|((try first|(conv=>arg 8;simp only [hq])|(conv=>arg 4;simp only [hq]));clear hq))|((with_reducible first|refine c_split (fun hq=>?_) (fun hq=>?_)|refine q_split (fun hq=>?_) (fun hq=>?_))<;>(try first|(conv=>arg 8;simp only [hq])|(conv=>arg 4;simp only [hq])))|(with_reducible refine fin_0 ?_ (by first|rfl|(conv=>lhs;simp only [go_sem])) ?_)|exact Sub.refl _|omega)
   ·exact sub_f (fun h=>he (h.2 v (List.mem_of_getElem? hv)))
   ·refine ⟨hlt,upto_next hv hJ he,Wk.list [] rfl rfl ?_⟩
    repeat' (first|(conv in hold _=>simp (disch:=omega) only [go_sem])|exact trivial|exact Sub.refl _|omega)
  ·refine go1 trivial ?_
   refine Uc trivial (inRange_ok vs.length 1 6) (go1 trivial ?_)
   exact sub_iff (by rw [decide_eq_true_iff]; exact ⟨fun h=>⟨by omega,upto_all hJ⟩,fun h=>by have:=h.1; omega⟩)
theorem Value_valid_ok (v : V) : Does Try.prog 160 [] [vD v] (Bo (decide v.ok)) []:=by
 refine does0 c_Z7 mixed (Nat.le_of_ble_eq_true rfl) ?_
 conv=>arg 3; whnf
 repeat' (first|with_reducible refine acc_none ?_ | (conv in hold _=>simp (disch:=omega) only [go_sem])|refine Stp.go ?_|(with_reducible first|refine it_pos rfl ?_|refine it_neg (by decide) ?_|refine st_nil rfl ?_|refine s_op ?_ ?_|exact trivial)|((with_reducible first|refine dw_reg0 ?_|refine dw_regB ?_);(conv=>arg 3;whnf))|(refine Spl.go (fun hq he=>?_) (fun hq he=>?_)<;>first|(exfalso;clear hq;omega)|((try first|(conv=>arg 8;simp only [hq])|(conv=>arg 4;simp only [hq]));clear hq))|((with_reducible first|refine c_split (fun hq=>?_) (fun hq=>?_)|refine q_split (fun hq=>?_) (fun hq=>?_))<;>(try first|(conv=>arg 8;simp only [hq])|(conv=>arg 4;simp only [hq])))|(with_reducible refine fin_0 ?_ (by first|rfl|(conv=>lhs;simp only [go_sem])) ?_)|exact Sub.refl _|omega)
 ·refine sub_iff ?_
  rw [V.ok_iff,beq_iff_eq]
  exact ⟨fun h=>⟨by omega,by omega,fun _=>h⟩,fun h=>h.2.2 hq⟩
 ·refine sub_iff ?_
  rw [V.ok_iff,decide_eq_true_iff]
  exact ⟨fun h=>⟨he,h,fun e=>by rw [hq] at e; cases e⟩,fun h=>h.2.1⟩
 ·exact sub_f (fun h=>he h.lo)
theorem validWidth_ok (w : Int) : Does Try.prog 126 [] [I w] (Bo (decide (1 ≤ w ∧ w ≤ 6))) []:=by
 refine does0 c_Z16 mixed (Nat.le_of_ble_eq_true rfl) ?_
 conv=>arg 3; whnf
 repeat' (first|with_reducible refine acc_none ?_ | (conv in hold _=>simp (disch:=omega) only [go_sem])|refine Stp.go ?_|(with_reducible first|refine it_pos rfl ?_|refine it_neg (by decide) ?_|refine st_nil rfl ?_|refine s_op ?_ ?_|exact trivial)|((with_reducible first|refine dw_reg0 ?_|refine dw_regB ?_);(conv=>arg 3;whnf))|(refine Spl.go (fun hq he=>?_) (fun hq he=>?_)<;>first|(exfalso;clear hq;omega)|((try first|(conv=>arg 8;simp only [hq])|(conv=>arg 4;simp only [hq]));clear hq))|((with_reducible first|refine c_split (fun hq=>?_) (fun hq=>?_)|refine q_split (fun hq=>?_) (fun hq=>?_))<;>(try first|(conv=>arg 8;simp only [hq])|(conv=>arg 4;simp only [hq])))|(with_reducible refine fin_0 ?_ (by first|rfl|(conv=>lhs;simp only [go_sem])) ?_)|exact Sub.refl _|omega)
 ·exact sub_iff (by simp [he])
 ·exact sub_f (fun h=>he h.1)
def valsOk (vs : List V) : Prop:=∀ v,v ∈ vs → v.ok
noncomputable instance valsOkDec (vs : List V) : Decidable (valsOk vs):=Classical.propDecidable _
theorem validValues_ok (vs : List V) (hl : vs.length < 2000000) : Does Try.prog 144 [] [rowD vs] (Bo (decide (valsOk vs))) []:=by
 refine Bg c_Z10 mixed (go1 trivial ?_)
 refine dw_for (c:=0) (l:=fun i=>[(5,rowD vs),(6,I vs.length),(7,I i)]) vs.length (fun i=>∀ j v,j < i → vs[j]? = some v → v.ok) 0 (by omega) (Wk.list [] rfl rfl ?_) (fun i hi hJ=>?_) (Nat.zero_le _)
 ·repeat' (first|(conv in hold _=>simp (disch:=omega) only [go_sem])|exact trivial|exact Sub.refl _|omega)
  exact rfl
 ·rcases at_or_end hi with ⟨v,hv,hlt⟩ | rfl
  ·refine go1 @hv ?_
   refine c_doesE (Value_valid_ok v) ?_ ?_ ?_
   ·((try (conv=>rhs;simp (disch:=omega) only [go_sem])); try rfl)
   ·first|rfl|(conv=>lhs;simp only [go_sem])
   repeat' (first|with_reducible refine acc_none ?_ | (conv in hold _=>simp (disch:=omega) only [go_sem])|refine Stp.go ?_|(with_reducible first|refine it_pos rfl ?_|refine it_neg (by decide) ?_|refine st_nil rfl ?_|refine s_op ?_ ?_|exact trivial)|((with_reducible first|refine dw_reg0 ?_|refine dw_regB ?_);(conv=>arg 3;whnf))|(refine Spl.go (fun hq he=>?_) (fun hq he=>?_)<;>first|(exfalso;clear hq;omega)|((try first|(conv=>arg 8;simp only [hq])|(conv=>arg 4;simp only [hq]));clear hq))|((with_reducible first|refine c_split (fun hq=>?_) (fun hq=>?_)|refine q_split (fun hq=>?_) (fun hq=>?_))<;>(try first|(conv=>arg 8;simp only [hq])|(conv=>arg 4;simp only [hq])))|(with_reducible refine fin_0 ?_ (by first|rfl|(conv=>lhs;simp only [go_sem])) ?_)|exact Sub.refl _|omega)
   ·exact sub_f (fun h=>he (h v (List.mem_of_getElem? hv)))
   ·refine ⟨hlt,upto_next hv hJ he,Wk.list [] rfl rfl ?_⟩
    repeat' (first|(conv in hold _=>simp (disch:=omega) only [go_sem])|exact trivial|exact Sub.refl _|omega)
  ·refine go1 trivial ?_
   exact sub_t (upto_all hJ)
theorem implValidRow_ok (vs : List V) (hl : vs.length < 2000000) : Does Try.prog 127 [] [rowD vs] (Bo (decide (rowOk vs))) []:=by
 have h2:=validValues_ok vs hl
 refine Bg c_Z31 mixed (go1 trivial ?_)
 refine c_doesE (validWidth_ok vs.length) ?_ ?_ ?_
 ·((try (conv=>rhs;simp (disch:=omega) only [go_sem])); try rfl)
 ·first|rfl|(conv=>lhs;simp only [go_sem])
 repeat' (first|with_reducible refine acc_none ?_ | (conv in hold _=>simp (disch:=omega) only [go_sem])|refine Stp.go ?_|(with_reducible first|refine it_pos rfl ?_|refine it_neg (by decide) ?_|refine st_nil rfl ?_|refine s_op ?_ ?_|exact trivial)|((with_reducible first|refine dw_reg0 ?_|refine dw_regB ?_);(conv=>arg 3;whnf))|(refine Spl.go (fun hq he=>?_) (fun hq he=>?_)<;>first|(exfalso;clear hq;omega)|((try first|(conv=>arg 8;simp only [hq])|(conv=>arg 4;simp only [hq]));clear hq))|((with_reducible first|refine c_split (fun hq=>?_) (fun hq=>?_)|refine q_split (fun hq=>?_) (fun hq=>?_))<;>(try first|(conv=>arg 8;simp only [hq])|(conv=>arg 4;simp only [hq])))|(with_reducible refine fin_0 ?_ (by first|rfl|(conv=>lhs;simp only [go_sem])) ?_)|exact Sub.refl _|omega)
 ·refine Uc trivial (h2) (go1 trivial ?_)
  exact sub_iff (by rw [decide_eq_true_iff]; exact ⟨fun h=>⟨by omega,h⟩,fun h=>h.2⟩)
 ·exact sub_f (fun h=>by have:=h.1; omega)
theorem isNaN_ok (x : Int) : Does Try.prog 132 [] [I x] (Bo false) []:=by
 exact Bg c_Z21 mixed (go0 trivial)
theorem Compare_ok (x y : Int) : Does Try.prog 103 [] [I x,I y] (I (if x < y then -1 else if y < x then 1 else 0)) []:=by
 by_cases h : x < y
 ·rw [if_pos h]
  refine Bg c_Z6 mixed (go1 trivial ?_)
  refine Uc trivial (isNaN_ok x) (go1 trivial ?_)
  exact Uc trivial (isNaN_ok y) (go0 trivial)
 ·rw [if_neg h]
  by_cases h' : y < x
  ·rw [if_pos h']
   refine Bg c_Z6 mixed (go1 trivial ?_)
   refine Uc trivial (isNaN_ok x) (go1 trivial ?_)
   exact Uc trivial (isNaN_ok y) (go0 trivial)
  ·rw [if_neg h']
   refine Bg c_Z6 mixed (go1 trivial ?_)
   refine Uc trivial (isNaN_ok x) (go1 trivial ?_)
   exact Uc trivial (isNaN_ok y) (go0 trivial)
end Go.Proofs.Ytedmegmhjmabcaa
