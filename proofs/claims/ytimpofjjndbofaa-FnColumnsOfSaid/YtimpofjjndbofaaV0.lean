/-
  Small functions of the expression seat do what they say.
-/
import Derived.Test.YtimpofjjndbofaaDc0
import Derived.Test.YtimpofjjndbofaaVSem
namespace Go.Proofs.Ytimpofjjndbofaa
open Go.RowKit

theorem does_toInt (b : Bool) : Does Try.prog 82 [] [.v (.bool b)] (.v (.int .i64 (if b then 1 else 0))) [] := by
  refine does0 c_spec_toInt mixed (Nat.le_of_ble_eq_true rfl) ?_
  conv => arg 3; whnf
  repeat' (first
    | with_reducible refine acc_none ?_
    | (conv in hold _ => simp (disch := omega) only [go_sem, Nat.reduceEqDiff, Nat.reduceAdd, Nat.reduceMul, Nat.reduceSub, Nat.reduceLT, Nat.reduceLeDiff, ↓reduceIte, reduceCtorEq, Int.reduceToNat])
    | (with_reducible first | refine dw_seq ?_ | refine dw_block ?_ | refine dw_skip ?_ | refine dw_ret ?_ | refine dw_exit ?_ | refine it_pos rfl ?_ | refine it_neg (by decide) ?_ | refine dw_cond ?_ | refine st_nil0 ?_ | refine st_nil rfl ?_ | refine c_true ?_ | refine c_false ?_ | refine st_one ?_ | refine st_guard ?_ | refine s_call ?_ | refine s_cal ?_ | refine s_inv ?_ | refine s_op ?_ ?_ | refine q_run _ ?_ | refine q_tf ?_ | refine q_ft ?_ | refine q_undef ?_ | exact True.intro)
    | ((with_reducible first | refine dw_reg0 ?_ | refine dw_regB ?_); (conv => arg 3; whnf))
    | ((with_reducible first | refine c_splitP (fun hq he => ?_) (fun hq he => ?_) | refine c_splitE (fun hq he => ?_) (fun hq he => ?_) | refine c_splitN (fun hq he => ?_) (fun hq he => ?_) | refine c_splitQ (fun hq he => ?_) (fun hq he => ?_) | refine q_splitPt (fun hq he => ?_) (fun hq he => ?_) | refine q_splitPf (fun hq he => ?_) (fun hq he => ?_) | refine q_splitEt (fun hq he => ?_) (fun hq he => ?_) | refine q_splitEf (fun hq he => ?_) (fun hq he => ?_) | refine q_splitNt (fun hq he => ?_) (fun hq he => ?_) | refine q_splitNf (fun hq he => ?_) (fun hq he => ?_)) <;> first | (exfalso; clear hq; omega) | ((try (first | (conv => arg 8; simp only [hq]) | (conv => arg 4; simp only [hq]))); clear hq))
    | ((with_reducible first | refine c_split (fun hq => ?_) (fun hq => ?_) | refine q_split (fun hq => ?_) (fun hq => ?_)) <;> (try (first | (conv => arg 8; simp only [hq]) | (conv => arg 4; simp only [hq]))))
    | (with_reducible refine fin_0 ?_ (by first | rfl | (conv => lhs; simp only [go_sem])) ?_)
    | exact Sub.refl _
    | omega)
  · subst hq; exact Sub.refl _
  · subst hq; exact Sub.refl _
theorem does_kidsOf (k : Int) : Does Try.prog 85 [] [I k] (I (kidsN k)) [] := by
  refine does0 c_spec_kidsOf mixed (Nat.le_of_ble_eq_true rfl) ?_
  conv => arg 3; whnf
  repeat' (first
    | with_reducible refine acc_none ?_
    | (conv in hold _ => simp (disch := omega) only [go_sem, Nat.reduceEqDiff, Nat.reduceAdd, Nat.reduceMul, Nat.reduceSub, Nat.reduceLT, Nat.reduceLeDiff, ↓reduceIte, reduceCtorEq, Int.reduceToNat])
    | (with_reducible first | refine dw_seq ?_ | refine dw_block ?_ | refine dw_skip ?_ | refine dw_ret ?_ | refine dw_exit ?_ | refine it_pos rfl ?_ | refine it_neg (by decide) ?_ | refine dw_cond ?_ | refine st_nil0 ?_ | refine st_nil rfl ?_ | refine c_true ?_ | refine c_false ?_ | refine st_one ?_ | refine st_guard ?_ | refine s_call ?_ | refine s_cal ?_ | refine s_inv ?_ | refine s_op ?_ ?_ | refine q_run _ ?_ | refine q_tf ?_ | refine q_ft ?_ | refine q_undef ?_ | exact True.intro)
    | ((with_reducible first | refine dw_reg0 ?_ | refine dw_regB ?_); (conv => arg 3; whnf))
    | ((with_reducible first | refine c_splitP (fun hq he => ?_) (fun hq he => ?_) | refine c_splitE (fun hq he => ?_) (fun hq he => ?_) | refine c_splitN (fun hq he => ?_) (fun hq he => ?_) | refine c_splitQ (fun hq he => ?_) (fun hq he => ?_) | refine q_splitPt (fun hq he => ?_) (fun hq he => ?_) | refine q_splitPf (fun hq he => ?_) (fun hq he => ?_) | refine q_splitEt (fun hq he => ?_) (fun hq he => ?_) | refine q_splitEf (fun hq he => ?_) (fun hq he => ?_) | refine q_splitNt (fun hq he => ?_) (fun hq he => ?_) | refine q_splitNf (fun hq he => ?_) (fun hq he => ?_)) <;> first | (exfalso; clear hq; omega) | ((try (first | (conv => arg 8; simp only [hq]) | (conv => arg 4; simp only [hq]))); clear hq))
    | ((with_reducible first | refine c_split (fun hq => ?_) (fun hq => ?_) | refine q_split (fun hq => ?_) (fun hq => ?_)) <;> (try (first | (conv => arg 8; simp only [hq]) | (conv => arg 4; simp only [hq]))))
    | (with_reducible refine fin_0 ?_ (by first | rfl | (conv => lhs; simp only [go_sem])) ?_)
    | exact Sub.refl _
    | omega)
  all_goals (refine Sub.of_eq ?_; unfold kidsN; congr 2; omega)
end Go.Proofs.Ytimpofjjndbofaa
