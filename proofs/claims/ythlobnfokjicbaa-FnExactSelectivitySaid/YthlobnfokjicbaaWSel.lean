/-
  The exact law of Selectivity. No condition.
-/
import Derived.Test.YthlobnfokjicbaaVSelB
set_option maxHeartbeats 4000000
set_option maxRecDepth 100000
namespace Go.Proofs.Ythlobnfokjicbaa
open Go.RowKit

theorem Selectivity_ok (e : E) (s : St) (hd : s.ds.length ≤ 1048576) : ∃ n : Int, Does Try.prog 37 [] [eD e, stD s] (I n) [] ∧ Does Try.prog 38 [] [eD e, stD s] (I n) [] := by
  have h1 := ValidStats_spec s s.ds.length
  have h2 := ValidStats_impl s s.ds.length
  by_cases hs : (1 ≤ (s.ds.length : Int) ∧ (s.ds.length : Int) ≤ 6) ∧ stIn s s.ds.length
  · rw [decide_eq_true hs] at h1 h2
    have h3 := ValidExpr_ok e s.ds.length (by omega)
    have h4 := implValidExpr_ok e s.ds.length
    by_cases he : eOk e s.ds.length 8
    · rw [decide_eq_true ⟨hs.1, he⟩] at h3 h4
      obtain ⟨n, _, hA, hB⟩ := sel_ok hs.2 e 8 he
      refine ⟨n, ?_, ?_⟩
      · refine does0 c_spec_Selectivity mixed (Nat.le_of_ble_eq_true rfl) ?_
        conv => arg 3; whnf
        repeat' (first
          | with_reducible refine acc_none ?_
          | (conv in hold _ => simp (disch := omega) only [go_sem, Nat.reduceEqDiff, Nat.reduceAdd, Nat.reduceMul, Nat.reduceSub, Nat.reduceLT, Nat.reduceLeDiff, ↓reduceIte, reduceCtorEq, Int.reduceToNat, stD, intsD])
          | refine Stp.go ?_
          | with_reducible first | refine it_pos rfl ?_ | refine it_neg (by decide) ?_ | refine st_nil rfl ?_ | refine s_op ?_ ?_ | exact True.intro
          | ((with_reducible first | refine dw_reg0 ?_ | refine dw_regB ?_); (conv => arg 3; whnf))
          | (refine Spl.go (fun hq he => ?_) (fun hq he => ?_) <;> first | (exfalso; clear hq; omega) | ((try (first | (conv => arg 8; simp only [hq]) | (conv => arg 4; simp only [hq]))); clear hq))
          | ((with_reducible first | refine c_split (fun hq => ?_) (fun hq => ?_) | refine q_split (fun hq => ?_) (fun hq => ?_)) <;> (try (first | (conv => arg 8; simp only [hq]) | (conv => arg 4; simp only [hq]))))
          | (with_reducible refine fin_0 ?_ (by first | rfl | (conv => lhs; simp only [go_sem, stD, intsD])) ?_)
          | exact Sub.refl _
          | omega)
        refine c_doesE (h1) ?_ ?_ ?_
        · ((try (conv => rhs; simp (disch := omega) only [go_sem, Nat.reduceEqDiff, Nat.reduceAdd, Nat.reduceMul, Nat.reduceSub, Nat.reduceLT, Nat.reduceLeDiff, ↓reduceIte, reduceCtorEq, Int.reduceToNat, stD, intsD])); try rfl)
        · first | rfl | (conv => lhs; simp only [go_sem, stD, intsD])
        repeat' (first
          | with_reducible refine acc_none ?_
          | (conv in hold _ => simp (disch := omega) only [go_sem, Nat.reduceEqDiff, Nat.reduceAdd, Nat.reduceMul, Nat.reduceSub, Nat.reduceLT, Nat.reduceLeDiff, ↓reduceIte, reduceCtorEq, Int.reduceToNat, stD, intsD])
          | refine Stp.go ?_
          | with_reducible first | refine it_pos rfl ?_ | refine it_neg (by decide) ?_ | refine st_nil rfl ?_ | refine s_op ?_ ?_ | exact True.intro
          | ((with_reducible first | refine dw_reg0 ?_ | refine dw_regB ?_); (conv => arg 3; whnf))
          | (refine Spl.go (fun hq he => ?_) (fun hq he => ?_) <;> first | (exfalso; clear hq; omega) | ((try (first | (conv => arg 8; simp only [hq]) | (conv => arg 4; simp only [hq]))); clear hq))
          | ((with_reducible first | refine c_split (fun hq => ?_) (fun hq => ?_) | refine q_split (fun hq => ?_) (fun hq => ?_)) <;> (try (first | (conv => arg 8; simp only [hq]) | (conv => arg 4; simp only [hq]))))
          | (with_reducible refine fin_0 ?_ (by first | rfl | (conv => lhs; simp only [go_sem, stD, intsD])) ?_)
          | exact Sub.refl _
          | omega)
        refine c_doesE (h3) ?_ ?_ ?_
        · ((try (conv => rhs; simp (disch := omega) only [go_sem, Nat.reduceEqDiff, Nat.reduceAdd, Nat.reduceMul, Nat.reduceSub, Nat.reduceLT, Nat.reduceLeDiff, ↓reduceIte, reduceCtorEq, Int.reduceToNat, stD, intsD])); try rfl)
        · first | rfl | (conv => lhs; simp only [go_sem, stD, intsD])
        repeat' (first
          | with_reducible refine acc_none ?_
          | (conv in hold _ => simp (disch := omega) only [go_sem, Nat.reduceEqDiff, Nat.reduceAdd, Nat.reduceMul, Nat.reduceSub, Nat.reduceLT, Nat.reduceLeDiff, ↓reduceIte, reduceCtorEq, Int.reduceToNat, stD, intsD])
          | refine Stp.go ?_
          | with_reducible first | refine it_pos rfl ?_ | refine it_neg (by decide) ?_ | refine st_nil rfl ?_ | refine s_op ?_ ?_ | exact True.intro
          | ((with_reducible first | refine dw_reg0 ?_ | refine dw_regB ?_); (conv => arg 3; whnf))
          | (refine Spl.go (fun hq he => ?_) (fun hq he => ?_) <;> first | (exfalso; clear hq; omega) | ((try (first | (conv => arg 8; simp only [hq]) | (conv => arg 4; simp only [hq]))); clear hq))
          | ((with_reducible first | refine c_split (fun hq => ?_) (fun hq => ?_) | refine q_split (fun hq => ?_) (fun hq => ?_)) <;> (try (first | (conv => arg 8; simp only [hq]) | (conv => arg 4; simp only [hq]))))
          | (with_reducible refine fin_0 ?_ (by first | rfl | (conv => lhs; simp only [go_sem, stD, intsD])) ?_)
          | exact Sub.refl _
          | omega)
        refine c_doesE (hA) ?_ ?_ ?_
        · ((try (conv => rhs; simp (disch := omega) only [go_sem, Nat.reduceEqDiff, Nat.reduceAdd, Nat.reduceMul, Nat.reduceSub, Nat.reduceLT, Nat.reduceLeDiff, ↓reduceIte, reduceCtorEq, Int.reduceToNat, stD, intsD])); try rfl)
        · first | rfl | (conv => lhs; simp only [go_sem, stD, intsD])
        repeat' (first
          | with_reducible refine acc_none ?_
          | (conv in hold _ => simp (disch := omega) only [go_sem, Nat.reduceEqDiff, Nat.reduceAdd, Nat.reduceMul, Nat.reduceSub, Nat.reduceLT, Nat.reduceLeDiff, ↓reduceIte, reduceCtorEq, Int.reduceToNat, stD, intsD])
          | refine Stp.go ?_
          | with_reducible first | refine it_pos rfl ?_ | refine it_neg (by decide) ?_ | refine st_nil rfl ?_ | refine s_op ?_ ?_ | exact True.intro
          | ((with_reducible first | refine dw_reg0 ?_ | refine dw_regB ?_); (conv => arg 3; whnf))
          | (refine Spl.go (fun hq he => ?_) (fun hq he => ?_) <;> first | (exfalso; clear hq; omega) | ((try (first | (conv => arg 8; simp only [hq]) | (conv => arg 4; simp only [hq]))); clear hq))
          | ((with_reducible first | refine c_split (fun hq => ?_) (fun hq => ?_) | refine q_split (fun hq => ?_) (fun hq => ?_)) <;> (try (first | (conv => arg 8; simp only [hq]) | (conv => arg 4; simp only [hq]))))
          | (with_reducible refine fin_0 ?_ (by first | rfl | (conv => lhs; simp only [go_sem, stD, intsD])) ?_)
          | exact Sub.refl _
          | omega)
      · refine does0 c_impl_Selectivity mixed (Nat.le_of_ble_eq_true rfl) ?_
        conv => arg 3; whnf
        repeat' (first
          | with_reducible refine acc_none ?_
          | (conv in hold _ => simp (disch := omega) only [go_sem, Nat.reduceEqDiff, Nat.reduceAdd, Nat.reduceMul, Nat.reduceSub, Nat.reduceLT, Nat.reduceLeDiff, ↓reduceIte, reduceCtorEq, Int.reduceToNat, stD, intsD])
          | refine Stp.go ?_
          | with_reducible first | refine it_pos rfl ?_ | refine it_neg (by decide) ?_ | refine st_nil rfl ?_ | refine s_op ?_ ?_ | exact True.intro
          | ((with_reducible first | refine dw_reg0 ?_ | refine dw_regB ?_); (conv => arg 3; whnf))
          | (refine Spl.go (fun hq he => ?_) (fun hq he => ?_) <;> first | (exfalso; clear hq; omega) | ((try (first | (conv => arg 8; simp only [hq]) | (conv => arg 4; simp only [hq]))); clear hq))
          | ((with_reducible first | refine c_split (fun hq => ?_) (fun hq => ?_) | refine q_split (fun hq => ?_) (fun hq => ?_)) <;> (try (first | (conv => arg 8; simp only [hq]) | (conv => arg 4; simp only [hq]))))
          | (with_reducible refine fin_0 ?_ (by first | rfl | (conv => lhs; simp only [go_sem, stD, intsD])) ?_)
          | exact Sub.refl _
          | omega)
        refine c_doesE (h2) ?_ ?_ ?_
        · ((try (conv => rhs; simp (disch := omega) only [go_sem, Nat.reduceEqDiff, Nat.reduceAdd, Nat.reduceMul, Nat.reduceSub, Nat.reduceLT, Nat.reduceLeDiff, ↓reduceIte, reduceCtorEq, Int.reduceToNat, stD, intsD])); try rfl)
        · first | rfl | (conv => lhs; simp only [go_sem, stD, intsD])
        repeat' (first
          | with_reducible refine acc_none ?_
          | (conv in hold _ => simp (disch := omega) only [go_sem, Nat.reduceEqDiff, Nat.reduceAdd, Nat.reduceMul, Nat.reduceSub, Nat.reduceLT, Nat.reduceLeDiff, ↓reduceIte, reduceCtorEq, Int.reduceToNat, stD, intsD])
          | refine Stp.go ?_
          | with_reducible first | refine it_pos rfl ?_ | refine it_neg (by decide) ?_ | refine st_nil rfl ?_ | refine s_op ?_ ?_ | exact True.intro
          | ((with_reducible first | refine dw_reg0 ?_ | refine dw_regB ?_); (conv => arg 3; whnf))
          | (refine Spl.go (fun hq he => ?_) (fun hq he => ?_) <;> first | (exfalso; clear hq; omega) | ((try (first | (conv => arg 8; simp only [hq]) | (conv => arg 4; simp only [hq]))); clear hq))
          | ((with_reducible first | refine c_split (fun hq => ?_) (fun hq => ?_) | refine q_split (fun hq => ?_) (fun hq => ?_)) <;> (try (first | (conv => arg 8; simp only [hq]) | (conv => arg 4; simp only [hq]))))
          | (with_reducible refine fin_0 ?_ (by first | rfl | (conv => lhs; simp only [go_sem, stD, intsD])) ?_)
          | exact Sub.refl _
          | omega)
        refine c_doesE (h4) ?_ ?_ ?_
        · ((try (conv => rhs; simp (disch := omega) only [go_sem, Nat.reduceEqDiff, Nat.reduceAdd, Nat.reduceMul, Nat.reduceSub, Nat.reduceLT, Nat.reduceLeDiff, ↓reduceIte, reduceCtorEq, Int.reduceToNat, stD, intsD])); try rfl)
        · first | rfl | (conv => lhs; simp only [go_sem, stD, intsD])
        repeat' (first
          | with_reducible refine acc_none ?_
          | (conv in hold _ => simp (disch := omega) only [go_sem, Nat.reduceEqDiff, Nat.reduceAdd, Nat.reduceMul, Nat.reduceSub, Nat.reduceLT, Nat.reduceLeDiff, ↓reduceIte, reduceCtorEq, Int.reduceToNat, stD, intsD])
          | refine Stp.go ?_
          | with_reducible first | refine it_pos rfl ?_ | refine it_neg (by decide) ?_ | refine st_nil rfl ?_ | refine s_op ?_ ?_ | exact True.intro
          | ((with_reducible first | refine dw_reg0 ?_ | refine dw_regB ?_); (conv => arg 3; whnf))
          | (refine Spl.go (fun hq he => ?_) (fun hq he => ?_) <;> first | (exfalso; clear hq; omega) | ((try (first | (conv => arg 8; simp only [hq]) | (conv => arg 4; simp only [hq]))); clear hq))
          | ((with_reducible first | refine c_split (fun hq => ?_) (fun hq => ?_) | refine q_split (fun hq => ?_) (fun hq => ?_)) <;> (try (first | (conv => arg 8; simp only [hq]) | (conv => arg 4; simp only [hq]))))
          | (with_reducible refine fin_0 ?_ (by first | rfl | (conv => lhs; simp only [go_sem, stD, intsD])) ?_)
          | exact Sub.refl _
          | omega)
        refine c_doesE (hB) ?_ ?_ ?_
        · ((try (conv => rhs; simp (disch := omega) only [go_sem, Nat.reduceEqDiff, Nat.reduceAdd, Nat.reduceMul, Nat.reduceSub, Nat.reduceLT, Nat.reduceLeDiff, ↓reduceIte, reduceCtorEq, Int.reduceToNat, stD, intsD])); try rfl)
        · first | rfl | (conv => lhs; simp only [go_sem, stD, intsD])
        repeat' (first
          | with_reducible refine acc_none ?_
          | (conv in hold _ => simp (disch := omega) only [go_sem, Nat.reduceEqDiff, Nat.reduceAdd, Nat.reduceMul, Nat.reduceSub, Nat.reduceLT, Nat.reduceLeDiff, ↓reduceIte, reduceCtorEq, Int.reduceToNat, stD, intsD])
          | refine Stp.go ?_
          | with_reducible first | refine it_pos rfl ?_ | refine it_neg (by decide) ?_ | refine st_nil rfl ?_ | refine s_op ?_ ?_ | exact True.intro
          | ((with_reducible first | refine dw_reg0 ?_ | refine dw_regB ?_); (conv => arg 3; whnf))
          | (refine Spl.go (fun hq he => ?_) (fun hq he => ?_) <;> first | (exfalso; clear hq; omega) | ((try (first | (conv => arg 8; simp only [hq]) | (conv => arg 4; simp only [hq]))); clear hq))
          | ((with_reducible first | refine c_split (fun hq => ?_) (fun hq => ?_) | refine q_split (fun hq => ?_) (fun hq => ?_)) <;> (try (first | (conv => arg 8; simp only [hq]) | (conv => arg 4; simp only [hq]))))
          | (with_reducible refine fin_0 ?_ (by first | rfl | (conv => lhs; simp only [go_sem, stD, intsD])) ?_)
          | exact Sub.refl _
          | omega)
    · rw [decide_eq_false (fun h => he h.2)] at h3 h4
      refine ⟨-1, ?_, ?_⟩
      · refine does0 c_spec_Selectivity mixed (Nat.le_of_ble_eq_true rfl) ?_
        conv => arg 3; whnf
        repeat' (first
          | with_reducible refine acc_none ?_
          | (conv in hold _ => simp (disch := omega) only [go_sem, Nat.reduceEqDiff, Nat.reduceAdd, Nat.reduceMul, Nat.reduceSub, Nat.reduceLT, Nat.reduceLeDiff, ↓reduceIte, reduceCtorEq, Int.reduceToNat, stD, intsD])
          | refine Stp.go ?_
          | with_reducible first | refine it_pos rfl ?_ | refine it_neg (by decide) ?_ | refine st_nil rfl ?_ | refine s_op ?_ ?_ | exact True.intro
          | ((with_reducible first | refine dw_reg0 ?_ | refine dw_regB ?_); (conv => arg 3; whnf))
          | (refine Spl.go (fun hq he => ?_) (fun hq he => ?_) <;> first | (exfalso; clear hq; omega) | ((try (first | (conv => arg 8; simp only [hq]) | (conv => arg 4; simp only [hq]))); clear hq))
          | ((with_reducible first | refine c_split (fun hq => ?_) (fun hq => ?_) | refine q_split (fun hq => ?_) (fun hq => ?_)) <;> (try (first | (conv => arg 8; simp only [hq]) | (conv => arg 4; simp only [hq]))))
          | (with_reducible refine fin_0 ?_ (by first | rfl | (conv => lhs; simp only [go_sem, stD, intsD])) ?_)
          | exact Sub.refl _
          | omega)
        refine c_doesE (h1) ?_ ?_ ?_
        · ((try (conv => rhs; simp (disch := omega) only [go_sem, Nat.reduceEqDiff, Nat.reduceAdd, Nat.reduceMul, Nat.reduceSub, Nat.reduceLT, Nat.reduceLeDiff, ↓reduceIte, reduceCtorEq, Int.reduceToNat, stD, intsD])); try rfl)
        · first | rfl | (conv => lhs; simp only [go_sem, stD, intsD])
        repeat' (first
          | with_reducible refine acc_none ?_
          | (conv in hold _ => simp (disch := omega) only [go_sem, Nat.reduceEqDiff, Nat.reduceAdd, Nat.reduceMul, Nat.reduceSub, Nat.reduceLT, Nat.reduceLeDiff, ↓reduceIte, reduceCtorEq, Int.reduceToNat, stD, intsD])
          | refine Stp.go ?_
          | with_reducible first | refine it_pos rfl ?_ | refine it_neg (by decide) ?_ | refine st_nil rfl ?_ | refine s_op ?_ ?_ | exact True.intro
          | ((with_reducible first | refine dw_reg0 ?_ | refine dw_regB ?_); (conv => arg 3; whnf))
          | (refine Spl.go (fun hq he => ?_) (fun hq he => ?_) <;> first | (exfalso; clear hq; omega) | ((try (first | (conv => arg 8; simp only [hq]) | (conv => arg 4; simp only [hq]))); clear hq))
          | ((with_reducible first | refine c_split (fun hq => ?_) (fun hq => ?_) | refine q_split (fun hq => ?_) (fun hq => ?_)) <;> (try (first | (conv => arg 8; simp only [hq]) | (conv => arg 4; simp only [hq]))))
          | (with_reducible refine fin_0 ?_ (by first | rfl | (conv => lhs; simp only [go_sem, stD, intsD])) ?_)
          | exact Sub.refl _
          | omega)
        refine c_doesE (h3) ?_ ?_ ?_
        · ((try (conv => rhs; simp (disch := omega) only [go_sem, Nat.reduceEqDiff, Nat.reduceAdd, Nat.reduceMul, Nat.reduceSub, Nat.reduceLT, Nat.reduceLeDiff, ↓reduceIte, reduceCtorEq, Int.reduceToNat, stD, intsD])); try rfl)
        · first | rfl | (conv => lhs; simp only [go_sem, stD, intsD])
        repeat' (first
          | with_reducible refine acc_none ?_
          | (conv in hold _ => simp (disch := omega) only [go_sem, Nat.reduceEqDiff, Nat.reduceAdd, Nat.reduceMul, Nat.reduceSub, Nat.reduceLT, Nat.reduceLeDiff, ↓reduceIte, reduceCtorEq, Int.reduceToNat, stD, intsD])
          | refine Stp.go ?_
          | with_reducible first | refine it_pos rfl ?_ | refine it_neg (by decide) ?_ | refine st_nil rfl ?_ | refine s_op ?_ ?_ | exact True.intro
          | ((with_reducible first | refine dw_reg0 ?_ | refine dw_regB ?_); (conv => arg 3; whnf))
          | (refine Spl.go (fun hq he => ?_) (fun hq he => ?_) <;> first | (exfalso; clear hq; omega) | ((try (first | (conv => arg 8; simp only [hq]) | (conv => arg 4; simp only [hq]))); clear hq))
          | ((with_reducible first | refine c_split (fun hq => ?_) (fun hq => ?_) | refine q_split (fun hq => ?_) (fun hq => ?_)) <;> (try (first | (conv => arg 8; simp only [hq]) | (conv => arg 4; simp only [hq]))))
          | (with_reducible refine fin_0 ?_ (by first | rfl | (conv => lhs; simp only [go_sem, stD, intsD])) ?_)
          | exact Sub.refl _
          | omega)
      · refine does0 c_impl_Selectivity mixed (Nat.le_of_ble_eq_true rfl) ?_
        conv => arg 3; whnf
        repeat' (first
          | with_reducible refine acc_none ?_
          | (conv in hold _ => simp (disch := omega) only [go_sem, Nat.reduceEqDiff, Nat.reduceAdd, Nat.reduceMul, Nat.reduceSub, Nat.reduceLT, Nat.reduceLeDiff, ↓reduceIte, reduceCtorEq, Int.reduceToNat, stD, intsD])
          | refine Stp.go ?_
          | with_reducible first | refine it_pos rfl ?_ | refine it_neg (by decide) ?_ | refine st_nil rfl ?_ | refine s_op ?_ ?_ | exact True.intro
          | ((with_reducible first | refine dw_reg0 ?_ | refine dw_regB ?_); (conv => arg 3; whnf))
          | (refine Spl.go (fun hq he => ?_) (fun hq he => ?_) <;> first | (exfalso; clear hq; omega) | ((try (first | (conv => arg 8; simp only [hq]) | (conv => arg 4; simp only [hq]))); clear hq))
          | ((with_reducible first | refine c_split (fun hq => ?_) (fun hq => ?_) | refine q_split (fun hq => ?_) (fun hq => ?_)) <;> (try (first | (conv => arg 8; simp only [hq]) | (conv => arg 4; simp only [hq]))))
          | (with_reducible refine fin_0 ?_ (by first | rfl | (conv => lhs; simp only [go_sem, stD, intsD])) ?_)
          | exact Sub.refl _
          | omega)
        refine c_doesE (h2) ?_ ?_ ?_
        · ((try (conv => rhs; simp (disch := omega) only [go_sem, Nat.reduceEqDiff, Nat.reduceAdd, Nat.reduceMul, Nat.reduceSub, Nat.reduceLT, Nat.reduceLeDiff, ↓reduceIte, reduceCtorEq, Int.reduceToNat, stD, intsD])); try rfl)
        · first | rfl | (conv => lhs; simp only [go_sem, stD, intsD])
        repeat' (first
          | with_reducible refine acc_none ?_
          | (conv in hold _ => simp (disch := omega) only [go_sem, Nat.reduceEqDiff, Nat.reduceAdd, Nat.reduceMul, Nat.reduceSub, Nat.reduceLT, Nat.reduceLeDiff, ↓reduceIte, reduceCtorEq, Int.reduceToNat, stD, intsD])
          | refine Stp.go ?_
          | with_reducible first | refine it_pos rfl ?_ | refine it_neg (by decide) ?_ | refine st_nil rfl ?_ | refine s_op ?_ ?_ | exact True.intro
          | ((with_reducible first | refine dw_reg0 ?_ | refine dw_regB ?_); (conv => arg 3; whnf))
          | (refine Spl.go (fun hq he => ?_) (fun hq he => ?_) <;> first | (exfalso; clear hq; omega) | ((try (first | (conv => arg 8; simp only [hq]) | (conv => arg 4; simp only [hq]))); clear hq))
          | ((with_reducible first | refine c_split (fun hq => ?_) (fun hq => ?_) | refine q_split (fun hq => ?_) (fun hq => ?_)) <;> (try (first | (conv => arg 8; simp only [hq]) | (conv => arg 4; simp only [hq]))))
          | (with_reducible refine fin_0 ?_ (by first | rfl | (conv => lhs; simp only [go_sem, stD, intsD])) ?_)
          | exact Sub.refl _
          | omega)
        refine c_doesE (h4) ?_ ?_ ?_
        · ((try (conv => rhs; simp (disch := omega) only [go_sem, Nat.reduceEqDiff, Nat.reduceAdd, Nat.reduceMul, Nat.reduceSub, Nat.reduceLT, Nat.reduceLeDiff, ↓reduceIte, reduceCtorEq, Int.reduceToNat, stD, intsD])); try rfl)
        · first | rfl | (conv => lhs; simp only [go_sem, stD, intsD])
        repeat' (first
          | with_reducible refine acc_none ?_
          | (conv in hold _ => simp (disch := omega) only [go_sem, Nat.reduceEqDiff, Nat.reduceAdd, Nat.reduceMul, Nat.reduceSub, Nat.reduceLT, Nat.reduceLeDiff, ↓reduceIte, reduceCtorEq, Int.reduceToNat, stD, intsD])
          | refine Stp.go ?_
          | with_reducible first | refine it_pos rfl ?_ | refine it_neg (by decide) ?_ | refine st_nil rfl ?_ | refine s_op ?_ ?_ | exact True.intro
          | ((with_reducible first | refine dw_reg0 ?_ | refine dw_regB ?_); (conv => arg 3; whnf))
          | (refine Spl.go (fun hq he => ?_) (fun hq he => ?_) <;> first | (exfalso; clear hq; omega) | ((try (first | (conv => arg 8; simp only [hq]) | (conv => arg 4; simp only [hq]))); clear hq))
          | ((with_reducible first | refine c_split (fun hq => ?_) (fun hq => ?_) | refine q_split (fun hq => ?_) (fun hq => ?_)) <;> (try (first | (conv => arg 8; simp only [hq]) | (conv => arg 4; simp only [hq]))))
          | (with_reducible refine fin_0 ?_ (by first | rfl | (conv => lhs; simp only [go_sem, stD, intsD])) ?_)
          | exact Sub.refl _
          | omega)
  · rw [decide_eq_false hs] at h1 h2
    refine ⟨-1, ?_, ?_⟩
    · refine does0 c_spec_Selectivity mixed (Nat.le_of_ble_eq_true rfl) ?_
      conv => arg 3; whnf
      repeat' (first
        | with_reducible refine acc_none ?_
        | (conv in hold _ => simp (disch := omega) only [go_sem, Nat.reduceEqDiff, Nat.reduceAdd, Nat.reduceMul, Nat.reduceSub, Nat.reduceLT, Nat.reduceLeDiff, ↓reduceIte, reduceCtorEq, Int.reduceToNat, stD, intsD])
        | refine Stp.go ?_
        | with_reducible first | refine it_pos rfl ?_ | refine it_neg (by decide) ?_ | refine st_nil rfl ?_ | refine s_op ?_ ?_ | exact True.intro
        | ((with_reducible first | refine dw_reg0 ?_ | refine dw_regB ?_); (conv => arg 3; whnf))
        | (refine Spl.go (fun hq he => ?_) (fun hq he => ?_) <;> first | (exfalso; clear hq; omega) | ((try (first | (conv => arg 8; simp only [hq]) | (conv => arg 4; simp only [hq]))); clear hq))
        | ((with_reducible first | refine c_split (fun hq => ?_) (fun hq => ?_) | refine q_split (fun hq => ?_) (fun hq => ?_)) <;> (try (first | (conv => arg 8; simp only [hq]) | (conv => arg 4; simp only [hq]))))
        | (with_reducible refine fin_0 ?_ (by first | rfl | (conv => lhs; simp only [go_sem, stD, intsD])) ?_)
        | exact Sub.refl _
        | omega)
      refine c_doesE (h1) ?_ ?_ ?_
      · ((try (conv => rhs; simp (disch := omega) only [go_sem, Nat.reduceEqDiff, Nat.reduceAdd, Nat.reduceMul, Nat.reduceSub, Nat.reduceLT, Nat.reduceLeDiff, ↓reduceIte, reduceCtorEq, Int.reduceToNat, stD, intsD])); try rfl)
      · first | rfl | (conv => lhs; simp only [go_sem, stD, intsD])
      repeat' (first
        | with_reducible refine acc_none ?_
        | (conv in hold _ => simp (disch := omega) only [go_sem, Nat.reduceEqDiff, Nat.reduceAdd, Nat.reduceMul, Nat.reduceSub, Nat.reduceLT, Nat.reduceLeDiff, ↓reduceIte, reduceCtorEq, Int.reduceToNat, stD, intsD])
        | refine Stp.go ?_
        | with_reducible first | refine it_pos rfl ?_ | refine it_neg (by decide) ?_ | refine st_nil rfl ?_ | refine s_op ?_ ?_ | exact True.intro
        | ((with_reducible first | refine dw_reg0 ?_ | refine dw_regB ?_); (conv => arg 3; whnf))
        | (refine Spl.go (fun hq he => ?_) (fun hq he => ?_) <;> first | (exfalso; clear hq; omega) | ((try (first | (conv => arg 8; simp only [hq]) | (conv => arg 4; simp only [hq]))); clear hq))
        | ((with_reducible first | refine c_split (fun hq => ?_) (fun hq => ?_) | refine q_split (fun hq => ?_) (fun hq => ?_)) <;> (try (first | (conv => arg 8; simp only [hq]) | (conv => arg 4; simp only [hq]))))
        | (with_reducible refine fin_0 ?_ (by first | rfl | (conv => lhs; simp only [go_sem, stD, intsD])) ?_)
        | exact Sub.refl _
        | omega)
    · refine does0 c_impl_Selectivity mixed (Nat.le_of_ble_eq_true rfl) ?_
      conv => arg 3; whnf
      repeat' (first
        | with_reducible refine acc_none ?_
        | (conv in hold _ => simp (disch := omega) only [go_sem, Nat.reduceEqDiff, Nat.reduceAdd, Nat.reduceMul, Nat.reduceSub, Nat.reduceLT, Nat.reduceLeDiff, ↓reduceIte, reduceCtorEq, Int.reduceToNat, stD, intsD])
        | refine Stp.go ?_
        | with_reducible first | refine it_pos rfl ?_ | refine it_neg (by decide) ?_ | refine st_nil rfl ?_ | refine s_op ?_ ?_ | exact True.intro
        | ((with_reducible first | refine dw_reg0 ?_ | refine dw_regB ?_); (conv => arg 3; whnf))
        | (refine Spl.go (fun hq he => ?_) (fun hq he => ?_) <;> first | (exfalso; clear hq; omega) | ((try (first | (conv => arg 8; simp only [hq]) | (conv => arg 4; simp only [hq]))); clear hq))
        | ((with_reducible first | refine c_split (fun hq => ?_) (fun hq => ?_) | refine q_split (fun hq => ?_) (fun hq => ?_)) <;> (try (first | (conv => arg 8; simp only [hq]) | (conv => arg 4; simp only [hq]))))
        | (with_reducible refine fin_0 ?_ (by first | rfl | (conv => lhs; simp only [go_sem, stD, intsD])) ?_)
        | exact Sub.refl _
        | omega)
      refine c_doesE (h2) ?_ ?_ ?_
      · ((try (conv => rhs; simp (disch := omega) only [go_sem, Nat.reduceEqDiff, Nat.reduceAdd, Nat.reduceMul, Nat.reduceSub, Nat.reduceLT, Nat.reduceLeDiff, ↓reduceIte, reduceCtorEq, Int.reduceToNat, stD, intsD])); try rfl)
      · first | rfl | (conv => lhs; simp only [go_sem, stD, intsD])
      repeat' (first
        | with_reducible refine acc_none ?_
        | (conv in hold _ => simp (disch := omega) only [go_sem, Nat.reduceEqDiff, Nat.reduceAdd, Nat.reduceMul, Nat.reduceSub, Nat.reduceLT, Nat.reduceLeDiff, ↓reduceIte, reduceCtorEq, Int.reduceToNat, stD, intsD])
        | refine Stp.go ?_
        | with_reducible first | refine it_pos rfl ?_ | refine it_neg (by decide) ?_ | refine st_nil rfl ?_ | refine s_op ?_ ?_ | exact True.intro
        | ((with_reducible first | refine dw_reg0 ?_ | refine dw_regB ?_); (conv => arg 3; whnf))
        | (refine Spl.go (fun hq he => ?_) (fun hq he => ?_) <;> first | (exfalso; clear hq; omega) | ((try (first | (conv => arg 8; simp only [hq]) | (conv => arg 4; simp only [hq]))); clear hq))
        | ((with_reducible first | refine c_split (fun hq => ?_) (fun hq => ?_) | refine q_split (fun hq => ?_) (fun hq => ?_)) <;> (try (first | (conv => arg 8; simp only [hq]) | (conv => arg 4; simp only [hq]))))
        | (with_reducible refine fin_0 ?_ (by first | rfl | (conv => lhs; simp only [go_sem, stD, intsD])) ?_)
        | exact Sub.refl _
        | omega)
theorem does_FnExactSelectivity (e : E) (he : Most e) (s : St) (hm : s.most) : Does Try.prog 9 [] [eD e, stD s] (Bo true) [] := by
  have hz := szExpr_ok e he 1048576 (by decide) (by decide)
  have hee := esz_eq e
  by_cases hf : (eszL e.ks : Int) ≤ 1048576
  · rw [szV_t hf] at hz
    have hy := szStats_ok s hm (1048576 - eszL e.ks) (by omega) (by omega)
    by_cases hg : ((s.ds.length + s.ns.length : Nat) : Int) ≤ 1048576 - eszL e.ks
    · rw [szV_t hg] at hy
      have h1 := toExpr_ok e (by omega)
      have h2 := toStats_ok s (by omega) (by omega)
      obtain ⟨n, h3, h4⟩ := Selectivity_ok e s (by omega)
      have h5 := eqExpr_ok e (by omega)
      have h6 := eqStats_ok s (by omega) (by omega)
      refine does0 c_laws_FnExactSelectivity mixed (Nat.le_of_ble_eq_true rfl) ?_
      conv => arg 3; whnf
      repeat' (first
        | with_reducible refine acc_none ?_
        | (conv in hold _ => simp (disch := omega) only [go_sem, Nat.reduceEqDiff, Nat.reduceAdd, Nat.reduceMul, Nat.reduceSub, Nat.reduceLT, Nat.reduceLeDiff, ↓reduceIte, reduceCtorEq, Int.reduceToNat, stD, intsD, beq_self_eq_true, bne_self_eq_false])
        | refine Stp.go ?_
        | with_reducible first | refine it_pos rfl ?_ | refine it_neg (by decide) ?_ | refine st_nil rfl ?_ | refine s_op ?_ ?_ | exact True.intro
        | ((with_reducible first | refine dw_reg0 ?_ | refine dw_regB ?_); (conv => arg 3; whnf))
        | (refine Spl.go (fun hq he => ?_) (fun hq he => ?_) <;> first | (exfalso; clear hq; omega) | ((try (first | (conv => arg 8; simp only [hq]) | (conv => arg 4; simp only [hq]))); clear hq))
        | ((with_reducible first | refine c_split (fun hq => ?_) (fun hq => ?_) | refine q_split (fun hq => ?_) (fun hq => ?_)) <;> (try (first | (conv => arg 8; simp only [hq]) | (conv => arg 4; simp only [hq]))))
        | (with_reducible refine fin_0 ?_ (by first | rfl | (conv => lhs; simp only [go_sem, stD, intsD, beq_self_eq_true, bne_self_eq_false])) ?_)
        | exact Sub.refl _
        | omega)
      refine c_doesE (hz) ?_ ?_ ?_
      · ((try (conv => rhs; simp (disch := omega) only [go_sem, Nat.reduceEqDiff, Nat.reduceAdd, Nat.reduceMul, Nat.reduceSub, Nat.reduceLT, Nat.reduceLeDiff, ↓reduceIte, reduceCtorEq, Int.reduceToNat, stD, intsD, beq_self_eq_true, bne_self_eq_false])); try rfl)
      · first | rfl | (conv => lhs; simp only [go_sem, stD, intsD, beq_self_eq_true, bne_self_eq_false])
      repeat' (first
        | with_reducible refine acc_none ?_
        | (conv in hold _ => simp (disch := omega) only [go_sem, Nat.reduceEqDiff, Nat.reduceAdd, Nat.reduceMul, Nat.reduceSub, Nat.reduceLT, Nat.reduceLeDiff, ↓reduceIte, reduceCtorEq, Int.reduceToNat, stD, intsD, beq_self_eq_true, bne_self_eq_false])
        | refine Stp.go ?_
        | with_reducible first | refine it_pos rfl ?_ | refine it_neg (by decide) ?_ | refine st_nil rfl ?_ | refine s_op ?_ ?_ | exact True.intro
        | ((with_reducible first | refine dw_reg0 ?_ | refine dw_regB ?_); (conv => arg 3; whnf))
        | (refine Spl.go (fun hq he => ?_) (fun hq he => ?_) <;> first | (exfalso; clear hq; omega) | ((try (first | (conv => arg 8; simp only [hq]) | (conv => arg 4; simp only [hq]))); clear hq))
        | ((with_reducible first | refine c_split (fun hq => ?_) (fun hq => ?_) | refine q_split (fun hq => ?_) (fun hq => ?_)) <;> (try (first | (conv => arg 8; simp only [hq]) | (conv => arg 4; simp only [hq]))))
        | (with_reducible refine fin_0 ?_ (by first | rfl | (conv => lhs; simp only [go_sem, stD, intsD, beq_self_eq_true, bne_self_eq_false])) ?_)
        | exact Sub.refl _
        | omega)
      refine c_doesE (hy) ?_ ?_ ?_
      · ((try (conv => rhs; simp (disch := omega) only [go_sem, Nat.reduceEqDiff, Nat.reduceAdd, Nat.reduceMul, Nat.reduceSub, Nat.reduceLT, Nat.reduceLeDiff, ↓reduceIte, reduceCtorEq, Int.reduceToNat, stD, intsD, beq_self_eq_true, bne_self_eq_false])); try rfl)
      · first | rfl | (conv => lhs; simp only [go_sem, stD, intsD, beq_self_eq_true, bne_self_eq_false])
      repeat' (first
        | with_reducible refine acc_none ?_
        | (conv in hold _ => simp (disch := omega) only [go_sem, Nat.reduceEqDiff, Nat.reduceAdd, Nat.reduceMul, Nat.reduceSub, Nat.reduceLT, Nat.reduceLeDiff, ↓reduceIte, reduceCtorEq, Int.reduceToNat, stD, intsD, beq_self_eq_true, bne_self_eq_false])
        | refine Stp.go ?_
        | with_reducible first | refine it_pos rfl ?_ | refine it_neg (by decide) ?_ | refine st_nil rfl ?_ | refine s_op ?_ ?_ | exact True.intro
        | ((with_reducible first | refine dw_reg0 ?_ | refine dw_regB ?_); (conv => arg 3; whnf))
        | (refine Spl.go (fun hq he => ?_) (fun hq he => ?_) <;> first | (exfalso; clear hq; omega) | ((try (first | (conv => arg 8; simp only [hq]) | (conv => arg 4; simp only [hq]))); clear hq))
        | ((with_reducible first | refine c_split (fun hq => ?_) (fun hq => ?_) | refine q_split (fun hq => ?_) (fun hq => ?_)) <;> (try (first | (conv => arg 8; simp only [hq]) | (conv => arg 4; simp only [hq]))))
        | (with_reducible refine fin_0 ?_ (by first | rfl | (conv => lhs; simp only [go_sem, stD, intsD, beq_self_eq_true, bne_self_eq_false])) ?_)
        | exact Sub.refl _
        | omega)
      refine c_doesE (h1) ?_ ?_ ?_
      · ((try (conv => rhs; simp (disch := omega) only [go_sem, Nat.reduceEqDiff, Nat.reduceAdd, Nat.reduceMul, Nat.reduceSub, Nat.reduceLT, Nat.reduceLeDiff, ↓reduceIte, reduceCtorEq, Int.reduceToNat, stD, intsD, beq_self_eq_true, bne_self_eq_false])); try rfl)
      · first | rfl | (conv => lhs; simp only [go_sem, stD, intsD, beq_self_eq_true, bne_self_eq_false])
      repeat' (first
        | with_reducible refine acc_none ?_
        | (conv in hold _ => simp (disch := omega) only [go_sem, Nat.reduceEqDiff, Nat.reduceAdd, Nat.reduceMul, Nat.reduceSub, Nat.reduceLT, Nat.reduceLeDiff, ↓reduceIte, reduceCtorEq, Int.reduceToNat, stD, intsD, beq_self_eq_true, bne_self_eq_false])
        | refine Stp.go ?_
        | with_reducible first | refine it_pos rfl ?_ | refine it_neg (by decide) ?_ | refine st_nil rfl ?_ | refine s_op ?_ ?_ | exact True.intro
        | ((with_reducible first | refine dw_reg0 ?_ | refine dw_regB ?_); (conv => arg 3; whnf))
        | (refine Spl.go (fun hq he => ?_) (fun hq he => ?_) <;> first | (exfalso; clear hq; omega) | ((try (first | (conv => arg 8; simp only [hq]) | (conv => arg 4; simp only [hq]))); clear hq))
        | ((with_reducible first | refine c_split (fun hq => ?_) (fun hq => ?_) | refine q_split (fun hq => ?_) (fun hq => ?_)) <;> (try (first | (conv => arg 8; simp only [hq]) | (conv => arg 4; simp only [hq]))))
        | (with_reducible refine fin_0 ?_ (by first | rfl | (conv => lhs; simp only [go_sem, stD, intsD, beq_self_eq_true, bne_self_eq_false])) ?_)
        | exact Sub.refl _
        | omega)
      refine c_doesE (h2) ?_ ?_ ?_
      · ((try (conv => rhs; simp (disch := omega) only [go_sem, Nat.reduceEqDiff, Nat.reduceAdd, Nat.reduceMul, Nat.reduceSub, Nat.reduceLT, Nat.reduceLeDiff, ↓reduceIte, reduceCtorEq, Int.reduceToNat, stD, intsD, beq_self_eq_true, bne_self_eq_false])); try rfl)
      · first | rfl | (conv => lhs; simp only [go_sem, stD, intsD, beq_self_eq_true, bne_self_eq_false])
      repeat' (first
        | with_reducible refine acc_none ?_
        | (conv in hold _ => simp (disch := omega) only [go_sem, Nat.reduceEqDiff, Nat.reduceAdd, Nat.reduceMul, Nat.reduceSub, Nat.reduceLT, Nat.reduceLeDiff, ↓reduceIte, reduceCtorEq, Int.reduceToNat, stD, intsD, beq_self_eq_true, bne_self_eq_false])
        | refine Stp.go ?_
        | with_reducible first | refine it_pos rfl ?_ | refine it_neg (by decide) ?_ | refine st_nil rfl ?_ | refine s_op ?_ ?_ | exact True.intro
        | ((with_reducible first | refine dw_reg0 ?_ | refine dw_regB ?_); (conv => arg 3; whnf))
        | (refine Spl.go (fun hq he => ?_) (fun hq he => ?_) <;> first | (exfalso; clear hq; omega) | ((try (first | (conv => arg 8; simp only [hq]) | (conv => arg 4; simp only [hq]))); clear hq))
        | ((with_reducible first | refine c_split (fun hq => ?_) (fun hq => ?_) | refine q_split (fun hq => ?_) (fun hq => ?_)) <;> (try (first | (conv => arg 8; simp only [hq]) | (conv => arg 4; simp only [hq]))))
        | (with_reducible refine fin_0 ?_ (by first | rfl | (conv => lhs; simp only [go_sem, stD, intsD, beq_self_eq_true, bne_self_eq_false])) ?_)
        | exact Sub.refl _
        | omega)
      refine c_doesE (h3) ?_ ?_ ?_
      · ((try (conv => rhs; simp (disch := omega) only [go_sem, Nat.reduceEqDiff, Nat.reduceAdd, Nat.reduceMul, Nat.reduceSub, Nat.reduceLT, Nat.reduceLeDiff, ↓reduceIte, reduceCtorEq, Int.reduceToNat, stD, intsD, beq_self_eq_true, bne_self_eq_false])); try rfl)
      · first | rfl | (conv => lhs; simp only [go_sem, stD, intsD, beq_self_eq_true, bne_self_eq_false])
      repeat' (first
        | with_reducible refine acc_none ?_
        | (conv in hold _ => simp (disch := omega) only [go_sem, Nat.reduceEqDiff, Nat.reduceAdd, Nat.reduceMul, Nat.reduceSub, Nat.reduceLT, Nat.reduceLeDiff, ↓reduceIte, reduceCtorEq, Int.reduceToNat, stD, intsD, beq_self_eq_true, bne_self_eq_false])
        | refine Stp.go ?_
        | with_reducible first | refine it_pos rfl ?_ | refine it_neg (by decide) ?_ | refine st_nil rfl ?_ | refine s_op ?_ ?_ | exact True.intro
        | ((with_reducible first | refine dw_reg0 ?_ | refine dw_regB ?_); (conv => arg 3; whnf))
        | (refine Spl.go (fun hq he => ?_) (fun hq he => ?_) <;> first | (exfalso; clear hq; omega) | ((try (first | (conv => arg 8; simp only [hq]) | (conv => arg 4; simp only [hq]))); clear hq))
        | ((with_reducible first | refine c_split (fun hq => ?_) (fun hq => ?_) | refine q_split (fun hq => ?_) (fun hq => ?_)) <;> (try (first | (conv => arg 8; simp only [hq]) | (conv => arg 4; simp only [hq]))))
        | (with_reducible refine fin_0 ?_ (by first | rfl | (conv => lhs; simp only [go_sem, stD, intsD, beq_self_eq_true, bne_self_eq_false])) ?_)
        | exact Sub.refl _
        | omega)
      refine c_doesE (h1) ?_ ?_ ?_
      · ((try (conv => rhs; simp (disch := omega) only [go_sem, Nat.reduceEqDiff, Nat.reduceAdd, Nat.reduceMul, Nat.reduceSub, Nat.reduceLT, Nat.reduceLeDiff, ↓reduceIte, reduceCtorEq, Int.reduceToNat, stD, intsD, beq_self_eq_true, bne_self_eq_false])); try rfl)
      · first | rfl | (conv => lhs; simp only [go_sem, stD, intsD, beq_self_eq_true, bne_self_eq_false])
      repeat' (first
        | with_reducible refine acc_none ?_
        | (conv in hold _ => simp (disch := omega) only [go_sem, Nat.reduceEqDiff, Nat.reduceAdd, Nat.reduceMul, Nat.reduceSub, Nat.reduceLT, Nat.reduceLeDiff, ↓reduceIte, reduceCtorEq, Int.reduceToNat, stD, intsD, beq_self_eq_true, bne_self_eq_false])
        | refine Stp.go ?_
        | with_reducible first | refine it_pos rfl ?_ | refine it_neg (by decide) ?_ | refine st_nil rfl ?_ | refine s_op ?_ ?_ | exact True.intro
        | ((with_reducible first | refine dw_reg0 ?_ | refine dw_regB ?_); (conv => arg 3; whnf))
        | (refine Spl.go (fun hq he => ?_) (fun hq he => ?_) <;> first | (exfalso; clear hq; omega) | ((try (first | (conv => arg 8; simp only [hq]) | (conv => arg 4; simp only [hq]))); clear hq))
        | ((with_reducible first | refine c_split (fun hq => ?_) (fun hq => ?_) | refine q_split (fun hq => ?_) (fun hq => ?_)) <;> (try (first | (conv => arg 8; simp only [hq]) | (conv => arg 4; simp only [hq]))))
        | (with_reducible refine fin_0 ?_ (by first | rfl | (conv => lhs; simp only [go_sem, stD, intsD, beq_self_eq_true, bne_self_eq_false])) ?_)
        | exact Sub.refl _
        | omega)
      refine c_doesE (h2) ?_ ?_ ?_
      · ((try (conv => rhs; simp (disch := omega) only [go_sem, Nat.reduceEqDiff, Nat.reduceAdd, Nat.reduceMul, Nat.reduceSub, Nat.reduceLT, Nat.reduceLeDiff, ↓reduceIte, reduceCtorEq, Int.reduceToNat, stD, intsD, beq_self_eq_true, bne_self_eq_false])); try rfl)
      · first | rfl | (conv => lhs; simp only [go_sem, stD, intsD, beq_self_eq_true, bne_self_eq_false])
      repeat' (first
        | with_reducible refine acc_none ?_
        | (conv in hold _ => simp (disch := omega) only [go_sem, Nat.reduceEqDiff, Nat.reduceAdd, Nat.reduceMul, Nat.reduceSub, Nat.reduceLT, Nat.reduceLeDiff, ↓reduceIte, reduceCtorEq, Int.reduceToNat, stD, intsD, beq_self_eq_true, bne_self_eq_false])
        | refine Stp.go ?_
        | with_reducible first | refine it_pos rfl ?_ | refine it_neg (by decide) ?_ | refine st_nil rfl ?_ | refine s_op ?_ ?_ | exact True.intro
        | ((with_reducible first | refine dw_reg0 ?_ | refine dw_regB ?_); (conv => arg 3; whnf))
        | (refine Spl.go (fun hq he => ?_) (fun hq he => ?_) <;> first | (exfalso; clear hq; omega) | ((try (first | (conv => arg 8; simp only [hq]) | (conv => arg 4; simp only [hq]))); clear hq))
        | ((with_reducible first | refine c_split (fun hq => ?_) (fun hq => ?_) | refine q_split (fun hq => ?_) (fun hq => ?_)) <;> (try (first | (conv => arg 8; simp only [hq]) | (conv => arg 4; simp only [hq]))))
        | (with_reducible refine fin_0 ?_ (by first | rfl | (conv => lhs; simp only [go_sem, stD, intsD, beq_self_eq_true, bne_self_eq_false])) ?_)
        | exact Sub.refl _
        | omega)
      refine c_doesE (h4) ?_ ?_ ?_
      · ((try (conv => rhs; simp (disch := omega) only [go_sem, Nat.reduceEqDiff, Nat.reduceAdd, Nat.reduceMul, Nat.reduceSub, Nat.reduceLT, Nat.reduceLeDiff, ↓reduceIte, reduceCtorEq, Int.reduceToNat, stD, intsD, beq_self_eq_true, bne_self_eq_false])); try rfl)
      · first | rfl | (conv => lhs; simp only [go_sem, stD, intsD, beq_self_eq_true, bne_self_eq_false])
      repeat' (first
        | with_reducible refine acc_none ?_
        | (conv in hold _ => simp (disch := omega) only [go_sem, Nat.reduceEqDiff, Nat.reduceAdd, Nat.reduceMul, Nat.reduceSub, Nat.reduceLT, Nat.reduceLeDiff, ↓reduceIte, reduceCtorEq, Int.reduceToNat, stD, intsD, beq_self_eq_true, bne_self_eq_false])
        | refine Stp.go ?_
        | with_reducible first | refine it_pos rfl ?_ | refine it_neg (by decide) ?_ | refine st_nil rfl ?_ | refine s_op ?_ ?_ | exact True.intro
        | ((with_reducible first | refine dw_reg0 ?_ | refine dw_regB ?_); (conv => arg 3; whnf))
        | (refine Spl.go (fun hq he => ?_) (fun hq he => ?_) <;> first | (exfalso; clear hq; omega) | ((try (first | (conv => arg 8; simp only [hq]) | (conv => arg 4; simp only [hq]))); clear hq))
        | ((with_reducible first | refine c_split (fun hq => ?_) (fun hq => ?_) | refine q_split (fun hq => ?_) (fun hq => ?_)) <;> (try (first | (conv => arg 8; simp only [hq]) | (conv => arg 4; simp only [hq]))))
        | (with_reducible refine fin_0 ?_ (by first | rfl | (conv => lhs; simp only [go_sem, stD, intsD, beq_self_eq_true, bne_self_eq_false])) ?_)
        | exact Sub.refl _
        | omega)
      refine c_doesE (h1) ?_ ?_ ?_
      · ((try (conv => rhs; simp (disch := omega) only [go_sem, Nat.reduceEqDiff, Nat.reduceAdd, Nat.reduceMul, Nat.reduceSub, Nat.reduceLT, Nat.reduceLeDiff, ↓reduceIte, reduceCtorEq, Int.reduceToNat, stD, intsD, beq_self_eq_true, bne_self_eq_false])); try rfl)
      · first | rfl | (conv => lhs; simp only [go_sem, stD, intsD, beq_self_eq_true, bne_self_eq_false])
      repeat' (first
        | with_reducible refine acc_none ?_
        | (conv in hold _ => simp (disch := omega) only [go_sem, Nat.reduceEqDiff, Nat.reduceAdd, Nat.reduceMul, Nat.reduceSub, Nat.reduceLT, Nat.reduceLeDiff, ↓reduceIte, reduceCtorEq, Int.reduceToNat, stD, intsD, beq_self_eq_true, bne_self_eq_false])
        | refine Stp.go ?_
        | with_reducible first | refine it_pos rfl ?_ | refine it_neg (by decide) ?_ | refine st_nil rfl ?_ | refine s_op ?_ ?_ | exact True.intro
        | ((with_reducible first | refine dw_reg0 ?_ | refine dw_regB ?_); (conv => arg 3; whnf))
        | (refine Spl.go (fun hq he => ?_) (fun hq he => ?_) <;> first | (exfalso; clear hq; omega) | ((try (first | (conv => arg 8; simp only [hq]) | (conv => arg 4; simp only [hq]))); clear hq))
        | ((with_reducible first | refine c_split (fun hq => ?_) (fun hq => ?_) | refine q_split (fun hq => ?_) (fun hq => ?_)) <;> (try (first | (conv => arg 8; simp only [hq]) | (conv => arg 4; simp only [hq]))))
        | (with_reducible refine fin_0 ?_ (by first | rfl | (conv => lhs; simp only [go_sem, stD, intsD, beq_self_eq_true, bne_self_eq_false])) ?_)
        | exact Sub.refl _
        | omega)
      refine c_doesE (h5) ?_ ?_ ?_
      · ((try (conv => rhs; simp (disch := omega) only [go_sem, Nat.reduceEqDiff, Nat.reduceAdd, Nat.reduceMul, Nat.reduceSub, Nat.reduceLT, Nat.reduceLeDiff, ↓reduceIte, reduceCtorEq, Int.reduceToNat, stD, intsD, beq_self_eq_true, bne_self_eq_false])); try rfl)
      · first | rfl | (conv => lhs; simp only [go_sem, stD, intsD, beq_self_eq_true, bne_self_eq_false])
      repeat' (first
        | with_reducible refine acc_none ?_
        | (conv in hold _ => simp (disch := omega) only [go_sem, Nat.reduceEqDiff, Nat.reduceAdd, Nat.reduceMul, Nat.reduceSub, Nat.reduceLT, Nat.reduceLeDiff, ↓reduceIte, reduceCtorEq, Int.reduceToNat, stD, intsD, beq_self_eq_true, bne_self_eq_false])
        | refine Stp.go ?_
        | with_reducible first | refine it_pos rfl ?_ | refine it_neg (by decide) ?_ | refine st_nil rfl ?_ | refine s_op ?_ ?_ | exact True.intro
        | ((with_reducible first | refine dw_reg0 ?_ | refine dw_regB ?_); (conv => arg 3; whnf))
        | (refine Spl.go (fun hq he => ?_) (fun hq he => ?_) <;> first | (exfalso; clear hq; omega) | ((try (first | (conv => arg 8; simp only [hq]) | (conv => arg 4; simp only [hq]))); clear hq))
        | ((with_reducible first | refine c_split (fun hq => ?_) (fun hq => ?_) | refine q_split (fun hq => ?_) (fun hq => ?_)) <;> (try (first | (conv => arg 8; simp only [hq]) | (conv => arg 4; simp only [hq]))))
        | (with_reducible refine fin_0 ?_ (by first | rfl | (conv => lhs; simp only [go_sem, stD, intsD, beq_self_eq_true, bne_self_eq_false])) ?_)
        | exact Sub.refl _
        | omega)
      refine c_doesE (h2) ?_ ?_ ?_
      · ((try (conv => rhs; simp (disch := omega) only [go_sem, Nat.reduceEqDiff, Nat.reduceAdd, Nat.reduceMul, Nat.reduceSub, Nat.reduceLT, Nat.reduceLeDiff, ↓reduceIte, reduceCtorEq, Int.reduceToNat, stD, intsD, beq_self_eq_true, bne_self_eq_false])); try rfl)
      · first | rfl | (conv => lhs; simp only [go_sem, stD, intsD, beq_self_eq_true, bne_self_eq_false])
      repeat' (first
        | with_reducible refine acc_none ?_
        | (conv in hold _ => simp (disch := omega) only [go_sem, Nat.reduceEqDiff, Nat.reduceAdd, Nat.reduceMul, Nat.reduceSub, Nat.reduceLT, Nat.reduceLeDiff, ↓reduceIte, reduceCtorEq, Int.reduceToNat, stD, intsD, beq_self_eq_true, bne_self_eq_false])
        | refine Stp.go ?_
        | with_reducible first | refine it_pos rfl ?_ | refine it_neg (by decide) ?_ | refine st_nil rfl ?_ | refine s_op ?_ ?_ | exact True.intro
        | ((with_reducible first | refine dw_reg0 ?_ | refine dw_regB ?_); (conv => arg 3; whnf))
        | (refine Spl.go (fun hq he => ?_) (fun hq he => ?_) <;> first | (exfalso; clear hq; omega) | ((try (first | (conv => arg 8; simp only [hq]) | (conv => arg 4; simp only [hq]))); clear hq))
        | ((with_reducible first | refine c_split (fun hq => ?_) (fun hq => ?_) | refine q_split (fun hq => ?_) (fun hq => ?_)) <;> (try (first | (conv => arg 8; simp only [hq]) | (conv => arg 4; simp only [hq]))))
        | (with_reducible refine fin_0 ?_ (by first | rfl | (conv => lhs; simp only [go_sem, stD, intsD, beq_self_eq_true, bne_self_eq_false])) ?_)
        | exact Sub.refl _
        | omega)
      refine c_doesE (h6) ?_ ?_ ?_
      · ((try (conv => rhs; simp (disch := omega) only [go_sem, Nat.reduceEqDiff, Nat.reduceAdd, Nat.reduceMul, Nat.reduceSub, Nat.reduceLT, Nat.reduceLeDiff, ↓reduceIte, reduceCtorEq, Int.reduceToNat, stD, intsD, beq_self_eq_true, bne_self_eq_false])); try rfl)
      · first | rfl | (conv => lhs; simp only [go_sem, stD, intsD, beq_self_eq_true, bne_self_eq_false])
      repeat' (first
        | with_reducible refine acc_none ?_
        | (conv in hold _ => simp (disch := omega) only [go_sem, Nat.reduceEqDiff, Nat.reduceAdd, Nat.reduceMul, Nat.reduceSub, Nat.reduceLT, Nat.reduceLeDiff, ↓reduceIte, reduceCtorEq, Int.reduceToNat, stD, intsD, beq_self_eq_true, bne_self_eq_false])
        | refine Stp.go ?_
        | with_reducible first | refine it_pos rfl ?_ | refine it_neg (by decide) ?_ | refine st_nil rfl ?_ | refine s_op ?_ ?_ | exact True.intro
        | ((with_reducible first | refine dw_reg0 ?_ | refine dw_regB ?_); (conv => arg 3; whnf))
        | (refine Spl.go (fun hq he => ?_) (fun hq he => ?_) <;> first | (exfalso; clear hq; omega) | ((try (first | (conv => arg 8; simp only [hq]) | (conv => arg 4; simp only [hq]))); clear hq))
        | ((with_reducible first | refine c_split (fun hq => ?_) (fun hq => ?_) | refine q_split (fun hq => ?_) (fun hq => ?_)) <;> (try (first | (conv => arg 8; simp only [hq]) | (conv => arg 4; simp only [hq]))))
        | (with_reducible refine fin_0 ?_ (by first | rfl | (conv => lhs; simp only [go_sem, stD, intsD, beq_self_eq_true, bne_self_eq_false])) ?_)
        | exact Sub.refl _
        | omega)
    · rw [szV_f hg] at hy
      refine does0 c_laws_FnExactSelectivity mixed (Nat.le_of_ble_eq_true rfl) ?_
      conv => arg 3; whnf
      repeat' (first
        | with_reducible refine acc_none ?_
        | (conv in hold _ => simp (disch := omega) only [go_sem, Nat.reduceEqDiff, Nat.reduceAdd, Nat.reduceMul, Nat.reduceSub, Nat.reduceLT, Nat.reduceLeDiff, ↓reduceIte, reduceCtorEq, Int.reduceToNat, stD, intsD, beq_self_eq_true, bne_self_eq_false])
        | refine Stp.go ?_
        | with_reducible first | refine it_pos rfl ?_ | refine it_neg (by decide) ?_ | refine st_nil rfl ?_ | refine s_op ?_ ?_ | exact True.intro
        | ((with_reducible first | refine dw_reg0 ?_ | refine dw_regB ?_); (conv => arg 3; whnf))
        | (refine Spl.go (fun hq he => ?_) (fun hq he => ?_) <;> first | (exfalso; clear hq; omega) | ((try (first | (conv => arg 8; simp only [hq]) | (conv => arg 4; simp only [hq]))); clear hq))
        | ((with_reducible first | refine c_split (fun hq => ?_) (fun hq => ?_) | refine q_split (fun hq => ?_) (fun hq => ?_)) <;> (try (first | (conv => arg 8; simp only [hq]) | (conv => arg 4; simp only [hq]))))
        | (with_reducible refine fin_0 ?_ (by first | rfl | (conv => lhs; simp only [go_sem, stD, intsD, beq_self_eq_true, bne_self_eq_false])) ?_)
        | exact Sub.refl _
        | omega)
      refine c_doesE (hz) ?_ ?_ ?_
      · ((try (conv => rhs; simp (disch := omega) only [go_sem, Nat.reduceEqDiff, Nat.reduceAdd, Nat.reduceMul, Nat.reduceSub, Nat.reduceLT, Nat.reduceLeDiff, ↓reduceIte, reduceCtorEq, Int.reduceToNat, stD, intsD, beq_self_eq_true, bne_self_eq_false])); try rfl)
      · first | rfl | (conv => lhs; simp only [go_sem, stD, intsD, beq_self_eq_true, bne_self_eq_false])
      repeat' (first
        | with_reducible refine acc_none ?_
        | (conv in hold _ => simp (disch := omega) only [go_sem, Nat.reduceEqDiff, Nat.reduceAdd, Nat.reduceMul, Nat.reduceSub, Nat.reduceLT, Nat.reduceLeDiff, ↓reduceIte, reduceCtorEq, Int.reduceToNat, stD, intsD, beq_self_eq_true, bne_self_eq_false])
        | refine Stp.go ?_
        | with_reducible first | refine it_pos rfl ?_ | refine it_neg (by decide) ?_ | refine st_nil rfl ?_ | refine s_op ?_ ?_ | exact True.intro
        | ((with_reducible first | refine dw_reg0 ?_ | refine dw_regB ?_); (conv => arg 3; whnf))
        | (refine Spl.go (fun hq he => ?_) (fun hq he => ?_) <;> first | (exfalso; clear hq; omega) | ((try (first | (conv => arg 8; simp only [hq]) | (conv => arg 4; simp only [hq]))); clear hq))
        | ((with_reducible first | refine c_split (fun hq => ?_) (fun hq => ?_) | refine q_split (fun hq => ?_) (fun hq => ?_)) <;> (try (first | (conv => arg 8; simp only [hq]) | (conv => arg 4; simp only [hq]))))
        | (with_reducible refine fin_0 ?_ (by first | rfl | (conv => lhs; simp only [go_sem, stD, intsD, beq_self_eq_true, bne_self_eq_false])) ?_)
        | exact Sub.refl _
        | omega)
      refine c_doesE (hy) ?_ ?_ ?_
      · ((try (conv => rhs; simp (disch := omega) only [go_sem, Nat.reduceEqDiff, Nat.reduceAdd, Nat.reduceMul, Nat.reduceSub, Nat.reduceLT, Nat.reduceLeDiff, ↓reduceIte, reduceCtorEq, Int.reduceToNat, stD, intsD, beq_self_eq_true, bne_self_eq_false])); try rfl)
      · first | rfl | (conv => lhs; simp only [go_sem, stD, intsD, beq_self_eq_true, bne_self_eq_false])
      repeat' (first
        | with_reducible refine acc_none ?_
        | (conv in hold _ => simp (disch := omega) only [go_sem, Nat.reduceEqDiff, Nat.reduceAdd, Nat.reduceMul, Nat.reduceSub, Nat.reduceLT, Nat.reduceLeDiff, ↓reduceIte, reduceCtorEq, Int.reduceToNat, stD, intsD, beq_self_eq_true, bne_self_eq_false])
        | refine Stp.go ?_
        | with_reducible first | refine it_pos rfl ?_ | refine it_neg (by decide) ?_ | refine st_nil rfl ?_ | refine s_op ?_ ?_ | exact True.intro
        | ((with_reducible first | refine dw_reg0 ?_ | refine dw_regB ?_); (conv => arg 3; whnf))
        | (refine Spl.go (fun hq he => ?_) (fun hq he => ?_) <;> first | (exfalso; clear hq; omega) | ((try (first | (conv => arg 8; simp only [hq]) | (conv => arg 4; simp only [hq]))); clear hq))
        | ((with_reducible first | refine c_split (fun hq => ?_) (fun hq => ?_) | refine q_split (fun hq => ?_) (fun hq => ?_)) <;> (try (first | (conv => arg 8; simp only [hq]) | (conv => arg 4; simp only [hq]))))
        | (with_reducible refine fin_0 ?_ (by first | rfl | (conv => lhs; simp only [go_sem, stD, intsD, beq_self_eq_true, bne_self_eq_false])) ?_)
        | exact Sub.refl _
        | omega)
  · rw [szV_f hf] at hz
    refine does0 c_laws_FnExactSelectivity mixed (Nat.le_of_ble_eq_true rfl) ?_
    conv => arg 3; whnf
    repeat' (first
      | with_reducible refine acc_none ?_
      | (conv in hold _ => simp (disch := omega) only [go_sem, Nat.reduceEqDiff, Nat.reduceAdd, Nat.reduceMul, Nat.reduceSub, Nat.reduceLT, Nat.reduceLeDiff, ↓reduceIte, reduceCtorEq, Int.reduceToNat, stD, intsD, beq_self_eq_true, bne_self_eq_false])
      | refine Stp.go ?_
      | with_reducible first | refine it_pos rfl ?_ | refine it_neg (by decide) ?_ | refine st_nil rfl ?_ | refine s_op ?_ ?_ | exact True.intro
      | ((with_reducible first | refine dw_reg0 ?_ | refine dw_regB ?_); (conv => arg 3; whnf))
      | (refine Spl.go (fun hq he => ?_) (fun hq he => ?_) <;> first | (exfalso; clear hq; omega) | ((try (first | (conv => arg 8; simp only [hq]) | (conv => arg 4; simp only [hq]))); clear hq))
      | ((with_reducible first | refine c_split (fun hq => ?_) (fun hq => ?_) | refine q_split (fun hq => ?_) (fun hq => ?_)) <;> (try (first | (conv => arg 8; simp only [hq]) | (conv => arg 4; simp only [hq]))))
      | (with_reducible refine fin_0 ?_ (by first | rfl | (conv => lhs; simp only [go_sem, stD, intsD, beq_self_eq_true, bne_self_eq_false])) ?_)
      | exact Sub.refl _
      | omega)
    refine c_doesE (hz) ?_ ?_ ?_
    · ((try (conv => rhs; simp (disch := omega) only [go_sem, Nat.reduceEqDiff, Nat.reduceAdd, Nat.reduceMul, Nat.reduceSub, Nat.reduceLT, Nat.reduceLeDiff, ↓reduceIte, reduceCtorEq, Int.reduceToNat, stD, intsD, beq_self_eq_true, bne_self_eq_false])); try rfl)
    · first | rfl | (conv => lhs; simp only [go_sem, stD, intsD, beq_self_eq_true, bne_self_eq_false])
    repeat' (first
      | with_reducible refine acc_none ?_
      | (conv in hold _ => simp (disch := omega) only [go_sem, Nat.reduceEqDiff, Nat.reduceAdd, Nat.reduceMul, Nat.reduceSub, Nat.reduceLT, Nat.reduceLeDiff, ↓reduceIte, reduceCtorEq, Int.reduceToNat, stD, intsD, beq_self_eq_true, bne_self_eq_false])
      | refine Stp.go ?_
      | with_reducible first | refine it_pos rfl ?_ | refine it_neg (by decide) ?_ | refine st_nil rfl ?_ | refine s_op ?_ ?_ | exact True.intro
      | ((with_reducible first | refine dw_reg0 ?_ | refine dw_regB ?_); (conv => arg 3; whnf))
      | (refine Spl.go (fun hq he => ?_) (fun hq he => ?_) <;> first | (exfalso; clear hq; omega) | ((try (first | (conv => arg 8; simp only [hq]) | (conv => arg 4; simp only [hq]))); clear hq))
      | ((with_reducible first | refine c_split (fun hq => ?_) (fun hq => ?_) | refine q_split (fun hq => ?_) (fun hq => ?_)) <;> (try (first | (conv => arg 8; simp only [hq]) | (conv => arg 4; simp only [hq]))))
      | (with_reducible refine fin_0 ?_ (by first | rfl | (conv => lhs; simp only [go_sem, stD, intsD, beq_self_eq_true, bne_self_eq_false])) ?_)
      | exact Sub.refl _
      | omega)
theorem walk_FnExactSelectivity (v : Value) (e : E) (v' : Value) (s : St) (w : World) (h : IsE w v e) (h' : IsSt w v' s) :
    Calls Try.prog 9 #[v, v'] w fun e W' => e = .returned (.bool true) ∧ Below w.heap.size w W' := calls_2 (does_FnExactSelectivity e h.1 s h'.1) h.2 h'.2
end Go.Proofs.Ythlobnfokjicbaa
