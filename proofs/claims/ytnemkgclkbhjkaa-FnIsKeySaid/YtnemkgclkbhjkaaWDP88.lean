/-
  The law that larger sets are keys as well. No condition.
-/
import Derived.Test.YtnemkgclkbhjkaaVDepR
import Derived.Test.YtnemkgclkbhjkaaVDepM
import Derived.Test.YtnemkgclkbhjkaaVDepS
import Derived.Test.YtnemkgclkbhjkaaVDepI
import Derived.Test.YtnemkgclkbhjkaaVLaw
set_option maxHeartbeats 4000000
set_option maxRecDepth 100000
set_option linter.unusedVariables false
set_option linter.unusedSimpArgs false
namespace Go.Proofs.Ytnemkgclkbhjkaa
open Go.RowKit

theorem does_FnIsKey (cs : List Nat) (hc : ∀ b, b ∈ cs → b < 256) (cs' : List Nat) (hc' : ∀ b, b ∈ cs' → b < 256) : Does Try.prog 7 [] [bytesD cs, bytesD cs'] (Bo true) [] := by
  obtain ⟨l, w, s, hdr, hl6⟩ := DrawIsKey_ok cs hc
  have h1 := IsKey_impl l (by omega) w s
  have h2 := IsKey_spec l (by omega) w s
  have h3 := ValidDependencies_impl l (by omega) w
  by_cases hcl : cs.length ≤ 1048576
  · by_cases hcl' : cs'.length ≤ 1048576
    · by_cases h : dsOk w l
      · rw [decide_eq_true h] at h3
        have hw := h.1
        have t2 := sh_pow hw
        have t3 := top_small hw
        by_cases hs0 : s < 0
        · refine does0 c_laws_FnIsKey mixed (Nat.le_of_ble_eq_true rfl) ?_
          conv => arg 3; whnf
          repeat' (first
            | with_reducible refine acc_none ?_
            | (conv in hold _ => simp (disch := omega) only [go_sem, Nat.reduceEqDiff, Nat.reduceAdd, Nat.reduceMul, Nat.reduceSub, Nat.reduceLT, Nat.reduceLeDiff, ↓reduceIte, reduceCtorEq, Int.reduceToNat, bytesD, beq_self_eq_true, bne_self_eq_false])
            | refine Stp.go ?_
            | with_reducible first | refine it_pos rfl ?_ | refine it_neg (by decide) ?_ | refine st_nil rfl ?_ | refine s_op ?_ ?_ | exact True.intro
            | ((with_reducible first | refine dw_reg0 ?_ | refine dw_regB ?_); (conv => arg 3; whnf))
            | (refine Spl.go (fun hq he => ?_) (fun hq he => ?_) <;> first | (exfalso; clear hq; omega) | ((try (first | (conv => arg 8; simp only [hq]) | (conv => arg 4; simp only [hq]))); clear hq))
            | ((with_reducible first | refine c_split (fun hq => ?_) (fun hq => ?_) | refine q_split (fun hq => ?_) (fun hq => ?_)) <;> (try (first | (conv => arg 8; simp only [hq]) | (conv => arg 4; simp only [hq]))))
            | (with_reducible refine fin_0 ?_ (by first | rfl | (conv => lhs; simp only [go_sem, bytesD, beq_self_eq_true, bne_self_eq_false])) ?_)
            | exact Sub.refl _
            | omega)
          refine c_doesE (hdr) ?_ ?_ ?_
          · ((try (conv => rhs; simp (disch := omega) only [go_sem, Nat.reduceEqDiff, Nat.reduceAdd, Nat.reduceMul, Nat.reduceSub, Nat.reduceLT, Nat.reduceLeDiff, ↓reduceIte, reduceCtorEq, Int.reduceToNat, bytesD, beq_self_eq_true, bne_self_eq_false])); try rfl)
          · first | rfl | (conv => lhs; simp only [go_sem, bytesD, beq_self_eq_true, bne_self_eq_false])
          repeat' (first
            | with_reducible refine acc_none ?_
            | (conv in hold _ => simp (disch := omega) only [go_sem, Nat.reduceEqDiff, Nat.reduceAdd, Nat.reduceMul, Nat.reduceSub, Nat.reduceLT, Nat.reduceLeDiff, ↓reduceIte, reduceCtorEq, Int.reduceToNat, bytesD, beq_self_eq_true, bne_self_eq_false])
            | refine Stp.go ?_
            | with_reducible first | refine it_pos rfl ?_ | refine it_neg (by decide) ?_ | refine st_nil rfl ?_ | refine s_op ?_ ?_ | exact True.intro
            | ((with_reducible first | refine dw_reg0 ?_ | refine dw_regB ?_); (conv => arg 3; whnf))
            | (refine Spl.go (fun hq he => ?_) (fun hq he => ?_) <;> first | (exfalso; clear hq; omega) | ((try (first | (conv => arg 8; simp only [hq]) | (conv => arg 4; simp only [hq]))); clear hq))
            | ((with_reducible first | refine c_split (fun hq => ?_) (fun hq => ?_) | refine q_split (fun hq => ?_) (fun hq => ?_)) <;> (try (first | (conv => arg 8; simp only [hq]) | (conv => arg 4; simp only [hq]))))
            | (with_reducible refine fin_0 ?_ (by first | rfl | (conv => lhs; simp only [go_sem, bytesD, beq_self_eq_true, bne_self_eq_false])) ?_)
            | exact Sub.refl _
            | omega)
          refine c_doesE (h1) ?_ ?_ ?_
          · ((try (conv => rhs; simp (disch := omega) only [go_sem, Nat.reduceEqDiff, Nat.reduceAdd, Nat.reduceMul, Nat.reduceSub, Nat.reduceLT, Nat.reduceLeDiff, ↓reduceIte, reduceCtorEq, Int.reduceToNat, bytesD, beq_self_eq_true, bne_self_eq_false])); try rfl)
          · first | rfl | (conv => lhs; simp only [go_sem, bytesD, beq_self_eq_true, bne_self_eq_false])
          repeat' (first
            | with_reducible refine acc_none ?_
            | (conv in hold _ => simp (disch := omega) only [go_sem, Nat.reduceEqDiff, Nat.reduceAdd, Nat.reduceMul, Nat.reduceSub, Nat.reduceLT, Nat.reduceLeDiff, ↓reduceIte, reduceCtorEq, Int.reduceToNat, bytesD, beq_self_eq_true, bne_self_eq_false])
            | refine Stp.go ?_
            | with_reducible first | refine it_pos rfl ?_ | refine it_neg (by decide) ?_ | refine st_nil rfl ?_ | refine s_op ?_ ?_ | exact True.intro
            | ((with_reducible first | refine dw_reg0 ?_ | refine dw_regB ?_); (conv => arg 3; whnf))
            | (refine Spl.go (fun hq he => ?_) (fun hq he => ?_) <;> first | (exfalso; clear hq; omega) | ((try (first | (conv => arg 8; simp only [hq]) | (conv => arg 4; simp only [hq]))); clear hq))
            | ((with_reducible first | refine c_split (fun hq => ?_) (fun hq => ?_) | refine q_split (fun hq => ?_) (fun hq => ?_)) <;> (try (first | (conv => arg 8; simp only [hq]) | (conv => arg 4; simp only [hq]))))
            | (with_reducible refine fin_0 ?_ (by first | rfl | (conv => lhs; simp only [go_sem, bytesD, beq_self_eq_true, bne_self_eq_false])) ?_)
            | exact Sub.refl _
            | omega)
          refine c_doesE (h2) ?_ ?_ ?_
          · ((try (conv => rhs; simp (disch := omega) only [go_sem, Nat.reduceEqDiff, Nat.reduceAdd, Nat.reduceMul, Nat.reduceSub, Nat.reduceLT, Nat.reduceLeDiff, ↓reduceIte, reduceCtorEq, Int.reduceToNat, bytesD, beq_self_eq_true, bne_self_eq_false])); try rfl)
          · first | rfl | (conv => lhs; simp only [go_sem, bytesD, beq_self_eq_true, bne_self_eq_false])
          repeat' (first
            | with_reducible refine acc_none ?_
            | (conv in hold _ => simp (disch := omega) only [go_sem, Nat.reduceEqDiff, Nat.reduceAdd, Nat.reduceMul, Nat.reduceSub, Nat.reduceLT, Nat.reduceLeDiff, ↓reduceIte, reduceCtorEq, Int.reduceToNat, bytesD, beq_self_eq_true, bne_self_eq_false])
            | refine Stp.go ?_
            | with_reducible first | refine it_pos rfl ?_ | refine it_neg (by decide) ?_ | refine st_nil rfl ?_ | refine s_op ?_ ?_ | exact True.intro
            | ((with_reducible first | refine dw_reg0 ?_ | refine dw_regB ?_); (conv => arg 3; whnf))
            | (refine Spl.go (fun hq he => ?_) (fun hq he => ?_) <;> first | (exfalso; clear hq; omega) | ((try (first | (conv => arg 8; simp only [hq]) | (conv => arg 4; simp only [hq]))); clear hq))
            | ((with_reducible first | refine c_split (fun hq => ?_) (fun hq => ?_) | refine q_split (fun hq => ?_) (fun hq => ?_)) <;> (try (first | (conv => arg 8; simp only [hq]) | (conv => arg 4; simp only [hq]))))
            | (with_reducible refine fin_0 ?_ (by first | rfl | (conv => lhs; simp only [go_sem, bytesD, beq_self_eq_true, bne_self_eq_false])) ?_)
            | exact Sub.refl _
            | omega)
          refine c_doesE (h3) ?_ ?_ ?_
          · ((try (conv => rhs; simp (disch := omega) only [go_sem, Nat.reduceEqDiff, Nat.reduceAdd, Nat.reduceMul, Nat.reduceSub, Nat.reduceLT, Nat.reduceLeDiff, ↓reduceIte, reduceCtorEq, Int.reduceToNat, bytesD, beq_self_eq_true, bne_self_eq_false])); try rfl)
          · first | rfl | (conv => lhs; simp only [go_sem, bytesD, beq_self_eq_true, bne_self_eq_false])
          repeat' (first
            | with_reducible refine acc_none ?_
            | (conv in hold _ => simp (disch := omega) only [go_sem, Nat.reduceEqDiff, Nat.reduceAdd, Nat.reduceMul, Nat.reduceSub, Nat.reduceLT, Nat.reduceLeDiff, ↓reduceIte, reduceCtorEq, Int.reduceToNat, bytesD, beq_self_eq_true, bne_self_eq_false])
            | refine Stp.go ?_
            | with_reducible first | refine it_pos rfl ?_ | refine it_neg (by decide) ?_ | refine st_nil rfl ?_ | refine s_op ?_ ?_ | exact True.intro
            | ((with_reducible first | refine dw_reg0 ?_ | refine dw_regB ?_); (conv => arg 3; whnf))
            | (refine Spl.go (fun hq he => ?_) (fun hq he => ?_) <;> first | (exfalso; clear hq; omega) | ((try (first | (conv => arg 8; simp only [hq]) | (conv => arg 4; simp only [hq]))); clear hq))
            | ((with_reducible first | refine c_split (fun hq => ?_) (fun hq => ?_) | refine q_split (fun hq => ?_) (fun hq => ?_)) <;> (try (first | (conv => arg 8; simp only [hq]) | (conv => arg 4; simp only [hq]))))
            | (with_reducible refine fin_0 ?_ (by first | rfl | (conv => lhs; simp only [go_sem, bytesD, beq_self_eq_true, bne_self_eq_false])) ?_)
            | exact Sub.refl _
            | omega)
          refine c_doesE (h2) ?_ ?_ ?_
          · ((try (conv => rhs; simp (disch := omega) only [go_sem, Nat.reduceEqDiff, Nat.reduceAdd, Nat.reduceMul, Nat.reduceSub, Nat.reduceLT, Nat.reduceLeDiff, ↓reduceIte, reduceCtorEq, Int.reduceToNat, bytesD, beq_self_eq_true, bne_self_eq_false])); try rfl)
          · first | rfl | (conv => lhs; simp only [go_sem, bytesD, beq_self_eq_true, bne_self_eq_false])
          repeat' (first
            | with_reducible refine acc_none ?_
            | (conv in hold _ => simp (disch := omega) only [go_sem, Nat.reduceEqDiff, Nat.reduceAdd, Nat.reduceMul, Nat.reduceSub, Nat.reduceLT, Nat.reduceLeDiff, ↓reduceIte, reduceCtorEq, Int.reduceToNat, bytesD, beq_self_eq_true, bne_self_eq_false])
            | refine Stp.go ?_
            | with_reducible first | refine it_pos rfl ?_ | refine it_neg (by decide) ?_ | refine st_nil rfl ?_ | refine s_op ?_ ?_ | exact True.intro
            | ((with_reducible first | refine dw_reg0 ?_ | refine dw_regB ?_); (conv => arg 3; whnf))
            | (refine Spl.go (fun hq he => ?_) (fun hq he => ?_) <;> first | (exfalso; clear hq; omega) | ((try (first | (conv => arg 8; simp only [hq]) | (conv => arg 4; simp only [hq]))); clear hq))
            | ((with_reducible first | refine c_split (fun hq => ?_) (fun hq => ?_) | refine q_split (fun hq => ?_) (fun hq => ?_)) <;> (try (first | (conv => arg 8; simp only [hq]) | (conv => arg 4; simp only [hq]))))
            | (with_reducible refine fin_0 ?_ (by first | rfl | (conv => lhs; simp only [go_sem, bytesD, beq_self_eq_true, bne_self_eq_false])) ?_)
            | exact Sub.refl _
            | omega)
        · by_cases hs1 : top w + 1 ≤ s
          · refine does0 c_laws_FnIsKey mixed (Nat.le_of_ble_eq_true rfl) ?_
            conv => arg 3; whnf
            repeat' (first
              | with_reducible refine acc_none ?_
              | (conv in hold _ => simp (disch := omega) only [go_sem, Nat.reduceEqDiff, Nat.reduceAdd, Nat.reduceMul, Nat.reduceSub, Nat.reduceLT, Nat.reduceLeDiff, ↓reduceIte, reduceCtorEq, Int.reduceToNat, bytesD, beq_self_eq_true, bne_self_eq_false])
              | refine Stp.go ?_
              | with_reducible first | refine it_pos rfl ?_ | refine it_neg (by decide) ?_ | refine st_nil rfl ?_ | refine s_op ?_ ?_ | exact True.intro
              | ((with_reducible first | refine dw_reg0 ?_ | refine dw_regB ?_); (conv => arg 3; whnf))
              | (refine Spl.go (fun hq he => ?_) (fun hq he => ?_) <;> first | (exfalso; clear hq; omega) | ((try (first | (conv => arg 8; simp only [hq]) | (conv => arg 4; simp only [hq]))); clear hq))
              | ((with_reducible first | refine c_split (fun hq => ?_) (fun hq => ?_) | refine q_split (fun hq => ?_) (fun hq => ?_)) <;> (try (first | (conv => arg 8; simp only [hq]) | (conv => arg 4; simp only [hq]))))
              | (with_reducible refine fin_0 ?_ (by first | rfl | (conv => lhs; simp only [go_sem, bytesD, beq_self_eq_true, bne_self_eq_false])) ?_)
              | exact Sub.refl _
              | omega)
            refine c_doesE (hdr) ?_ ?_ ?_
            · ((try (conv => rhs; simp (disch := omega) only [go_sem, Nat.reduceEqDiff, Nat.reduceAdd, Nat.reduceMul, Nat.reduceSub, Nat.reduceLT, Nat.reduceLeDiff, ↓reduceIte, reduceCtorEq, Int.reduceToNat, bytesD, beq_self_eq_true, bne_self_eq_false])); try rfl)
            · first | rfl | (conv => lhs; simp only [go_sem, bytesD, beq_self_eq_true, bne_self_eq_false])
            repeat' (first
              | with_reducible refine acc_none ?_
              | (conv in hold _ => simp (disch := omega) only [go_sem, Nat.reduceEqDiff, Nat.reduceAdd, Nat.reduceMul, Nat.reduceSub, Nat.reduceLT, Nat.reduceLeDiff, ↓reduceIte, reduceCtorEq, Int.reduceToNat, bytesD, beq_self_eq_true, bne_self_eq_false])
              | refine Stp.go ?_
              | with_reducible first | refine it_pos rfl ?_ | refine it_neg (by decide) ?_ | refine st_nil rfl ?_ | refine s_op ?_ ?_ | exact True.intro
              | ((with_reducible first | refine dw_reg0 ?_ | refine dw_regB ?_); (conv => arg 3; whnf))
              | (refine Spl.go (fun hq he => ?_) (fun hq he => ?_) <;> first | (exfalso; clear hq; omega) | ((try (first | (conv => arg 8; simp only [hq]) | (conv => arg 4; simp only [hq]))); clear hq))
              | ((with_reducible first | refine c_split (fun hq => ?_) (fun hq => ?_) | refine q_split (fun hq => ?_) (fun hq => ?_)) <;> (try (first | (conv => arg 8; simp only [hq]) | (conv => arg 4; simp only [hq]))))
              | (with_reducible refine fin_0 ?_ (by first | rfl | (conv => lhs; simp only [go_sem, bytesD, beq_self_eq_true, bne_self_eq_false])) ?_)
              | exact Sub.refl _
              | omega)
            refine c_doesE (h1) ?_ ?_ ?_
            · ((try (conv => rhs; simp (disch := omega) only [go_sem, Nat.reduceEqDiff, Nat.reduceAdd, Nat.reduceMul, Nat.reduceSub, Nat.reduceLT, Nat.reduceLeDiff, ↓reduceIte, reduceCtorEq, Int.reduceToNat, bytesD, beq_self_eq_true, bne_self_eq_false])); try rfl)
            · first | rfl | (conv => lhs; simp only [go_sem, bytesD, beq_self_eq_true, bne_self_eq_false])
            repeat' (first
              | with_reducible refine acc_none ?_
              | (conv in hold _ => simp (disch := omega) only [go_sem, Nat.reduceEqDiff, Nat.reduceAdd, Nat.reduceMul, Nat.reduceSub, Nat.reduceLT, Nat.reduceLeDiff, ↓reduceIte, reduceCtorEq, Int.reduceToNat, bytesD, beq_self_eq_true, bne_self_eq_false])
              | refine Stp.go ?_
              | with_reducible first | refine it_pos rfl ?_ | refine it_neg (by decide) ?_ | refine st_nil rfl ?_ | refine s_op ?_ ?_ | exact True.intro
              | ((with_reducible first | refine dw_reg0 ?_ | refine dw_regB ?_); (conv => arg 3; whnf))
              | (refine Spl.go (fun hq he => ?_) (fun hq he => ?_) <;> first | (exfalso; clear hq; omega) | ((try (first | (conv => arg 8; simp only [hq]) | (conv => arg 4; simp only [hq]))); clear hq))
              | ((with_reducible first | refine c_split (fun hq => ?_) (fun hq => ?_) | refine q_split (fun hq => ?_) (fun hq => ?_)) <;> (try (first | (conv => arg 8; simp only [hq]) | (conv => arg 4; simp only [hq]))))
              | (with_reducible refine fin_0 ?_ (by first | rfl | (conv => lhs; simp only [go_sem, bytesD, beq_self_eq_true, bne_self_eq_false])) ?_)
              | exact Sub.refl _
              | omega)
            refine c_doesE (h2) ?_ ?_ ?_
            · ((try (conv => rhs; simp (disch := omega) only [go_sem, Nat.reduceEqDiff, Nat.reduceAdd, Nat.reduceMul, Nat.reduceSub, Nat.reduceLT, Nat.reduceLeDiff, ↓reduceIte, reduceCtorEq, Int.reduceToNat, bytesD, beq_self_eq_true, bne_self_eq_false])); try rfl)
            · first | rfl | (conv => lhs; simp only [go_sem, bytesD, beq_self_eq_true, bne_self_eq_false])
            repeat' (first
              | with_reducible refine acc_none ?_
              | (conv in hold _ => simp (disch := omega) only [go_sem, Nat.reduceEqDiff, Nat.reduceAdd, Nat.reduceMul, Nat.reduceSub, Nat.reduceLT, Nat.reduceLeDiff, ↓reduceIte, reduceCtorEq, Int.reduceToNat, bytesD, beq_self_eq_true, bne_self_eq_false])
              | refine Stp.go ?_
              | with_reducible first | refine it_pos rfl ?_ | refine it_neg (by decide) ?_ | refine st_nil rfl ?_ | refine s_op ?_ ?_ | exact True.intro
              | ((with_reducible first | refine dw_reg0 ?_ | refine dw_regB ?_); (conv => arg 3; whnf))
              | (refine Spl.go (fun hq he => ?_) (fun hq he => ?_) <;> first | (exfalso; clear hq; omega) | ((try (first | (conv => arg 8; simp only [hq]) | (conv => arg 4; simp only [hq]))); clear hq))
              | ((with_reducible first | refine c_split (fun hq => ?_) (fun hq => ?_) | refine q_split (fun hq => ?_) (fun hq => ?_)) <;> (try (first | (conv => arg 8; simp only [hq]) | (conv => arg 4; simp only [hq]))))
              | (with_reducible refine fin_0 ?_ (by first | rfl | (conv => lhs; simp only [go_sem, bytesD, beq_self_eq_true, bne_self_eq_false])) ?_)
              | exact Sub.refl _
              | omega)
            refine c_doesE (h3) ?_ ?_ ?_
            · ((try (conv => rhs; simp (disch := omega) only [go_sem, Nat.reduceEqDiff, Nat.reduceAdd, Nat.reduceMul, Nat.reduceSub, Nat.reduceLT, Nat.reduceLeDiff, ↓reduceIte, reduceCtorEq, Int.reduceToNat, bytesD, beq_self_eq_true, bne_self_eq_false, t2])); try rfl)
            · first | rfl | (conv => lhs; simp only [go_sem, bytesD, beq_self_eq_true, bne_self_eq_false, t2])
            repeat' (first
              | with_reducible refine acc_none ?_
              | (conv in hold _ => simp (disch := omega) only [go_sem, Nat.reduceEqDiff, Nat.reduceAdd, Nat.reduceMul, Nat.reduceSub, Nat.reduceLT, Nat.reduceLeDiff, ↓reduceIte, reduceCtorEq, Int.reduceToNat, bytesD, beq_self_eq_true, bne_self_eq_false, t2])
              | refine Stp.go ?_
              | with_reducible first | refine it_pos rfl ?_ | refine it_neg (by decide) ?_ | refine st_nil rfl ?_ | refine s_op ?_ ?_ | exact True.intro
              | ((with_reducible first | refine dw_reg0 ?_ | refine dw_regB ?_); (conv => arg 3; whnf))
              | (refine Spl.go (fun hq he => ?_) (fun hq he => ?_) <;> first | (exfalso; clear hq; omega) | ((try (first | (conv => arg 8; simp only [hq]) | (conv => arg 4; simp only [hq]))); clear hq))
              | ((with_reducible first | refine c_split (fun hq => ?_) (fun hq => ?_) | refine q_split (fun hq => ?_) (fun hq => ?_)) <;> (try (first | (conv => arg 8; simp only [hq]) | (conv => arg 4; simp only [hq]))))
              | (with_reducible refine fin_0 ?_ (by first | rfl | (conv => lhs; simp only [go_sem, bytesD, beq_self_eq_true, bne_self_eq_false, t2])) ?_)
              | exact Sub.refl _
              | omega)
            refine c_doesE (h2) ?_ ?_ ?_
            · ((try (conv => rhs; simp (disch := omega) only [go_sem, Nat.reduceEqDiff, Nat.reduceAdd, Nat.reduceMul, Nat.reduceSub, Nat.reduceLT, Nat.reduceLeDiff, ↓reduceIte, reduceCtorEq, Int.reduceToNat, bytesD, beq_self_eq_true, bne_self_eq_false])); try rfl)
            · first | rfl | (conv => lhs; simp only [go_sem, bytesD, beq_self_eq_true, bne_self_eq_false])
            repeat' (first
              | with_reducible refine acc_none ?_
              | (conv in hold _ => simp (disch := omega) only [go_sem, Nat.reduceEqDiff, Nat.reduceAdd, Nat.reduceMul, Nat.reduceSub, Nat.reduceLT, Nat.reduceLeDiff, ↓reduceIte, reduceCtorEq, Int.reduceToNat, bytesD, beq_self_eq_true, bne_self_eq_false])
              | refine Stp.go ?_
              | with_reducible first | refine it_pos rfl ?_ | refine it_neg (by decide) ?_ | refine st_nil rfl ?_ | refine s_op ?_ ?_ | exact True.intro
              | ((with_reducible first | refine dw_reg0 ?_ | refine dw_regB ?_); (conv => arg 3; whnf))
              | (refine Spl.go (fun hq he => ?_) (fun hq he => ?_) <;> first | (exfalso; clear hq; omega) | ((try (first | (conv => arg 8; simp only [hq]) | (conv => arg 4; simp only [hq]))); clear hq))
              | ((with_reducible first | refine c_split (fun hq => ?_) (fun hq => ?_) | refine q_split (fun hq => ?_) (fun hq => ?_)) <;> (try (first | (conv => arg 8; simp only [hq]) | (conv => arg 4; simp only [hq]))))
              | (with_reducible refine fin_0 ?_ (by first | rfl | (conv => lhs; simp only [go_sem, bytesD, beq_self_eq_true, bne_self_eq_false])) ?_)
              | exact Sub.refl _
              | omega)
          · have hs : sOk w s := ⟨by omega, by omega⟩
            have hsS := hs.inS hw
            have hm0 : 0 ≤ (cs'.length : Int).tmod (top w + 1) := Int.tmod_nonneg _ (by omega)
            have hm1 : (cs'.length : Int).tmod (top w + 1) < top w + 1 := Int.tmod_lt_of_pos _ (by omega)
            have hmO : sOk w ((cs'.length : Int).tmod (top w + 1)) := ⟨hm0, by omega⟩
            have hgO := sOk_bor hw hs hmO
            have hT := top_ok hw
            have h4 := IsKey_impl l (by omega) w (top w)
            have full : ∀ {c : Int}, sOk w c → sub (top w) (cl l c) → cl l c = top w := fun {c} hc hsub => sub_antisymm ((cl_ok hw h.2.2 hc).inS hw) (hT.inS hw) (sub_top hw (cl_ok hw h.2.2 hc)) hsub
            rw [decide_eq_true ⟨h, hT, full hT (cl_sup hw h.2.2 hT)⟩] at h4
            have hok : decide (dsOk w l ∧ sOk w s ∧ cl l s = top w) = decide (cl l s = top w) := by
              rw [Bool.eq_iff_iff, decide_eq_true_iff, decide_eq_true_iff]
              exact ⟨fun y => y.2.2, fun y => ⟨h, hs, y⟩⟩
            rw [hok] at h1 h2
            by_cases hk : cl l s = top w
            · rw [decide_eq_true hk] at h1 h2
              have h5 := IsKey_impl l (by omega) w (bor s ((cs'.length : Int).tmod (top w + 1)))
              have hm := cl_mono hw h.2.2 hs hgO (sub_or_l hsS (hmO.inS hw))
              rw [hk] at hm
              rw [decide_eq_true ⟨h, hgO, full hgO hm⟩] at h5
              refine does0 c_laws_FnIsKey mixed (Nat.le_of_ble_eq_true rfl) ?_
              conv => arg 3; whnf
              repeat' (first
                | with_reducible refine acc_none ?_
                | (conv in hold _ => simp (disch := omega) only [go_sem, Nat.reduceEqDiff, Nat.reduceAdd, Nat.reduceMul, Nat.reduceSub, Nat.reduceLT, Nat.reduceLeDiff, ↓reduceIte, reduceCtorEq, Int.reduceToNat, bytesD, beq_self_eq_true, bne_self_eq_false])
                | refine Stp.go ?_
                | with_reducible first | refine it_pos rfl ?_ | refine it_neg (by decide) ?_ | refine st_nil rfl ?_ | refine s_op ?_ ?_ | exact True.intro
                | ((with_reducible first | refine dw_reg0 ?_ | refine dw_regB ?_); (conv => arg 3; whnf))
                | (refine Spl.go (fun hq he => ?_) (fun hq he => ?_) <;> first | (exfalso; clear hq; omega) | ((try (first | (conv => arg 8; simp only [hq]) | (conv => arg 4; simp only [hq]))); clear hq))
                | ((with_reducible first | refine c_split (fun hq => ?_) (fun hq => ?_) | refine q_split (fun hq => ?_) (fun hq => ?_)) <;> (try (first | (conv => arg 8; simp only [hq]) | (conv => arg 4; simp only [hq]))))
                | (with_reducible refine fin_0 ?_ (by first | rfl | (conv => lhs; simp only [go_sem, bytesD, beq_self_eq_true, bne_self_eq_false])) ?_)
                | exact Sub.refl _
                | omega)
              refine c_doesE (hdr) ?_ ?_ ?_
              · ((try (conv => rhs; simp (disch := omega) only [go_sem, Nat.reduceEqDiff, Nat.reduceAdd, Nat.reduceMul, Nat.reduceSub, Nat.reduceLT, Nat.reduceLeDiff, ↓reduceIte, reduceCtorEq, Int.reduceToNat, bytesD, beq_self_eq_true, bne_self_eq_false])); try rfl)
              · first | rfl | (conv => lhs; simp only [go_sem, bytesD, beq_self_eq_true, bne_self_eq_false])
              repeat' (first
                | with_reducible refine acc_none ?_
                | (conv in hold _ => simp (disch := omega) only [go_sem, Nat.reduceEqDiff, Nat.reduceAdd, Nat.reduceMul, Nat.reduceSub, Nat.reduceLT, Nat.reduceLeDiff, ↓reduceIte, reduceCtorEq, Int.reduceToNat, bytesD, beq_self_eq_true, bne_self_eq_false])
                | refine Stp.go ?_
                | with_reducible first | refine it_pos rfl ?_ | refine it_neg (by decide) ?_ | refine st_nil rfl ?_ | refine s_op ?_ ?_ | exact True.intro
                | ((with_reducible first | refine dw_reg0 ?_ | refine dw_regB ?_); (conv => arg 3; whnf))
                | (refine Spl.go (fun hq he => ?_) (fun hq he => ?_) <;> first | (exfalso; clear hq; omega) | ((try (first | (conv => arg 8; simp only [hq]) | (conv => arg 4; simp only [hq]))); clear hq))
                | ((with_reducible first | refine c_split (fun hq => ?_) (fun hq => ?_) | refine q_split (fun hq => ?_) (fun hq => ?_)) <;> (try (first | (conv => arg 8; simp only [hq]) | (conv => arg 4; simp only [hq]))))
                | (with_reducible refine fin_0 ?_ (by first | rfl | (conv => lhs; simp only [go_sem, bytesD, beq_self_eq_true, bne_self_eq_false])) ?_)
                | exact Sub.refl _
                | omega)
              refine c_doesE (h1) ?_ ?_ ?_
              · ((try (conv => rhs; simp (disch := omega) only [go_sem, Nat.reduceEqDiff, Nat.reduceAdd, Nat.reduceMul, Nat.reduceSub, Nat.reduceLT, Nat.reduceLeDiff, ↓reduceIte, reduceCtorEq, Int.reduceToNat, bytesD, beq_self_eq_true, bne_self_eq_false])); try rfl)
              · first | rfl | (conv => lhs; simp only [go_sem, bytesD, beq_self_eq_true, bne_self_eq_false])
              repeat' (first
                | with_reducible refine acc_none ?_
                | (conv in hold _ => simp (disch := omega) only [go_sem, Nat.reduceEqDiff, Nat.reduceAdd, Nat.reduceMul, Nat.reduceSub, Nat.reduceLT, Nat.reduceLeDiff, ↓reduceIte, reduceCtorEq, Int.reduceToNat, bytesD, beq_self_eq_true, bne_self_eq_false])
                | refine Stp.go ?_
                | with_reducible first | refine it_pos rfl ?_ | refine it_neg (by decide) ?_ | refine st_nil rfl ?_ | refine s_op ?_ ?_ | exact True.intro
                | ((with_reducible first | refine dw_reg0 ?_ | refine dw_regB ?_); (conv => arg 3; whnf))
                | (refine Spl.go (fun hq he => ?_) (fun hq he => ?_) <;> first | (exfalso; clear hq; omega) | ((try (first | (conv => arg 8; simp only [hq]) | (conv => arg 4; simp only [hq]))); clear hq))
                | ((with_reducible first | refine c_split (fun hq => ?_) (fun hq => ?_) | refine q_split (fun hq => ?_) (fun hq => ?_)) <;> (try (first | (conv => arg 8; simp only [hq]) | (conv => arg 4; simp only [hq]))))
                | (with_reducible refine fin_0 ?_ (by first | rfl | (conv => lhs; simp only [go_sem, bytesD, beq_self_eq_true, bne_self_eq_false])) ?_)
                | exact Sub.refl _
                | omega)
              refine c_doesE (h2) ?_ ?_ ?_
              · ((try (conv => rhs; simp (disch := omega) only [go_sem, Nat.reduceEqDiff, Nat.reduceAdd, Nat.reduceMul, Nat.reduceSub, Nat.reduceLT, Nat.reduceLeDiff, ↓reduceIte, reduceCtorEq, Int.reduceToNat, bytesD, beq_self_eq_true, bne_self_eq_false])); try rfl)
              · first | rfl | (conv => lhs; simp only [go_sem, bytesD, beq_self_eq_true, bne_self_eq_false])
              repeat' (first
                | with_reducible refine acc_none ?_
                | (conv in hold _ => simp (disch := omega) only [go_sem, Nat.reduceEqDiff, Nat.reduceAdd, Nat.reduceMul, Nat.reduceSub, Nat.reduceLT, Nat.reduceLeDiff, ↓reduceIte, reduceCtorEq, Int.reduceToNat, bytesD, beq_self_eq_true, bne_self_eq_false])
                | refine Stp.go ?_
                | with_reducible first | refine it_pos rfl ?_ | refine it_neg (by decide) ?_ | refine st_nil rfl ?_ | refine s_op ?_ ?_ | exact True.intro
                | ((with_reducible first | refine dw_reg0 ?_ | refine dw_regB ?_); (conv => arg 3; whnf))
                | (refine Spl.go (fun hq he => ?_) (fun hq he => ?_) <;> first | (exfalso; clear hq; omega) | ((try (first | (conv => arg 8; simp only [hq]) | (conv => arg 4; simp only [hq]))); clear hq))
                | ((with_reducible first | refine c_split (fun hq => ?_) (fun hq => ?_) | refine q_split (fun hq => ?_) (fun hq => ?_)) <;> (try (first | (conv => arg 8; simp only [hq]) | (conv => arg 4; simp only [hq]))))
                | (with_reducible refine fin_0 ?_ (by first | rfl | (conv => lhs; simp only [go_sem, bytesD, beq_self_eq_true, bne_self_eq_false])) ?_)
                | exact Sub.refl _
                | omega)
              refine c_doesE (h3) ?_ ?_ ?_
              · ((try (conv => rhs; simp (disch := omega) only [go_sem, Nat.reduceEqDiff, Nat.reduceAdd, Nat.reduceMul, Nat.reduceSub, Nat.reduceLT, Nat.reduceLeDiff, ↓reduceIte, reduceCtorEq, Int.reduceToNat, bytesD, beq_self_eq_true, bne_self_eq_false, t2])); try rfl)
              · first | rfl | (conv => lhs; simp only [go_sem, bytesD, beq_self_eq_true, bne_self_eq_false, t2])
              repeat' (first
                | with_reducible refine acc_none ?_
                | (conv in hold _ => simp (disch := omega) only [go_sem, Nat.reduceEqDiff, Nat.reduceAdd, Nat.reduceMul, Nat.reduceSub, Nat.reduceLT, Nat.reduceLeDiff, ↓reduceIte, reduceCtorEq, Int.reduceToNat, bytesD, beq_self_eq_true, bne_self_eq_false, t2])
                | refine Stp.go ?_
                | with_reducible first | refine it_pos rfl ?_ | refine it_neg (by decide) ?_ | refine st_nil rfl ?_ | refine s_op ?_ ?_ | exact True.intro
                | ((with_reducible first | refine dw_reg0 ?_ | refine dw_regB ?_); (conv => arg 3; whnf))
                | (refine Spl.go (fun hq he => ?_) (fun hq he => ?_) <;> first | (exfalso; clear hq; omega) | ((try (first | (conv => arg 8; simp only [hq]) | (conv => arg 4; simp only [hq]))); clear hq))
                | ((with_reducible first | refine c_split (fun hq => ?_) (fun hq => ?_) | refine q_split (fun hq => ?_) (fun hq => ?_)) <;> (try (first | (conv => arg 8; simp only [hq]) | (conv => arg 4; simp only [hq]))))
                | (with_reducible refine fin_0 ?_ (by first | rfl | (conv => lhs; simp only [go_sem, bytesD, beq_self_eq_true, bne_self_eq_false, t2])) ?_)
                | exact Sub.refl _
                | omega)
              refine c_doesE (h4) ?_ ?_ ?_
              · ((try (conv => rhs; simp (disch := omega) only [go_sem, Nat.reduceEqDiff, Nat.reduceAdd, Nat.reduceMul, Nat.reduceSub, Nat.reduceLT, Nat.reduceLeDiff, ↓reduceIte, reduceCtorEq, Int.reduceToNat, bytesD, beq_self_eq_true, bne_self_eq_false, t2])); try rfl)
              · first | rfl | (conv => lhs; simp only [go_sem, bytesD, beq_self_eq_true, bne_self_eq_false, t2])
              repeat' (first
                | with_reducible refine acc_none ?_
                | (conv in hold _ => simp (disch := omega) only [go_sem, Nat.reduceEqDiff, Nat.reduceAdd, Nat.reduceMul, Nat.reduceSub, Nat.reduceLT, Nat.reduceLeDiff, ↓reduceIte, reduceCtorEq, Int.reduceToNat, bytesD, beq_self_eq_true, bne_self_eq_false, t2])
                | refine Stp.go ?_
                | with_reducible first | refine it_pos rfl ?_ | refine it_neg (by decide) ?_ | refine st_nil rfl ?_ | refine s_op ?_ ?_ | exact True.intro
                | ((with_reducible first | refine dw_reg0 ?_ | refine dw_regB ?_); (conv => arg 3; whnf))
                | (refine Spl.go (fun hq he => ?_) (fun hq he => ?_) <;> first | (exfalso; clear hq; omega) | ((try (first | (conv => arg 8; simp only [hq]) | (conv => arg 4; simp only [hq]))); clear hq))
                | ((with_reducible first | refine c_split (fun hq => ?_) (fun hq => ?_) | refine q_split (fun hq => ?_) (fun hq => ?_)) <;> (try (first | (conv => arg 8; simp only [hq]) | (conv => arg 4; simp only [hq]))))
                | (with_reducible refine fin_0 ?_ (by first | rfl | (conv => lhs; simp only [go_sem, bytesD, beq_self_eq_true, bne_self_eq_false, t2])) ?_)
                | exact Sub.refl _
                | omega)
              refine c_doesE (h5) ?_ ?_ ?_
              · ((try (conv => rhs; simp (disch := omega) only [go_sem, Nat.reduceEqDiff, Nat.reduceAdd, Nat.reduceMul, Nat.reduceSub, Nat.reduceLT, Nat.reduceLeDiff, ↓reduceIte, reduceCtorEq, Int.reduceToNat, bytesD, beq_self_eq_true, bne_self_eq_false, bor])); try rfl)
              · first | rfl | (conv => lhs; simp only [go_sem, bytesD, beq_self_eq_true, bne_self_eq_false, bor])
              repeat' (first
                | with_reducible refine acc_none ?_
                | (conv in hold _ => simp (disch := omega) only [go_sem, Nat.reduceEqDiff, Nat.reduceAdd, Nat.reduceMul, Nat.reduceSub, Nat.reduceLT, Nat.reduceLeDiff, ↓reduceIte, reduceCtorEq, Int.reduceToNat, bytesD, beq_self_eq_true, bne_self_eq_false, bor])
                | refine Stp.go ?_
                | with_reducible first | refine it_pos rfl ?_ | refine it_neg (by decide) ?_ | refine st_nil rfl ?_ | refine s_op ?_ ?_ | exact True.intro
                | ((with_reducible first | refine dw_reg0 ?_ | refine dw_regB ?_); (conv => arg 3; whnf))
                | (refine Spl.go (fun hq he => ?_) (fun hq he => ?_) <;> first | (exfalso; clear hq; omega) | ((try (first | (conv => arg 8; simp only [hq]) | (conv => arg 4; simp only [hq]))); clear hq))
                | ((with_reducible first | refine c_split (fun hq => ?_) (fun hq => ?_) | refine q_split (fun hq => ?_) (fun hq => ?_)) <;> (try (first | (conv => arg 8; simp only [hq]) | (conv => arg 4; simp only [hq]))))
                | (with_reducible refine fin_0 ?_ (by first | rfl | (conv => lhs; simp only [go_sem, bytesD, beq_self_eq_true, bne_self_eq_false, bor])) ?_)
                | exact Sub.refl _
                | omega)
            · rw [decide_eq_false hk] at h1 h2
              refine does0 c_laws_FnIsKey mixed (Nat.le_of_ble_eq_true rfl) ?_
              conv => arg 3; whnf
              repeat' (first
                | with_reducible refine acc_none ?_
                | (conv in hold _ => simp (disch := omega) only [go_sem, Nat.reduceEqDiff, Nat.reduceAdd, Nat.reduceMul, Nat.reduceSub, Nat.reduceLT, Nat.reduceLeDiff, ↓reduceIte, reduceCtorEq, Int.reduceToNat, bytesD, beq_self_eq_true, bne_self_eq_false])
                | refine Stp.go ?_
                | with_reducible first | refine it_pos rfl ?_ | refine it_neg (by decide) ?_ | refine st_nil rfl ?_ | refine s_op ?_ ?_ | exact True.intro
                | ((with_reducible first | refine dw_reg0 ?_ | refine dw_regB ?_); (conv => arg 3; whnf))
                | (refine Spl.go (fun hq he => ?_) (fun hq he => ?_) <;> first | (exfalso; clear hq; omega) | ((try (first | (conv => arg 8; simp only [hq]) | (conv => arg 4; simp only [hq]))); clear hq))
                | ((with_reducible first | refine c_split (fun hq => ?_) (fun hq => ?_) | refine q_split (fun hq => ?_) (fun hq => ?_)) <;> (try (first | (conv => arg 8; simp only [hq]) | (conv => arg 4; simp only [hq]))))
                | (with_reducible refine fin_0 ?_ (by first | rfl | (conv => lhs; simp only [go_sem, bytesD, beq_self_eq_true, bne_self_eq_false])) ?_)
                | exact Sub.refl _
                | omega)
              refine c_doesE (hdr) ?_ ?_ ?_
              · ((try (conv => rhs; simp (disch := omega) only [go_sem, Nat.reduceEqDiff, Nat.reduceAdd, Nat.reduceMul, Nat.reduceSub, Nat.reduceLT, Nat.reduceLeDiff, ↓reduceIte, reduceCtorEq, Int.reduceToNat, bytesD, beq_self_eq_true, bne_self_eq_false])); try rfl)
              · first | rfl | (conv => lhs; simp only [go_sem, bytesD, beq_self_eq_true, bne_self_eq_false])
              repeat' (first
                | with_reducible refine acc_none ?_
                | (conv in hold _ => simp (disch := omega) only [go_sem, Nat.reduceEqDiff, Nat.reduceAdd, Nat.reduceMul, Nat.reduceSub, Nat.reduceLT, Nat.reduceLeDiff, ↓reduceIte, reduceCtorEq, Int.reduceToNat, bytesD, beq_self_eq_true, bne_self_eq_false])
                | refine Stp.go ?_
                | with_reducible first | refine it_pos rfl ?_ | refine it_neg (by decide) ?_ | refine st_nil rfl ?_ | refine s_op ?_ ?_ | exact True.intro
                | ((with_reducible first | refine dw_reg0 ?_ | refine dw_regB ?_); (conv => arg 3; whnf))
                | (refine Spl.go (fun hq he => ?_) (fun hq he => ?_) <;> first | (exfalso; clear hq; omega) | ((try (first | (conv => arg 8; simp only [hq]) | (conv => arg 4; simp only [hq]))); clear hq))
                | ((with_reducible first | refine c_split (fun hq => ?_) (fun hq => ?_) | refine q_split (fun hq => ?_) (fun hq => ?_)) <;> (try (first | (conv => arg 8; simp only [hq]) | (conv => arg 4; simp only [hq]))))
                | (with_reducible refine fin_0 ?_ (by first | rfl | (conv => lhs; simp only [go_sem, bytesD, beq_self_eq_true, bne_self_eq_false])) ?_)
                | exact Sub.refl _
                | omega)
              refine c_doesE (h1) ?_ ?_ ?_
              · ((try (conv => rhs; simp (disch := omega) only [go_sem, Nat.reduceEqDiff, Nat.reduceAdd, Nat.reduceMul, Nat.reduceSub, Nat.reduceLT, Nat.reduceLeDiff, ↓reduceIte, reduceCtorEq, Int.reduceToNat, bytesD, beq_self_eq_true, bne_self_eq_false])); try rfl)
              · first | rfl | (conv => lhs; simp only [go_sem, bytesD, beq_self_eq_true, bne_self_eq_false])
              repeat' (first
                | with_reducible refine acc_none ?_
                | (conv in hold _ => simp (disch := omega) only [go_sem, Nat.reduceEqDiff, Nat.reduceAdd, Nat.reduceMul, Nat.reduceSub, Nat.reduceLT, Nat.reduceLeDiff, ↓reduceIte, reduceCtorEq, Int.reduceToNat, bytesD, beq_self_eq_true, bne_self_eq_false])
                | refine Stp.go ?_
                | with_reducible first | refine it_pos rfl ?_ | refine it_neg (by decide) ?_ | refine st_nil rfl ?_ | refine s_op ?_ ?_ | exact True.intro
                | ((with_reducible first | refine dw_reg0 ?_ | refine dw_regB ?_); (conv => arg 3; whnf))
                | (refine Spl.go (fun hq he => ?_) (fun hq he => ?_) <;> first | (exfalso; clear hq; omega) | ((try (first | (conv => arg 8; simp only [hq]) | (conv => arg 4; simp only [hq]))); clear hq))
                | ((with_reducible first | refine c_split (fun hq => ?_) (fun hq => ?_) | refine q_split (fun hq => ?_) (fun hq => ?_)) <;> (try (first | (conv => arg 8; simp only [hq]) | (conv => arg 4; simp only [hq]))))
                | (with_reducible refine fin_0 ?_ (by first | rfl | (conv => lhs; simp only [go_sem, bytesD, beq_self_eq_true, bne_self_eq_false])) ?_)
                | exact Sub.refl _
                | omega)
              refine c_doesE (h2) ?_ ?_ ?_
              · ((try (conv => rhs; simp (disch := omega) only [go_sem, Nat.reduceEqDiff, Nat.reduceAdd, Nat.reduceMul, Nat.reduceSub, Nat.reduceLT, Nat.reduceLeDiff, ↓reduceIte, reduceCtorEq, Int.reduceToNat, bytesD, beq_self_eq_true, bne_self_eq_false])); try rfl)
              · first | rfl | (conv => lhs; simp only [go_sem, bytesD, beq_self_eq_true, bne_self_eq_false])
              repeat' (first
                | with_reducible refine acc_none ?_
                | (conv in hold _ => simp (disch := omega) only [go_sem, Nat.reduceEqDiff, Nat.reduceAdd, Nat.reduceMul, Nat.reduceSub, Nat.reduceLT, Nat.reduceLeDiff, ↓reduceIte, reduceCtorEq, Int.reduceToNat, bytesD, beq_self_eq_true, bne_self_eq_false])
                | refine Stp.go ?_
                | with_reducible first | refine it_pos rfl ?_ | refine it_neg (by decide) ?_ | refine st_nil rfl ?_ | refine s_op ?_ ?_ | exact True.intro
                | ((with_reducible first | refine dw_reg0 ?_ | refine dw_regB ?_); (conv => arg 3; whnf))
                | (refine Spl.go (fun hq he => ?_) (fun hq he => ?_) <;> first | (exfalso; clear hq; omega) | ((try (first | (conv => arg 8; simp only [hq]) | (conv => arg 4; simp only [hq]))); clear hq))
                | ((with_reducible first | refine c_split (fun hq => ?_) (fun hq => ?_) | refine q_split (fun hq => ?_) (fun hq => ?_)) <;> (try (first | (conv => arg 8; simp only [hq]) | (conv => arg 4; simp only [hq]))))
                | (with_reducible refine fin_0 ?_ (by first | rfl | (conv => lhs; simp only [go_sem, bytesD, beq_self_eq_true, bne_self_eq_false])) ?_)
                | exact Sub.refl _
                | omega)
              refine c_doesE (h3) ?_ ?_ ?_
              · ((try (conv => rhs; simp (disch := omega) only [go_sem, Nat.reduceEqDiff, Nat.reduceAdd, Nat.reduceMul, Nat.reduceSub, Nat.reduceLT, Nat.reduceLeDiff, ↓reduceIte, reduceCtorEq, Int.reduceToNat, bytesD, beq_self_eq_true, bne_self_eq_false, t2])); try rfl)
              · first | rfl | (conv => lhs; simp only [go_sem, bytesD, beq_self_eq_true, bne_self_eq_false, t2])
              repeat' (first
                | with_reducible refine acc_none ?_
                | (conv in hold _ => simp (disch := omega) only [go_sem, Nat.reduceEqDiff, Nat.reduceAdd, Nat.reduceMul, Nat.reduceSub, Nat.reduceLT, Nat.reduceLeDiff, ↓reduceIte, reduceCtorEq, Int.reduceToNat, bytesD, beq_self_eq_true, bne_self_eq_false, t2])
                | refine Stp.go ?_
                | with_reducible first | refine it_pos rfl ?_ | refine it_neg (by decide) ?_ | refine st_nil rfl ?_ | refine s_op ?_ ?_ | exact True.intro
                | ((with_reducible first | refine dw_reg0 ?_ | refine dw_regB ?_); (conv => arg 3; whnf))
                | (refine Spl.go (fun hq he => ?_) (fun hq he => ?_) <;> first | (exfalso; clear hq; omega) | ((try (first | (conv => arg 8; simp only [hq]) | (conv => arg 4; simp only [hq]))); clear hq))
                | ((with_reducible first | refine c_split (fun hq => ?_) (fun hq => ?_) | refine q_split (fun hq => ?_) (fun hq => ?_)) <;> (try (first | (conv => arg 8; simp only [hq]) | (conv => arg 4; simp only [hq]))))
                | (with_reducible refine fin_0 ?_ (by first | rfl | (conv => lhs; simp only [go_sem, bytesD, beq_self_eq_true, bne_self_eq_false, t2])) ?_)
                | exact Sub.refl _
                | omega)
              refine c_doesE (h4) ?_ ?_ ?_
              · ((try (conv => rhs; simp (disch := omega) only [go_sem, Nat.reduceEqDiff, Nat.reduceAdd, Nat.reduceMul, Nat.reduceSub, Nat.reduceLT, Nat.reduceLeDiff, ↓reduceIte, reduceCtorEq, Int.reduceToNat, bytesD, beq_self_eq_true, bne_self_eq_false])); try rfl)
              · first | rfl | (conv => lhs; simp only [go_sem, bytesD, beq_self_eq_true, bne_self_eq_false])
              repeat' (first
                | with_reducible refine acc_none ?_
                | (conv in hold _ => simp (disch := omega) only [go_sem, Nat.reduceEqDiff, Nat.reduceAdd, Nat.reduceMul, Nat.reduceSub, Nat.reduceLT, Nat.reduceLeDiff, ↓reduceIte, reduceCtorEq, Int.reduceToNat, bytesD, beq_self_eq_true, bne_self_eq_false])
                | refine Stp.go ?_
                | with_reducible first | refine it_pos rfl ?_ | refine it_neg (by decide) ?_ | refine st_nil rfl ?_ | refine s_op ?_ ?_ | exact True.intro
                | ((with_reducible first | refine dw_reg0 ?_ | refine dw_regB ?_); (conv => arg 3; whnf))
                | (refine Spl.go (fun hq he => ?_) (fun hq he => ?_) <;> first | (exfalso; clear hq; omega) | ((try (first | (conv => arg 8; simp only [hq]) | (conv => arg 4; simp only [hq]))); clear hq))
                | ((with_reducible first | refine c_split (fun hq => ?_) (fun hq => ?_) | refine q_split (fun hq => ?_) (fun hq => ?_)) <;> (try (first | (conv => arg 8; simp only [hq]) | (conv => arg 4; simp only [hq]))))
                | (with_reducible refine fin_0 ?_ (by first | rfl | (conv => lhs; simp only [go_sem, bytesD, beq_self_eq_true, bne_self_eq_false])) ?_)
                | exact Sub.refl _
                | omega)
      · rw [decide_eq_false h] at h3
        refine does0 c_laws_FnIsKey mixed (Nat.le_of_ble_eq_true rfl) ?_
        conv => arg 3; whnf
        repeat' (first
          | with_reducible refine acc_none ?_
          | (conv in hold _ => simp (disch := omega) only [go_sem, Nat.reduceEqDiff, Nat.reduceAdd, Nat.reduceMul, Nat.reduceSub, Nat.reduceLT, Nat.reduceLeDiff, ↓reduceIte, reduceCtorEq, Int.reduceToNat, bytesD, beq_self_eq_true, bne_self_eq_false])
          | refine Stp.go ?_
          | with_reducible first | refine it_pos rfl ?_ | refine it_neg (by decide) ?_ | refine st_nil rfl ?_ | refine s_op ?_ ?_ | exact True.intro
          | ((with_reducible first | refine dw_reg0 ?_ | refine dw_regB ?_); (conv => arg 3; whnf))
          | (refine Spl.go (fun hq he => ?_) (fun hq he => ?_) <;> first | (exfalso; clear hq; omega) | ((try (first | (conv => arg 8; simp only [hq]) | (conv => arg 4; simp only [hq]))); clear hq))
          | ((with_reducible first | refine c_split (fun hq => ?_) (fun hq => ?_) | refine q_split (fun hq => ?_) (fun hq => ?_)) <;> (try (first | (conv => arg 8; simp only [hq]) | (conv => arg 4; simp only [hq]))))
          | (with_reducible refine fin_0 ?_ (by first | rfl | (conv => lhs; simp only [go_sem, bytesD, beq_self_eq_true, bne_self_eq_false])) ?_)
          | exact Sub.refl _
          | omega)
        refine c_doesE (hdr) ?_ ?_ ?_
        · ((try (conv => rhs; simp (disch := omega) only [go_sem, Nat.reduceEqDiff, Nat.reduceAdd, Nat.reduceMul, Nat.reduceSub, Nat.reduceLT, Nat.reduceLeDiff, ↓reduceIte, reduceCtorEq, Int.reduceToNat, bytesD, beq_self_eq_true, bne_self_eq_false])); try rfl)
        · first | rfl | (conv => lhs; simp only [go_sem, bytesD, beq_self_eq_true, bne_self_eq_false])
        repeat' (first
          | with_reducible refine acc_none ?_
          | (conv in hold _ => simp (disch := omega) only [go_sem, Nat.reduceEqDiff, Nat.reduceAdd, Nat.reduceMul, Nat.reduceSub, Nat.reduceLT, Nat.reduceLeDiff, ↓reduceIte, reduceCtorEq, Int.reduceToNat, bytesD, beq_self_eq_true, bne_self_eq_false])
          | refine Stp.go ?_
          | with_reducible first | refine it_pos rfl ?_ | refine it_neg (by decide) ?_ | refine st_nil rfl ?_ | refine s_op ?_ ?_ | exact True.intro
          | ((with_reducible first | refine dw_reg0 ?_ | refine dw_regB ?_); (conv => arg 3; whnf))
          | (refine Spl.go (fun hq he => ?_) (fun hq he => ?_) <;> first | (exfalso; clear hq; omega) | ((try (first | (conv => arg 8; simp only [hq]) | (conv => arg 4; simp only [hq]))); clear hq))
          | ((with_reducible first | refine c_split (fun hq => ?_) (fun hq => ?_) | refine q_split (fun hq => ?_) (fun hq => ?_)) <;> (try (first | (conv => arg 8; simp only [hq]) | (conv => arg 4; simp only [hq]))))
          | (with_reducible refine fin_0 ?_ (by first | rfl | (conv => lhs; simp only [go_sem, bytesD, beq_self_eq_true, bne_self_eq_false])) ?_)
          | exact Sub.refl _
          | omega)
        refine c_doesE (h1) ?_ ?_ ?_
        · ((try (conv => rhs; simp (disch := omega) only [go_sem, Nat.reduceEqDiff, Nat.reduceAdd, Nat.reduceMul, Nat.reduceSub, Nat.reduceLT, Nat.reduceLeDiff, ↓reduceIte, reduceCtorEq, Int.reduceToNat, bytesD, beq_self_eq_true, bne_self_eq_false])); try rfl)
        · first | rfl | (conv => lhs; simp only [go_sem, bytesD, beq_self_eq_true, bne_self_eq_false])
        repeat' (first
          | with_reducible refine acc_none ?_
          | (conv in hold _ => simp (disch := omega) only [go_sem, Nat.reduceEqDiff, Nat.reduceAdd, Nat.reduceMul, Nat.reduceSub, Nat.reduceLT, Nat.reduceLeDiff, ↓reduceIte, reduceCtorEq, Int.reduceToNat, bytesD, beq_self_eq_true, bne_self_eq_false])
          | refine Stp.go ?_
          | with_reducible first | refine it_pos rfl ?_ | refine it_neg (by decide) ?_ | refine st_nil rfl ?_ | refine s_op ?_ ?_ | exact True.intro
          | ((with_reducible first | refine dw_reg0 ?_ | refine dw_regB ?_); (conv => arg 3; whnf))
          | (refine Spl.go (fun hq he => ?_) (fun hq he => ?_) <;> first | (exfalso; clear hq; omega) | ((try (first | (conv => arg 8; simp only [hq]) | (conv => arg 4; simp only [hq]))); clear hq))
          | ((with_reducible first | refine c_split (fun hq => ?_) (fun hq => ?_) | refine q_split (fun hq => ?_) (fun hq => ?_)) <;> (try (first | (conv => arg 8; simp only [hq]) | (conv => arg 4; simp only [hq]))))
          | (with_reducible refine fin_0 ?_ (by first | rfl | (conv => lhs; simp only [go_sem, bytesD, beq_self_eq_true, bne_self_eq_false])) ?_)
          | exact Sub.refl _
          | omega)
        refine c_doesE (h2) ?_ ?_ ?_
        · ((try (conv => rhs; simp (disch := omega) only [go_sem, Nat.reduceEqDiff, Nat.reduceAdd, Nat.reduceMul, Nat.reduceSub, Nat.reduceLT, Nat.reduceLeDiff, ↓reduceIte, reduceCtorEq, Int.reduceToNat, bytesD, beq_self_eq_true, bne_self_eq_false])); try rfl)
        · first | rfl | (conv => lhs; simp only [go_sem, bytesD, beq_self_eq_true, bne_self_eq_false])
        repeat' (first
          | with_reducible refine acc_none ?_
          | (conv in hold _ => simp (disch := omega) only [go_sem, Nat.reduceEqDiff, Nat.reduceAdd, Nat.reduceMul, Nat.reduceSub, Nat.reduceLT, Nat.reduceLeDiff, ↓reduceIte, reduceCtorEq, Int.reduceToNat, bytesD, beq_self_eq_true, bne_self_eq_false])
          | refine Stp.go ?_
          | with_reducible first | refine it_pos rfl ?_ | refine it_neg (by decide) ?_ | refine st_nil rfl ?_ | refine s_op ?_ ?_ | exact True.intro
          | ((with_reducible first | refine dw_reg0 ?_ | refine dw_regB ?_); (conv => arg 3; whnf))
          | (refine Spl.go (fun hq he => ?_) (fun hq he => ?_) <;> first | (exfalso; clear hq; omega) | ((try (first | (conv => arg 8; simp only [hq]) | (conv => arg 4; simp only [hq]))); clear hq))
          | ((with_reducible first | refine c_split (fun hq => ?_) (fun hq => ?_) | refine q_split (fun hq => ?_) (fun hq => ?_)) <;> (try (first | (conv => arg 8; simp only [hq]) | (conv => arg 4; simp only [hq]))))
          | (with_reducible refine fin_0 ?_ (by first | rfl | (conv => lhs; simp only [go_sem, bytesD, beq_self_eq_true, bne_self_eq_false])) ?_)
          | exact Sub.refl _
          | omega)
        refine c_doesE (h3) ?_ ?_ ?_
        · ((try (conv => rhs; simp (disch := omega) only [go_sem, Nat.reduceEqDiff, Nat.reduceAdd, Nat.reduceMul, Nat.reduceSub, Nat.reduceLT, Nat.reduceLeDiff, ↓reduceIte, reduceCtorEq, Int.reduceToNat, bytesD, beq_self_eq_true, bne_self_eq_false])); try rfl)
        · first | rfl | (conv => lhs; simp only [go_sem, bytesD, beq_self_eq_true, bne_self_eq_false])
        repeat' (first
          | with_reducible refine acc_none ?_
          | (conv in hold _ => simp (disch := omega) only [go_sem, Nat.reduceEqDiff, Nat.reduceAdd, Nat.reduceMul, Nat.reduceSub, Nat.reduceLT, Nat.reduceLeDiff, ↓reduceIte, reduceCtorEq, Int.reduceToNat, bytesD, beq_self_eq_true, bne_self_eq_false])
          | refine Stp.go ?_
          | with_reducible first | refine it_pos rfl ?_ | refine it_neg (by decide) ?_ | refine st_nil rfl ?_ | refine s_op ?_ ?_ | exact True.intro
          | ((with_reducible first | refine dw_reg0 ?_ | refine dw_regB ?_); (conv => arg 3; whnf))
          | (refine Spl.go (fun hq he => ?_) (fun hq he => ?_) <;> first | (exfalso; clear hq; omega) | ((try (first | (conv => arg 8; simp only [hq]) | (conv => arg 4; simp only [hq]))); clear hq))
          | ((with_reducible first | refine c_split (fun hq => ?_) (fun hq => ?_) | refine q_split (fun hq => ?_) (fun hq => ?_)) <;> (try (first | (conv => arg 8; simp only [hq]) | (conv => arg 4; simp only [hq]))))
          | (with_reducible refine fin_0 ?_ (by first | rfl | (conv => lhs; simp only [go_sem, bytesD, beq_self_eq_true, bne_self_eq_false])) ?_)
          | exact Sub.refl _
          | omega)
        refine c_doesE (h2) ?_ ?_ ?_
        · ((try (conv => rhs; simp (disch := omega) only [go_sem, Nat.reduceEqDiff, Nat.reduceAdd, Nat.reduceMul, Nat.reduceSub, Nat.reduceLT, Nat.reduceLeDiff, ↓reduceIte, reduceCtorEq, Int.reduceToNat, bytesD, beq_self_eq_true, bne_self_eq_false])); try rfl)
        · first | rfl | (conv => lhs; simp only [go_sem, bytesD, beq_self_eq_true, bne_self_eq_false])
        repeat' (first
          | with_reducible refine acc_none ?_
          | (conv in hold _ => simp (disch := omega) only [go_sem, Nat.reduceEqDiff, Nat.reduceAdd, Nat.reduceMul, Nat.reduceSub, Nat.reduceLT, Nat.reduceLeDiff, ↓reduceIte, reduceCtorEq, Int.reduceToNat, bytesD, beq_self_eq_true, bne_self_eq_false])
          | refine Stp.go ?_
          | with_reducible first | refine it_pos rfl ?_ | refine it_neg (by decide) ?_ | refine st_nil rfl ?_ | refine s_op ?_ ?_ | exact True.intro
          | ((with_reducible first | refine dw_reg0 ?_ | refine dw_regB ?_); (conv => arg 3; whnf))
          | (refine Spl.go (fun hq he => ?_) (fun hq he => ?_) <;> first | (exfalso; clear hq; omega) | ((try (first | (conv => arg 8; simp only [hq]) | (conv => arg 4; simp only [hq]))); clear hq))
          | ((with_reducible first | refine c_split (fun hq => ?_) (fun hq => ?_) | refine q_split (fun hq => ?_) (fun hq => ?_)) <;> (try (first | (conv => arg 8; simp only [hq]) | (conv => arg 4; simp only [hq]))))
          | (with_reducible refine fin_0 ?_ (by first | rfl | (conv => lhs; simp only [go_sem, bytesD, beq_self_eq_true, bne_self_eq_false])) ?_)
          | exact Sub.refl _
          | omega)
    · refine does0 c_laws_FnIsKey mixed (Nat.le_of_ble_eq_true rfl) ?_
      conv => arg 3; whnf
      repeat' (first
        | with_reducible refine acc_none ?_
        | (conv in hold _ => simp (disch := omega) only [go_sem, Nat.reduceEqDiff, Nat.reduceAdd, Nat.reduceMul, Nat.reduceSub, Nat.reduceLT, Nat.reduceLeDiff, ↓reduceIte, reduceCtorEq, Int.reduceToNat, bytesD, beq_self_eq_true, bne_self_eq_false])
        | refine Stp.go ?_
        | with_reducible first | refine it_pos rfl ?_ | refine it_neg (by decide) ?_ | refine st_nil rfl ?_ | refine s_op ?_ ?_ | exact True.intro
        | ((with_reducible first | refine dw_reg0 ?_ | refine dw_regB ?_); (conv => arg 3; whnf))
        | (refine Spl.go (fun hq he => ?_) (fun hq he => ?_) <;> first | (exfalso; clear hq; omega) | ((try (first | (conv => arg 8; simp only [hq]) | (conv => arg 4; simp only [hq]))); clear hq))
        | ((with_reducible first | refine c_split (fun hq => ?_) (fun hq => ?_) | refine q_split (fun hq => ?_) (fun hq => ?_)) <;> (try (first | (conv => arg 8; simp only [hq]) | (conv => arg 4; simp only [hq]))))
        | (with_reducible refine fin_0 ?_ (by first | rfl | (conv => lhs; simp only [go_sem, bytesD, beq_self_eq_true, bne_self_eq_false])) ?_)
        | exact Sub.refl _
        | omega)
  · refine does0 c_laws_FnIsKey mixed (Nat.le_of_ble_eq_true rfl) ?_
    conv => arg 3; whnf
    repeat' (first
      | with_reducible refine acc_none ?_
      | (conv in hold _ => simp (disch := omega) only [go_sem, Nat.reduceEqDiff, Nat.reduceAdd, Nat.reduceMul, Nat.reduceSub, Nat.reduceLT, Nat.reduceLeDiff, ↓reduceIte, reduceCtorEq, Int.reduceToNat, bytesD, beq_self_eq_true, bne_self_eq_false])
      | refine Stp.go ?_
      | with_reducible first | refine it_pos rfl ?_ | refine it_neg (by decide) ?_ | refine st_nil rfl ?_ | refine s_op ?_ ?_ | exact True.intro
      | ((with_reducible first | refine dw_reg0 ?_ | refine dw_regB ?_); (conv => arg 3; whnf))
      | (refine Spl.go (fun hq he => ?_) (fun hq he => ?_) <;> first | (exfalso; clear hq; omega) | ((try (first | (conv => arg 8; simp only [hq]) | (conv => arg 4; simp only [hq]))); clear hq))
      | ((with_reducible first | refine c_split (fun hq => ?_) (fun hq => ?_) | refine q_split (fun hq => ?_) (fun hq => ?_)) <;> (try (first | (conv => arg 8; simp only [hq]) | (conv => arg 4; simp only [hq]))))
      | (with_reducible refine fin_0 ?_ (by first | rfl | (conv => lhs; simp only [go_sem, bytesD, beq_self_eq_true, bne_self_eq_false])) ?_)
      | exact Sub.refl _
      | omega)
theorem walk_FnIsKey (a : Option Addr) (len cap : Nat) (zs : List Int) (a' : Option Addr) (len' cap' : Nat) (zs' : List Int) (w : World) (h : IsRow .u8 w a len cap zs) (h' : IsRow .u8 w a' len' cap' zs') :
    Calls Try.prog 7 #[.slice a len cap, .slice a' len' cap'] w fun e W' => e = .returned (.bool true) ∧ Below w.heap.size w W' := walk_of2 does_FnIsKey a len cap zs a' len' cap' zs' w h h'
end Go.Proofs.Ytnemkgclkbhjkaa
