/-
  Outcomes, in both packages. No condition.
-/
import Derived.Test.YtebnhookppmjpaaVOutD
import Derived.Test.YtebnhookppmjpaaVVal
import Derived.Test.YtebnhookppmjpaaVGateI
set_option maxHeartbeats 4000000
set_option maxRecDepth 100000
set_option linter.unusedVariables false
namespace Go.Proofs.Ytebnhookppmjpaa
open Go.RowKit

/-- States of columns. -/
def ssOk (ss : List Int) : Prop := ∀ (j : Nat) (s : Int), ss[j]? = some s → 1 ≤ s ∧ s ≤ 7
noncomputable instance ssDec (ss : List Int) : Decidable ((1 ≤ (ss.length : Int) ∧ (ss.length : Int) ≤ 6) ∧ ssOk ss) := Classical.propDecidable _
theorem next1 {α : Type} {l : List α} {i : Nat} {x : α} {P : α → Prop} (hx : l[i]? = some x) (h : P x) (hJ : ∀ (j : Nat) (y : α), j < i → l[j]? = some y → P y) : ∀ (j : Nat) (y : α), j < i + 1 → l[j]? = some y → P y := by
  intro j y hj hy
  by_cases hji : j = i
  · subst hji
    rw [hx] at hy
    cases hy
    exact h
  · exact hJ j y (by omega) hy
theorem validStates_ok (ss : List Int) (hl : ss.length ≤ 1048576) : Does Try.prog 22 [] [intsD ss] (Bo (decide ((1 ≤ (ss.length : Int) ∧ (ss.length : Int) ≤ 6) ∧ ssOk ss))) [] := by
  refine does0 c_spec_validStates mixed (Nat.le_of_ble_eq_true rfl) ?_
  conv => arg 3; whnf
  repeat' (first
    | with_reducible refine acc_none ?_
    | (conv in hold _ => simp (disch := omega) only [go_sem, Nat.reduceEqDiff, Nat.reduceAdd, Nat.reduceMul, Nat.reduceSub, Nat.reduceLT, Nat.reduceLeDiff, ↓reduceIte, reduceCtorEq, Int.reduceToNat])
    | refine Stp.go ?_
    | with_reducible first | refine it_pos rfl ?_ | refine it_neg (by decide) ?_ | refine st_nil rfl ?_ | refine s_op ?_ ?_ | exact True.intro
    | ((with_reducible first | refine dw_reg0 ?_ | refine dw_regB ?_); (conv => arg 3; whnf))
    | (refine Spl.go (fun hq he => ?_) (fun hq he => ?_) <;> first | (exfalso; clear hq; omega) | ((try (first | (conv => arg 8; simp only [hq]) | (conv => arg 4; simp only [hq]))); clear hq))
    | ((with_reducible first | refine c_split (fun hq => ?_) (fun hq => ?_) | refine q_split (fun hq => ?_) (fun hq => ?_)) <;> (try (first | (conv => arg 8; simp only [hq]) | (conv => arg 4; simp only [hq]))))
    | (with_reducible refine fin_0 ?_ (by first | rfl | (conv => lhs; simp only [go_sem])) ?_)
    | exact Sub.refl _
    | omega)
  refine dw_for (c := 0) (l := fun i => [(0, intsD ss), (3, I i)]) ss.length (fun i => ∀ (j : Nat) (s : Int), j < i → ss[j]? = some s → 1 ≤ s ∧ s ≤ 7) 0 (fun j s hj => by omega) (Wk.list [] rfl rfl ?_) (fun i hi hJ => ?_) (Nat.zero_le _)
  · repeat' (first | (conv in hold _ => simp (disch := omega) only [go_sem, Nat.reduceEqDiff, Nat.reduceAdd, Nat.reduceMul, Nat.reduceSub, Nat.reduceLT, Nat.reduceLeDiff, ↓reduceIte, reduceCtorEq, Int.reduceToNat]) | exact True.intro | exact Sub.refl _ | omega)
    exact rfl
  · rcases at_or_end hi with ⟨x, hx, hlt⟩ | rfl
    · have hr := inRange_ok x 1 7
      by_cases h1 : 1 ≤ x ∧ x ≤ 7
      · rw [decide_eq_true h1] at hr
        repeat' (first
          | with_reducible refine acc_none ?_
          | (conv in hold _ => simp (disch := omega) only [go_sem, Nat.reduceEqDiff, Nat.reduceAdd, Nat.reduceMul, Nat.reduceSub, Nat.reduceLT, Nat.reduceLeDiff, ↓reduceIte, reduceCtorEq, Int.reduceToNat, List.getElem?_map, hx, Option.map_some])
          | refine Stp.go ?_
          | with_reducible first | refine it_pos rfl ?_ | refine it_neg (by decide) ?_ | refine st_nil rfl ?_ | refine s_op ?_ ?_ | exact True.intro
          | ((with_reducible first | refine dw_reg0 ?_ | refine dw_regB ?_); (conv => arg 3; whnf))
          | (refine Spl.go (fun hq he => ?_) (fun hq he => ?_) <;> first | (exfalso; clear hq; omega) | ((try (first | (conv => arg 8; simp only [hq]) | (conv => arg 4; simp only [hq]))); clear hq))
          | ((with_reducible first | refine c_split (fun hq => ?_) (fun hq => ?_) | refine q_split (fun hq => ?_) (fun hq => ?_)) <;> (try (first | (conv => arg 8; simp only [hq]) | (conv => arg 4; simp only [hq]))))
          | (with_reducible refine fin_0 ?_ (by first | rfl | (conv => lhs; simp only [go_sem, List.getElem?_map, hx, Option.map_some])) ?_)
          | exact Sub.refl _
          | omega)
        refine c_doesE (hr) ?_ ?_ ?_
        · ((try (conv => rhs; simp (disch := omega) only [go_sem, Nat.reduceEqDiff, Nat.reduceAdd, Nat.reduceMul, Nat.reduceSub, Nat.reduceLT, Nat.reduceLeDiff, ↓reduceIte, reduceCtorEq, Int.reduceToNat])); try rfl)
        · first | rfl | (conv => lhs; simp only [go_sem])
        repeat' (first
          | with_reducible refine acc_none ?_
          | (conv in hold _ => simp (disch := omega) only [go_sem, Nat.reduceEqDiff, Nat.reduceAdd, Nat.reduceMul, Nat.reduceSub, Nat.reduceLT, Nat.reduceLeDiff, ↓reduceIte, reduceCtorEq, Int.reduceToNat])
          | refine Stp.go ?_
          | with_reducible first | refine it_pos rfl ?_ | refine it_neg (by decide) ?_ | refine st_nil rfl ?_ | refine s_op ?_ ?_ | exact True.intro
          | ((with_reducible first | refine dw_reg0 ?_ | refine dw_regB ?_); (conv => arg 3; whnf))
          | (refine Spl.go (fun hq he => ?_) (fun hq he => ?_) <;> first | (exfalso; clear hq; omega) | ((try (first | (conv => arg 8; simp only [hq]) | (conv => arg 4; simp only [hq]))); clear hq))
          | ((with_reducible first | refine c_split (fun hq => ?_) (fun hq => ?_) | refine q_split (fun hq => ?_) (fun hq => ?_)) <;> (try (first | (conv => arg 8; simp only [hq]) | (conv => arg 4; simp only [hq]))))
          | (with_reducible refine fin_0 ?_ (by first | rfl | (conv => lhs; simp only [go_sem])) ?_)
          | exact Sub.refl _
          | omega)
        refine ⟨hlt, next1 (P := fun s => 1 ≤ s ∧ s ≤ 7) hx h1 hJ, Wk.list [] rfl rfl ?_⟩
        repeat' (first | (conv in hold _ => simp (disch := omega) only [go_sem, Nat.reduceEqDiff, Nat.reduceAdd, Nat.reduceMul, Nat.reduceSub, Nat.reduceLT, Nat.reduceLeDiff, ↓reduceIte, reduceCtorEq, Int.reduceToNat]) | exact True.intro | exact Sub.refl _ | omega)
      · rw [decide_eq_false h1] at hr
        repeat' (first
          | with_reducible refine acc_none ?_
          | (conv in hold _ => simp (disch := omega) only [go_sem, Nat.reduceEqDiff, Nat.reduceAdd, Nat.reduceMul, Nat.reduceSub, Nat.reduceLT, Nat.reduceLeDiff, ↓reduceIte, reduceCtorEq, Int.reduceToNat, List.getElem?_map, hx, Option.map_some])
          | refine Stp.go ?_
          | with_reducible first | refine it_pos rfl ?_ | refine it_neg (by decide) ?_ | refine st_nil rfl ?_ | refine s_op ?_ ?_ | exact True.intro
          | ((with_reducible first | refine dw_reg0 ?_ | refine dw_regB ?_); (conv => arg 3; whnf))
          | (refine Spl.go (fun hq he => ?_) (fun hq he => ?_) <;> first | (exfalso; clear hq; omega) | ((try (first | (conv => arg 8; simp only [hq]) | (conv => arg 4; simp only [hq]))); clear hq))
          | ((with_reducible first | refine c_split (fun hq => ?_) (fun hq => ?_) | refine q_split (fun hq => ?_) (fun hq => ?_)) <;> (try (first | (conv => arg 8; simp only [hq]) | (conv => arg 4; simp only [hq]))))
          | (with_reducible refine fin_0 ?_ (by first | rfl | (conv => lhs; simp only [go_sem, List.getElem?_map, hx, Option.map_some])) ?_)
          | exact Sub.refl _
          | omega)
        refine c_doesE (hr) ?_ ?_ ?_
        · ((try (conv => rhs; simp (disch := omega) only [go_sem, Nat.reduceEqDiff, Nat.reduceAdd, Nat.reduceMul, Nat.reduceSub, Nat.reduceLT, Nat.reduceLeDiff, ↓reduceIte, reduceCtorEq, Int.reduceToNat])); try rfl)
        · first | rfl | (conv => lhs; simp only [go_sem])
        repeat' (first
          | with_reducible refine acc_none ?_
          | (conv in hold _ => simp (disch := omega) only [go_sem, Nat.reduceEqDiff, Nat.reduceAdd, Nat.reduceMul, Nat.reduceSub, Nat.reduceLT, Nat.reduceLeDiff, ↓reduceIte, reduceCtorEq, Int.reduceToNat])
          | refine Stp.go ?_
          | with_reducible first | refine it_pos rfl ?_ | refine it_neg (by decide) ?_ | refine st_nil rfl ?_ | refine s_op ?_ ?_ | exact True.intro
          | ((with_reducible first | refine dw_reg0 ?_ | refine dw_regB ?_); (conv => arg 3; whnf))
          | (refine Spl.go (fun hq he => ?_) (fun hq he => ?_) <;> first | (exfalso; clear hq; omega) | ((try (first | (conv => arg 8; simp only [hq]) | (conv => arg 4; simp only [hq]))); clear hq))
          | ((with_reducible first | refine c_split (fun hq => ?_) (fun hq => ?_) | refine q_split (fun hq => ?_) (fun hq => ?_)) <;> (try (first | (conv => arg 8; simp only [hq]) | (conv => arg 4; simp only [hq]))))
          | (with_reducible refine fin_0 ?_ (by first | rfl | (conv => lhs; simp only [go_sem])) ?_)
          | exact Sub.refl _
          | omega)
        exact sub_f (fun h => h1 (h.2 i x hx))
    · have hr := inRange_ok ss.length 1 6
      repeat' (first
        | with_reducible refine acc_none ?_
        | (conv in hold _ => simp (disch := omega) only [go_sem, Nat.reduceEqDiff, Nat.reduceAdd, Nat.reduceMul, Nat.reduceSub, Nat.reduceLT, Nat.reduceLeDiff, ↓reduceIte, reduceCtorEq, Int.reduceToNat])
        | refine Stp.go ?_
        | with_reducible first | refine it_pos rfl ?_ | refine it_neg (by decide) ?_ | refine st_nil rfl ?_ | refine s_op ?_ ?_ | exact True.intro
        | ((with_reducible first | refine dw_reg0 ?_ | refine dw_regB ?_); (conv => arg 3; whnf))
        | (refine Spl.go (fun hq he => ?_) (fun hq he => ?_) <;> first | (exfalso; clear hq; omega) | ((try (first | (conv => arg 8; simp only [hq]) | (conv => arg 4; simp only [hq]))); clear hq))
        | ((with_reducible first | refine c_split (fun hq => ?_) (fun hq => ?_) | refine q_split (fun hq => ?_) (fun hq => ?_)) <;> (try (first | (conv => arg 8; simp only [hq]) | (conv => arg 4; simp only [hq]))))
        | (with_reducible refine fin_0 ?_ (by first | rfl | (conv => lhs; simp only [go_sem])) ?_)
        | exact Sub.refl _
        | omega)
      refine c_doesE (hr) ?_ ?_ ?_
      · ((try (conv => rhs; simp (disch := omega) only [go_sem, Nat.reduceEqDiff, Nat.reduceAdd, Nat.reduceMul, Nat.reduceSub, Nat.reduceLT, Nat.reduceLeDiff, ↓reduceIte, reduceCtorEq, Int.reduceToNat])); try rfl)
      · first | rfl | (conv => lhs; simp only [go_sem])
      repeat' (first
        | with_reducible refine acc_none ?_
        | (conv in hold _ => simp (disch := omega) only [go_sem, Nat.reduceEqDiff, Nat.reduceAdd, Nat.reduceMul, Nat.reduceSub, Nat.reduceLT, Nat.reduceLeDiff, ↓reduceIte, reduceCtorEq, Int.reduceToNat])
        | refine Stp.go ?_
        | with_reducible first | refine it_pos rfl ?_ | refine it_neg (by decide) ?_ | refine st_nil rfl ?_ | refine s_op ?_ ?_ | exact True.intro
        | ((with_reducible first | refine dw_reg0 ?_ | refine dw_regB ?_); (conv => arg 3; whnf))
        | (refine Spl.go (fun hq he => ?_) (fun hq he => ?_) <;> first | (exfalso; clear hq; omega) | ((try (first | (conv => arg 8; simp only [hq]) | (conv => arg 4; simp only [hq]))); clear hq))
        | ((with_reducible first | refine c_split (fun hq => ?_) (fun hq => ?_) | refine q_split (fun hq => ?_) (fun hq => ?_)) <;> (try (first | (conv => arg 8; simp only [hq]) | (conv => arg 4; simp only [hq]))))
        | (with_reducible refine fin_0 ?_ (by first | rfl | (conv => lhs; simp only [go_sem])) ?_)
        | exact Sub.refl _
        | omega)
      exact sub_iff (by rw [decide_eq_true_iff]; exact ⟨fun h => ⟨h, fun j s hj => hJ j s (List.getElem?_eq_some_iff.1 hj).1 hj⟩, fun h => h.1⟩)
/-- What Outcomes asks of its arguments. -/
def ocOk (e : E) (ss : List Int) : Prop := (1 ≤ (ss.length : Int) ∧ (ss.length : Int) ≤ 6) ∧ ssOk ss ∧ eOk e ss.length 8
theorem Outcomes_ok (e : E) (ss : List Int) (hl : ss.length ≤ 1048576) : ∃ n : Int, Does Try.prog 9 [] [eD e, intsD ss] (I n) [] ∧ Does Try.prog 8 [] [eD e, intsD ss] (I n) [] ∧ (ocOk e ss → n = oc e ss) ∧ (¬ ocOk e ss → n = 0) := by
  have h1 := validStates_ok ss hl
  have h2 := implValidExpr_ok e ss.length
  by_cases hw : 1 ≤ (ss.length : Int) ∧ (ss.length : Int) ≤ 6
  · have h3 := ValidExpr_ok e ss.length (by omega)
    by_cases he : eOk e ss.length 8
    · rw [decide_eq_true ⟨hw, he⟩] at h2 h3
      by_cases hs : ssOk ss
      · rw [decide_eq_true ⟨hw, hs⟩] at h1
        obtain ⟨_, hA, hB⟩ := oc_ok hs (by kernel_rfl) (by kernel_rfl) e 8 he
        refine ⟨oc e ss, ?_, ?_, fun _ => rfl, fun h => (h ⟨hw, hs, he⟩).elim⟩
        · refine does0 c_spec_Outcomes mixed (Nat.le_of_ble_eq_true rfl) ?_
          conv => arg 3; whnf
          repeat' (first
            | with_reducible refine acc_none ?_
            | (conv in hold _ => simp (disch := omega) only [go_sem, Nat.reduceEqDiff, Nat.reduceAdd, Nat.reduceMul, Nat.reduceSub, Nat.reduceLT, Nat.reduceLeDiff, ↓reduceIte, reduceCtorEq, Int.reduceToNat])
            | refine Stp.go ?_
            | with_reducible first | refine it_pos rfl ?_ | refine it_neg (by decide) ?_ | refine st_nil rfl ?_ | refine s_op ?_ ?_ | exact True.intro
            | ((with_reducible first | refine dw_reg0 ?_ | refine dw_regB ?_); (conv => arg 3; whnf))
            | (refine Spl.go (fun hq he => ?_) (fun hq he => ?_) <;> first | (exfalso; clear hq; omega) | ((try (first | (conv => arg 8; simp only [hq]) | (conv => arg 4; simp only [hq]))); clear hq))
            | ((with_reducible first | refine c_split (fun hq => ?_) (fun hq => ?_) | refine q_split (fun hq => ?_) (fun hq => ?_)) <;> (try (first | (conv => arg 8; simp only [hq]) | (conv => arg 4; simp only [hq]))))
            | (with_reducible refine fin_0 ?_ (by first | rfl | (conv => lhs; simp only [go_sem])) ?_)
            | exact Sub.refl _
            | omega)
          refine c_doesE (h1) ?_ ?_ ?_
          · ((try (conv => rhs; simp (disch := omega) only [go_sem, Nat.reduceEqDiff, Nat.reduceAdd, Nat.reduceMul, Nat.reduceSub, Nat.reduceLT, Nat.reduceLeDiff, ↓reduceIte, reduceCtorEq, Int.reduceToNat])); try rfl)
          · first | rfl | (conv => lhs; simp only [go_sem])
          repeat' (first
            | with_reducible refine acc_none ?_
            | (conv in hold _ => simp (disch := omega) only [go_sem, Nat.reduceEqDiff, Nat.reduceAdd, Nat.reduceMul, Nat.reduceSub, Nat.reduceLT, Nat.reduceLeDiff, ↓reduceIte, reduceCtorEq, Int.reduceToNat])
            | refine Stp.go ?_
            | with_reducible first | refine it_pos rfl ?_ | refine it_neg (by decide) ?_ | refine st_nil rfl ?_ | refine s_op ?_ ?_ | exact True.intro
            | ((with_reducible first | refine dw_reg0 ?_ | refine dw_regB ?_); (conv => arg 3; whnf))
            | (refine Spl.go (fun hq he => ?_) (fun hq he => ?_) <;> first | (exfalso; clear hq; omega) | ((try (first | (conv => arg 8; simp only [hq]) | (conv => arg 4; simp only [hq]))); clear hq))
            | ((with_reducible first | refine c_split (fun hq => ?_) (fun hq => ?_) | refine q_split (fun hq => ?_) (fun hq => ?_)) <;> (try (first | (conv => arg 8; simp only [hq]) | (conv => arg 4; simp only [hq]))))
            | (with_reducible refine fin_0 ?_ (by first | rfl | (conv => lhs; simp only [go_sem])) ?_)
            | exact Sub.refl _
            | omega)
          refine c_doesE (h3) ?_ ?_ ?_
          · ((try (conv => rhs; simp (disch := omega) only [go_sem, Nat.reduceEqDiff, Nat.reduceAdd, Nat.reduceMul, Nat.reduceSub, Nat.reduceLT, Nat.reduceLeDiff, ↓reduceIte, reduceCtorEq, Int.reduceToNat])); try rfl)
          · first | rfl | (conv => lhs; simp only [go_sem])
          repeat' (first
            | with_reducible refine acc_none ?_
            | (conv in hold _ => simp (disch := omega) only [go_sem, Nat.reduceEqDiff, Nat.reduceAdd, Nat.reduceMul, Nat.reduceSub, Nat.reduceLT, Nat.reduceLeDiff, ↓reduceIte, reduceCtorEq, Int.reduceToNat])
            | refine Stp.go ?_
            | with_reducible first | refine it_pos rfl ?_ | refine it_neg (by decide) ?_ | refine st_nil rfl ?_ | refine s_op ?_ ?_ | exact True.intro
            | ((with_reducible first | refine dw_reg0 ?_ | refine dw_regB ?_); (conv => arg 3; whnf))
            | (refine Spl.go (fun hq he => ?_) (fun hq he => ?_) <;> first | (exfalso; clear hq; omega) | ((try (first | (conv => arg 8; simp only [hq]) | (conv => arg 4; simp only [hq]))); clear hq))
            | ((with_reducible first | refine c_split (fun hq => ?_) (fun hq => ?_) | refine q_split (fun hq => ?_) (fun hq => ?_)) <;> (try (first | (conv => arg 8; simp only [hq]) | (conv => arg 4; simp only [hq]))))
            | (with_reducible refine fin_0 ?_ (by first | rfl | (conv => lhs; simp only [go_sem])) ?_)
            | exact Sub.refl _
            | omega)
          refine c_doesE (hA) ?_ ?_ ?_
          · ((try (conv => rhs; simp (disch := omega) only [go_sem, Nat.reduceEqDiff, Nat.reduceAdd, Nat.reduceMul, Nat.reduceSub, Nat.reduceLT, Nat.reduceLeDiff, ↓reduceIte, reduceCtorEq, Int.reduceToNat])); try rfl)
          · first | rfl | (conv => lhs; simp only [go_sem])
          repeat' (first
            | with_reducible refine acc_none ?_
            | (conv in hold _ => simp (disch := omega) only [go_sem, Nat.reduceEqDiff, Nat.reduceAdd, Nat.reduceMul, Nat.reduceSub, Nat.reduceLT, Nat.reduceLeDiff, ↓reduceIte, reduceCtorEq, Int.reduceToNat])
            | refine Stp.go ?_
            | with_reducible first | refine it_pos rfl ?_ | refine it_neg (by decide) ?_ | refine st_nil rfl ?_ | refine s_op ?_ ?_ | exact True.intro
            | ((with_reducible first | refine dw_reg0 ?_ | refine dw_regB ?_); (conv => arg 3; whnf))
            | (refine Spl.go (fun hq he => ?_) (fun hq he => ?_) <;> first | (exfalso; clear hq; omega) | ((try (first | (conv => arg 8; simp only [hq]) | (conv => arg 4; simp only [hq]))); clear hq))
            | ((with_reducible first | refine c_split (fun hq => ?_) (fun hq => ?_) | refine q_split (fun hq => ?_) (fun hq => ?_)) <;> (try (first | (conv => arg 8; simp only [hq]) | (conv => arg 4; simp only [hq]))))
            | (with_reducible refine fin_0 ?_ (by first | rfl | (conv => lhs; simp only [go_sem])) ?_)
            | exact Sub.refl _
            | omega)
        · refine does0 c_impl_Outcomes mixed (Nat.le_of_ble_eq_true rfl) ?_
          conv => arg 3; whnf
          repeat' (first
            | with_reducible refine acc_none ?_
            | (conv in hold _ => simp (disch := omega) only [go_sem, Nat.reduceEqDiff, Nat.reduceAdd, Nat.reduceMul, Nat.reduceSub, Nat.reduceLT, Nat.reduceLeDiff, ↓reduceIte, reduceCtorEq, Int.reduceToNat])
            | refine Stp.go ?_
            | with_reducible first | refine it_pos rfl ?_ | refine it_neg (by decide) ?_ | refine st_nil rfl ?_ | refine s_op ?_ ?_ | exact True.intro
            | ((with_reducible first | refine dw_reg0 ?_ | refine dw_regB ?_); (conv => arg 3; whnf))
            | (refine Spl.go (fun hq he => ?_) (fun hq he => ?_) <;> first | (exfalso; clear hq; omega) | ((try (first | (conv => arg 8; simp only [hq]) | (conv => arg 4; simp only [hq]))); clear hq))
            | ((with_reducible first | refine c_split (fun hq => ?_) (fun hq => ?_) | refine q_split (fun hq => ?_) (fun hq => ?_)) <;> (try (first | (conv => arg 8; simp only [hq]) | (conv => arg 4; simp only [hq]))))
            | (with_reducible refine fin_0 ?_ (by first | rfl | (conv => lhs; simp only [go_sem])) ?_)
            | exact Sub.refl _
            | omega)
          refine c_doesE (h2) ?_ ?_ ?_
          · ((try (conv => rhs; simp (disch := omega) only [go_sem, Nat.reduceEqDiff, Nat.reduceAdd, Nat.reduceMul, Nat.reduceSub, Nat.reduceLT, Nat.reduceLeDiff, ↓reduceIte, reduceCtorEq, Int.reduceToNat])); try rfl)
          · first | rfl | (conv => lhs; simp only [go_sem])
          repeat' (first
            | with_reducible refine acc_none ?_
            | (conv in hold _ => simp (disch := omega) only [go_sem, Nat.reduceEqDiff, Nat.reduceAdd, Nat.reduceMul, Nat.reduceSub, Nat.reduceLT, Nat.reduceLeDiff, ↓reduceIte, reduceCtorEq, Int.reduceToNat])
            | refine Stp.go ?_
            | with_reducible first | refine it_pos rfl ?_ | refine it_neg (by decide) ?_ | refine st_nil rfl ?_ | refine s_op ?_ ?_ | exact True.intro
            | ((with_reducible first | refine dw_reg0 ?_ | refine dw_regB ?_); (conv => arg 3; whnf))
            | (refine Spl.go (fun hq he => ?_) (fun hq he => ?_) <;> first | (exfalso; clear hq; omega) | ((try (first | (conv => arg 8; simp only [hq]) | (conv => arg 4; simp only [hq]))); clear hq))
            | ((with_reducible first | refine c_split (fun hq => ?_) (fun hq => ?_) | refine q_split (fun hq => ?_) (fun hq => ?_)) <;> (try (first | (conv => arg 8; simp only [hq]) | (conv => arg 4; simp only [hq]))))
            | (with_reducible refine fin_0 ?_ (by first | rfl | (conv => lhs; simp only [go_sem])) ?_)
            | exact Sub.refl _
            | omega)
          refine dw_for (c := 1) (l := fun i => [(1, intsD ss), (2, .ref 1000000 0), (12, intsD ss), (13, I ss.length), (14, I i), (1000000, .obj [I e.k, I e.c, Bo e.v.b, I e.v.n, .sl 5 (e.ks.map eD)])]) ss.length (fun _ => True) 0 trivial (Wk.list [2000002] rfl rfl ?_) (fun i hi _ => ?_) (Nat.zero_le _)
          · repeat' (first | (conv in hold _ => simp (disch := omega) only [go_sem, Nat.reduceEqDiff, Nat.reduceAdd, Nat.reduceMul, Nat.reduceSub, Nat.reduceLT, Nat.reduceLeDiff, ↓reduceIte, reduceCtorEq, Int.reduceToNat]) | exact True.intro | exact Sub.refl _ | omega)
            exact rfl
          · rcases at_or_end hi with ⟨x, hx, hlt⟩ | rfl
            · have := hs i x hx
              repeat' (first
                | with_reducible refine acc_none ?_
                | (conv in hold _ => simp (disch := omega) only [go_sem, Nat.reduceEqDiff, Nat.reduceAdd, Nat.reduceMul, Nat.reduceSub, Nat.reduceLT, Nat.reduceLeDiff, ↓reduceIte, reduceCtorEq, Int.reduceToNat, List.getElem?_map, hx, Option.map_some])
                | refine Stp.go ?_
                | with_reducible first | refine it_pos rfl ?_ | refine it_neg (by decide) ?_ | refine st_nil rfl ?_ | refine s_op ?_ ?_ | exact True.intro
                | ((with_reducible first | refine dw_reg0 ?_ | refine dw_regB ?_); (conv => arg 3; whnf))
                | (refine Spl.go (fun hq he => ?_) (fun hq he => ?_) <;> first | (exfalso; clear hq; omega) | ((try (first | (conv => arg 8; simp only [hq]) | (conv => arg 4; simp only [hq]))); clear hq))
                | ((with_reducible first | refine c_split (fun hq => ?_) (fun hq => ?_) | refine q_split (fun hq => ?_) (fun hq => ?_)) <;> (try (first | (conv => arg 8; simp only [hq]) | (conv => arg 4; simp only [hq]))))
                | (with_reducible refine fin_0 ?_ (by first | rfl | (conv => lhs; simp only [go_sem, List.getElem?_map, hx, Option.map_some])) ?_)
                | exact Sub.refl _
                | omega)
              refine ⟨hlt, trivial, Wk.list [1000000] rfl rfl ?_⟩
              repeat' (first | (conv in hold _ => simp (disch := omega) only [go_sem, Nat.reduceEqDiff, Nat.reduceAdd, Nat.reduceMul, Nat.reduceSub, Nat.reduceLT, Nat.reduceLeDiff, ↓reduceIte, reduceCtorEq, Int.reduceToNat]) | exact True.intro | exact Sub.refl _ | omega)
            · repeat' (first
                | with_reducible refine acc_none ?_
                | (conv in hold _ => simp (disch := omega) only [go_sem, Nat.reduceEqDiff, Nat.reduceAdd, Nat.reduceMul, Nat.reduceSub, Nat.reduceLT, Nat.reduceLeDiff, ↓reduceIte, reduceCtorEq, Int.reduceToNat])
                | refine Stp.go ?_
                | with_reducible first | refine it_pos rfl ?_ | refine it_neg (by decide) ?_ | refine st_nil rfl ?_ | refine s_op ?_ ?_ | exact True.intro
                | ((with_reducible first | refine dw_reg0 ?_ | refine dw_regB ?_); (conv => arg 3; whnf))
                | (refine Spl.go (fun hq he => ?_) (fun hq he => ?_) <;> first | (exfalso; clear hq; omega) | ((try (first | (conv => arg 8; simp only [hq]) | (conv => arg 4; simp only [hq]))); clear hq))
                | ((with_reducible first | refine c_split (fun hq => ?_) (fun hq => ?_) | refine q_split (fun hq => ?_) (fun hq => ?_)) <;> (try (first | (conv => arg 8; simp only [hq]) | (conv => arg 4; simp only [hq]))))
                | (with_reducible refine fin_0 ?_ (by first | rfl | (conv => lhs; simp only [go_sem])) ?_)
                | exact Sub.refl _
                | omega)
              refine c_doesE (hB) ?_ ?_ ?_
              · ((try (conv => rhs; simp (disch := omega) only [go_sem, Nat.reduceEqDiff, Nat.reduceAdd, Nat.reduceMul, Nat.reduceSub, Nat.reduceLT, Nat.reduceLeDiff, ↓reduceIte, reduceCtorEq, Int.reduceToNat])); try rfl)
              · first | rfl | (conv => lhs; simp only [go_sem])
              repeat' (first
                | with_reducible refine acc_none ?_
                | (conv in hold _ => simp (disch := omega) only [go_sem, Nat.reduceEqDiff, Nat.reduceAdd, Nat.reduceMul, Nat.reduceSub, Nat.reduceLT, Nat.reduceLeDiff, ↓reduceIte, reduceCtorEq, Int.reduceToNat])
                | refine Stp.go ?_
                | with_reducible first | refine it_pos rfl ?_ | refine it_neg (by decide) ?_ | refine st_nil rfl ?_ | refine s_op ?_ ?_ | exact True.intro
                | ((with_reducible first | refine dw_reg0 ?_ | refine dw_regB ?_); (conv => arg 3; whnf))
                | (refine Spl.go (fun hq he => ?_) (fun hq he => ?_) <;> first | (exfalso; clear hq; omega) | ((try (first | (conv => arg 8; simp only [hq]) | (conv => arg 4; simp only [hq]))); clear hq))
                | ((with_reducible first | refine c_split (fun hq => ?_) (fun hq => ?_) | refine q_split (fun hq => ?_) (fun hq => ?_)) <;> (try (first | (conv => arg 8; simp only [hq]) | (conv => arg 4; simp only [hq]))))
                | (with_reducible refine fin_0 ?_ (by first | rfl | (conv => lhs; simp only [go_sem])) ?_)
                | exact Sub.refl _
                | omega)
      · rw [decide_eq_false (fun h => hs h.2)] at h1
        refine ⟨0, ?_, ?_, fun h => by first | exact (hw h.1).elim | exact (hs h.2.1).elim | exact (he h.2.2).elim, fun _ => rfl⟩
        · refine does0 c_spec_Outcomes mixed (Nat.le_of_ble_eq_true rfl) ?_
          conv => arg 3; whnf
          repeat' (first
            | with_reducible refine acc_none ?_
            | (conv in hold _ => simp (disch := omega) only [go_sem, Nat.reduceEqDiff, Nat.reduceAdd, Nat.reduceMul, Nat.reduceSub, Nat.reduceLT, Nat.reduceLeDiff, ↓reduceIte, reduceCtorEq, Int.reduceToNat])
            | refine Stp.go ?_
            | with_reducible first | refine it_pos rfl ?_ | refine it_neg (by decide) ?_ | refine st_nil rfl ?_ | refine s_op ?_ ?_ | exact True.intro
            | ((with_reducible first | refine dw_reg0 ?_ | refine dw_regB ?_); (conv => arg 3; whnf))
            | (refine Spl.go (fun hq he => ?_) (fun hq he => ?_) <;> first | (exfalso; clear hq; omega) | ((try (first | (conv => arg 8; simp only [hq]) | (conv => arg 4; simp only [hq]))); clear hq))
            | ((with_reducible first | refine c_split (fun hq => ?_) (fun hq => ?_) | refine q_split (fun hq => ?_) (fun hq => ?_)) <;> (try (first | (conv => arg 8; simp only [hq]) | (conv => arg 4; simp only [hq]))))
            | (with_reducible refine fin_0 ?_ (by first | rfl | (conv => lhs; simp only [go_sem])) ?_)
            | exact Sub.refl _
            | omega)
          refine c_doesE (h1) ?_ ?_ ?_
          · ((try (conv => rhs; simp (disch := omega) only [go_sem, Nat.reduceEqDiff, Nat.reduceAdd, Nat.reduceMul, Nat.reduceSub, Nat.reduceLT, Nat.reduceLeDiff, ↓reduceIte, reduceCtorEq, Int.reduceToNat])); try rfl)
          · first | rfl | (conv => lhs; simp only [go_sem])
          repeat' (first
            | with_reducible refine acc_none ?_
            | (conv in hold _ => simp (disch := omega) only [go_sem, Nat.reduceEqDiff, Nat.reduceAdd, Nat.reduceMul, Nat.reduceSub, Nat.reduceLT, Nat.reduceLeDiff, ↓reduceIte, reduceCtorEq, Int.reduceToNat])
            | refine Stp.go ?_
            | with_reducible first | refine it_pos rfl ?_ | refine it_neg (by decide) ?_ | refine st_nil rfl ?_ | refine s_op ?_ ?_ | exact True.intro
            | ((with_reducible first | refine dw_reg0 ?_ | refine dw_regB ?_); (conv => arg 3; whnf))
            | (refine Spl.go (fun hq he => ?_) (fun hq he => ?_) <;> first | (exfalso; clear hq; omega) | ((try (first | (conv => arg 8; simp only [hq]) | (conv => arg 4; simp only [hq]))); clear hq))
            | ((with_reducible first | refine c_split (fun hq => ?_) (fun hq => ?_) | refine q_split (fun hq => ?_) (fun hq => ?_)) <;> (try (first | (conv => arg 8; simp only [hq]) | (conv => arg 4; simp only [hq]))))
            | (with_reducible refine fin_0 ?_ (by first | rfl | (conv => lhs; simp only [go_sem])) ?_)
            | exact Sub.refl _
            | omega)
        · refine does0 c_impl_Outcomes mixed (Nat.le_of_ble_eq_true rfl) ?_
          conv => arg 3; whnf
          repeat' (first
            | with_reducible refine acc_none ?_
            | (conv in hold _ => simp (disch := omega) only [go_sem, Nat.reduceEqDiff, Nat.reduceAdd, Nat.reduceMul, Nat.reduceSub, Nat.reduceLT, Nat.reduceLeDiff, ↓reduceIte, reduceCtorEq, Int.reduceToNat])
            | refine Stp.go ?_
            | with_reducible first | refine it_pos rfl ?_ | refine it_neg (by decide) ?_ | refine st_nil rfl ?_ | refine s_op ?_ ?_ | exact True.intro
            | ((with_reducible first | refine dw_reg0 ?_ | refine dw_regB ?_); (conv => arg 3; whnf))
            | (refine Spl.go (fun hq he => ?_) (fun hq he => ?_) <;> first | (exfalso; clear hq; omega) | ((try (first | (conv => arg 8; simp only [hq]) | (conv => arg 4; simp only [hq]))); clear hq))
            | ((with_reducible first | refine c_split (fun hq => ?_) (fun hq => ?_) | refine q_split (fun hq => ?_) (fun hq => ?_)) <;> (try (first | (conv => arg 8; simp only [hq]) | (conv => arg 4; simp only [hq]))))
            | (with_reducible refine fin_0 ?_ (by first | rfl | (conv => lhs; simp only [go_sem])) ?_)
            | exact Sub.refl _
            | omega)
          refine c_doesE (h2) ?_ ?_ ?_
          · ((try (conv => rhs; simp (disch := omega) only [go_sem, Nat.reduceEqDiff, Nat.reduceAdd, Nat.reduceMul, Nat.reduceSub, Nat.reduceLT, Nat.reduceLeDiff, ↓reduceIte, reduceCtorEq, Int.reduceToNat])); try rfl)
          · first | rfl | (conv => lhs; simp only [go_sem])
          repeat' (first
            | with_reducible refine acc_none ?_
            | (conv in hold _ => simp (disch := omega) only [go_sem, Nat.reduceEqDiff, Nat.reduceAdd, Nat.reduceMul, Nat.reduceSub, Nat.reduceLT, Nat.reduceLeDiff, ↓reduceIte, reduceCtorEq, Int.reduceToNat])
            | refine Stp.go ?_
            | with_reducible first | refine it_pos rfl ?_ | refine it_neg (by decide) ?_ | refine st_nil rfl ?_ | refine s_op ?_ ?_ | exact True.intro
            | ((with_reducible first | refine dw_reg0 ?_ | refine dw_regB ?_); (conv => arg 3; whnf))
            | (refine Spl.go (fun hq he => ?_) (fun hq he => ?_) <;> first | (exfalso; clear hq; omega) | ((try (first | (conv => arg 8; simp only [hq]) | (conv => arg 4; simp only [hq]))); clear hq))
            | ((with_reducible first | refine c_split (fun hq => ?_) (fun hq => ?_) | refine q_split (fun hq => ?_) (fun hq => ?_)) <;> (try (first | (conv => arg 8; simp only [hq]) | (conv => arg 4; simp only [hq]))))
            | (with_reducible refine fin_0 ?_ (by first | rfl | (conv => lhs; simp only [go_sem])) ?_)
            | exact Sub.refl _
            | omega)
          refine dw_for (c := 1) (l := fun i => [(1, intsD ss), (2, .ref 1000000 0), (12, intsD ss), (13, I ss.length), (14, I i), (1000000, .obj [I e.k, I e.c, Bo e.v.b, I e.v.n, .sl 5 (e.ks.map eD)])]) ss.length (fun i => ∀ (j : Nat) (s : Int), j < i → ss[j]? = some s → 1 ≤ s ∧ s ≤ 7) 0 (fun j s hj => by omega) (Wk.list [2000002] rfl rfl ?_) (fun i hi hJ => ?_) (Nat.zero_le _)
          · repeat' (first | (conv in hold _ => simp (disch := omega) only [go_sem, Nat.reduceEqDiff, Nat.reduceAdd, Nat.reduceMul, Nat.reduceSub, Nat.reduceLT, Nat.reduceLeDiff, ↓reduceIte, reduceCtorEq, Int.reduceToNat]) | exact True.intro | exact Sub.refl _ | omega)
            exact rfl
          · rcases at_or_end hi with ⟨x, hx, hlt⟩ | rfl
            · by_cases h1 : 1 ≤ x ∧ x ≤ 7
              · repeat' (first
                  | with_reducible refine acc_none ?_
                  | (conv in hold _ => simp (disch := omega) only [go_sem, Nat.reduceEqDiff, Nat.reduceAdd, Nat.reduceMul, Nat.reduceSub, Nat.reduceLT, Nat.reduceLeDiff, ↓reduceIte, reduceCtorEq, Int.reduceToNat, List.getElem?_map, hx, Option.map_some])
                  | refine Stp.go ?_
                  | with_reducible first | refine it_pos rfl ?_ | refine it_neg (by decide) ?_ | refine st_nil rfl ?_ | refine s_op ?_ ?_ | exact True.intro
                  | ((with_reducible first | refine dw_reg0 ?_ | refine dw_regB ?_); (conv => arg 3; whnf))
                  | (refine Spl.go (fun hq he => ?_) (fun hq he => ?_) <;> first | (exfalso; clear hq; omega) | ((try (first | (conv => arg 8; simp only [hq]) | (conv => arg 4; simp only [hq]))); clear hq))
                  | ((with_reducible first | refine c_split (fun hq => ?_) (fun hq => ?_) | refine q_split (fun hq => ?_) (fun hq => ?_)) <;> (try (first | (conv => arg 8; simp only [hq]) | (conv => arg 4; simp only [hq]))))
                  | (with_reducible refine fin_0 ?_ (by first | rfl | (conv => lhs; simp only [go_sem, List.getElem?_map, hx, Option.map_some])) ?_)
                  | exact Sub.refl _
                  | omega)
                refine ⟨hlt, next1 (P := fun s => 1 ≤ s ∧ s ≤ 7) hx h1 hJ, Wk.list [1000000] rfl rfl ?_⟩
                repeat' (first | (conv in hold _ => simp (disch := omega) only [go_sem, Nat.reduceEqDiff, Nat.reduceAdd, Nat.reduceMul, Nat.reduceSub, Nat.reduceLT, Nat.reduceLeDiff, ↓reduceIte, reduceCtorEq, Int.reduceToNat]) | exact True.intro | exact Sub.refl _ | omega)
              · repeat' (first
                  | with_reducible refine acc_none ?_
                  | (conv in hold _ => simp (disch := omega) only [go_sem, Nat.reduceEqDiff, Nat.reduceAdd, Nat.reduceMul, Nat.reduceSub, Nat.reduceLT, Nat.reduceLeDiff, ↓reduceIte, reduceCtorEq, Int.reduceToNat, List.getElem?_map, hx, Option.map_some])
                  | refine Stp.go ?_
                  | with_reducible first | refine it_pos rfl ?_ | refine it_neg (by decide) ?_ | refine st_nil rfl ?_ | refine s_op ?_ ?_ | exact True.intro
                  | ((with_reducible first | refine dw_reg0 ?_ | refine dw_regB ?_); (conv => arg 3; whnf))
                  | (refine Spl.go (fun hq he => ?_) (fun hq he => ?_) <;> first | (exfalso; clear hq; omega) | ((try (first | (conv => arg 8; simp only [hq]) | (conv => arg 4; simp only [hq]))); clear hq))
                  | ((with_reducible first | refine c_split (fun hq => ?_) (fun hq => ?_) | refine q_split (fun hq => ?_) (fun hq => ?_)) <;> (try (first | (conv => arg 8; simp only [hq]) | (conv => arg 4; simp only [hq]))))
                  | (with_reducible refine fin_0 ?_ (by first | rfl | (conv => lhs; simp only [go_sem, List.getElem?_map, hx, Option.map_some])) ?_)
                  | exact Sub.refl _
                  | omega)
            · exact (hs fun j s hj => hJ j s (List.getElem?_eq_some_iff.1 hj).1 hj).elim
    · rw [decide_eq_false (fun h => he h.2)] at h2 h3
      refine ⟨0, ?_, ?_, fun h => by first | exact (hw h.1).elim | exact (hs h.2.1).elim | exact (he h.2.2).elim, fun _ => rfl⟩
      · by_cases hs : ssOk ss
        · rw [decide_eq_true ⟨hw, hs⟩] at h1
          refine does0 c_spec_Outcomes mixed (Nat.le_of_ble_eq_true rfl) ?_
          conv => arg 3; whnf
          repeat' (first
            | with_reducible refine acc_none ?_
            | (conv in hold _ => simp (disch := omega) only [go_sem, Nat.reduceEqDiff, Nat.reduceAdd, Nat.reduceMul, Nat.reduceSub, Nat.reduceLT, Nat.reduceLeDiff, ↓reduceIte, reduceCtorEq, Int.reduceToNat])
            | refine Stp.go ?_
            | with_reducible first | refine it_pos rfl ?_ | refine it_neg (by decide) ?_ | refine st_nil rfl ?_ | refine s_op ?_ ?_ | exact True.intro
            | ((with_reducible first | refine dw_reg0 ?_ | refine dw_regB ?_); (conv => arg 3; whnf))
            | (refine Spl.go (fun hq he => ?_) (fun hq he => ?_) <;> first | (exfalso; clear hq; omega) | ((try (first | (conv => arg 8; simp only [hq]) | (conv => arg 4; simp only [hq]))); clear hq))
            | ((with_reducible first | refine c_split (fun hq => ?_) (fun hq => ?_) | refine q_split (fun hq => ?_) (fun hq => ?_)) <;> (try (first | (conv => arg 8; simp only [hq]) | (conv => arg 4; simp only [hq]))))
            | (with_reducible refine fin_0 ?_ (by first | rfl | (conv => lhs; simp only [go_sem])) ?_)
            | exact Sub.refl _
            | omega)
          refine c_doesE (h1) ?_ ?_ ?_
          · ((try (conv => rhs; simp (disch := omega) only [go_sem, Nat.reduceEqDiff, Nat.reduceAdd, Nat.reduceMul, Nat.reduceSub, Nat.reduceLT, Nat.reduceLeDiff, ↓reduceIte, reduceCtorEq, Int.reduceToNat])); try rfl)
          · first | rfl | (conv => lhs; simp only [go_sem])
          repeat' (first
            | with_reducible refine acc_none ?_
            | (conv in hold _ => simp (disch := omega) only [go_sem, Nat.reduceEqDiff, Nat.reduceAdd, Nat.reduceMul, Nat.reduceSub, Nat.reduceLT, Nat.reduceLeDiff, ↓reduceIte, reduceCtorEq, Int.reduceToNat])
            | refine Stp.go ?_
            | with_reducible first | refine it_pos rfl ?_ | refine it_neg (by decide) ?_ | refine st_nil rfl ?_ | refine s_op ?_ ?_ | exact True.intro
            | ((with_reducible first | refine dw_reg0 ?_ | refine dw_regB ?_); (conv => arg 3; whnf))
            | (refine Spl.go (fun hq he => ?_) (fun hq he => ?_) <;> first | (exfalso; clear hq; omega) | ((try (first | (conv => arg 8; simp only [hq]) | (conv => arg 4; simp only [hq]))); clear hq))
            | ((with_reducible first | refine c_split (fun hq => ?_) (fun hq => ?_) | refine q_split (fun hq => ?_) (fun hq => ?_)) <;> (try (first | (conv => arg 8; simp only [hq]) | (conv => arg 4; simp only [hq]))))
            | (with_reducible refine fin_0 ?_ (by first | rfl | (conv => lhs; simp only [go_sem])) ?_)
            | exact Sub.refl _
            | omega)
          refine c_doesE (h3) ?_ ?_ ?_
          · ((try (conv => rhs; simp (disch := omega) only [go_sem, Nat.reduceEqDiff, Nat.reduceAdd, Nat.reduceMul, Nat.reduceSub, Nat.reduceLT, Nat.reduceLeDiff, ↓reduceIte, reduceCtorEq, Int.reduceToNat])); try rfl)
          · first | rfl | (conv => lhs; simp only [go_sem])
          repeat' (first
            | with_reducible refine acc_none ?_
            | (conv in hold _ => simp (disch := omega) only [go_sem, Nat.reduceEqDiff, Nat.reduceAdd, Nat.reduceMul, Nat.reduceSub, Nat.reduceLT, Nat.reduceLeDiff, ↓reduceIte, reduceCtorEq, Int.reduceToNat])
            | refine Stp.go ?_
            | with_reducible first | refine it_pos rfl ?_ | refine it_neg (by decide) ?_ | refine st_nil rfl ?_ | refine s_op ?_ ?_ | exact True.intro
            | ((with_reducible first | refine dw_reg0 ?_ | refine dw_regB ?_); (conv => arg 3; whnf))
            | (refine Spl.go (fun hq he => ?_) (fun hq he => ?_) <;> first | (exfalso; clear hq; omega) | ((try (first | (conv => arg 8; simp only [hq]) | (conv => arg 4; simp only [hq]))); clear hq))
            | ((with_reducible first | refine c_split (fun hq => ?_) (fun hq => ?_) | refine q_split (fun hq => ?_) (fun hq => ?_)) <;> (try (first | (conv => arg 8; simp only [hq]) | (conv => arg 4; simp only [hq]))))
            | (with_reducible refine fin_0 ?_ (by first | rfl | (conv => lhs; simp only [go_sem])) ?_)
            | exact Sub.refl _
            | omega)
        · rw [decide_eq_false (fun h => hs h.2)] at h1
          refine does0 c_spec_Outcomes mixed (Nat.le_of_ble_eq_true rfl) ?_
          conv => arg 3; whnf
          repeat' (first
            | with_reducible refine acc_none ?_
            | (conv in hold _ => simp (disch := omega) only [go_sem, Nat.reduceEqDiff, Nat.reduceAdd, Nat.reduceMul, Nat.reduceSub, Nat.reduceLT, Nat.reduceLeDiff, ↓reduceIte, reduceCtorEq, Int.reduceToNat])
            | refine Stp.go ?_
            | with_reducible first | refine it_pos rfl ?_ | refine it_neg (by decide) ?_ | refine st_nil rfl ?_ | refine s_op ?_ ?_ | exact True.intro
            | ((with_reducible first | refine dw_reg0 ?_ | refine dw_regB ?_); (conv => arg 3; whnf))
            | (refine Spl.go (fun hq he => ?_) (fun hq he => ?_) <;> first | (exfalso; clear hq; omega) | ((try (first | (conv => arg 8; simp only [hq]) | (conv => arg 4; simp only [hq]))); clear hq))
            | ((with_reducible first | refine c_split (fun hq => ?_) (fun hq => ?_) | refine q_split (fun hq => ?_) (fun hq => ?_)) <;> (try (first | (conv => arg 8; simp only [hq]) | (conv => arg 4; simp only [hq]))))
            | (with_reducible refine fin_0 ?_ (by first | rfl | (conv => lhs; simp only [go_sem])) ?_)
            | exact Sub.refl _
            | omega)
          refine c_doesE (h1) ?_ ?_ ?_
          · ((try (conv => rhs; simp (disch := omega) only [go_sem, Nat.reduceEqDiff, Nat.reduceAdd, Nat.reduceMul, Nat.reduceSub, Nat.reduceLT, Nat.reduceLeDiff, ↓reduceIte, reduceCtorEq, Int.reduceToNat])); try rfl)
          · first | rfl | (conv => lhs; simp only [go_sem])
          repeat' (first
            | with_reducible refine acc_none ?_
            | (conv in hold _ => simp (disch := omega) only [go_sem, Nat.reduceEqDiff, Nat.reduceAdd, Nat.reduceMul, Nat.reduceSub, Nat.reduceLT, Nat.reduceLeDiff, ↓reduceIte, reduceCtorEq, Int.reduceToNat])
            | refine Stp.go ?_
            | with_reducible first | refine it_pos rfl ?_ | refine it_neg (by decide) ?_ | refine st_nil rfl ?_ | refine s_op ?_ ?_ | exact True.intro
            | ((with_reducible first | refine dw_reg0 ?_ | refine dw_regB ?_); (conv => arg 3; whnf))
            | (refine Spl.go (fun hq he => ?_) (fun hq he => ?_) <;> first | (exfalso; clear hq; omega) | ((try (first | (conv => arg 8; simp only [hq]) | (conv => arg 4; simp only [hq]))); clear hq))
            | ((with_reducible first | refine c_split (fun hq => ?_) (fun hq => ?_) | refine q_split (fun hq => ?_) (fun hq => ?_)) <;> (try (first | (conv => arg 8; simp only [hq]) | (conv => arg 4; simp only [hq]))))
            | (with_reducible refine fin_0 ?_ (by first | rfl | (conv => lhs; simp only [go_sem])) ?_)
            | exact Sub.refl _
            | omega)
      · refine does0 c_impl_Outcomes mixed (Nat.le_of_ble_eq_true rfl) ?_
        conv => arg 3; whnf
        repeat' (first
          | with_reducible refine acc_none ?_
          | (conv in hold _ => simp (disch := omega) only [go_sem, Nat.reduceEqDiff, Nat.reduceAdd, Nat.reduceMul, Nat.reduceSub, Nat.reduceLT, Nat.reduceLeDiff, ↓reduceIte, reduceCtorEq, Int.reduceToNat])
          | refine Stp.go ?_
          | with_reducible first | refine it_pos rfl ?_ | refine it_neg (by decide) ?_ | refine st_nil rfl ?_ | refine s_op ?_ ?_ | exact True.intro
          | ((with_reducible first | refine dw_reg0 ?_ | refine dw_regB ?_); (conv => arg 3; whnf))
          | (refine Spl.go (fun hq he => ?_) (fun hq he => ?_) <;> first | (exfalso; clear hq; omega) | ((try (first | (conv => arg 8; simp only [hq]) | (conv => arg 4; simp only [hq]))); clear hq))
          | ((with_reducible first | refine c_split (fun hq => ?_) (fun hq => ?_) | refine q_split (fun hq => ?_) (fun hq => ?_)) <;> (try (first | (conv => arg 8; simp only [hq]) | (conv => arg 4; simp only [hq]))))
          | (with_reducible refine fin_0 ?_ (by first | rfl | (conv => lhs; simp only [go_sem])) ?_)
          | exact Sub.refl _
          | omega)
        refine c_doesE (h2) ?_ ?_ ?_
        · ((try (conv => rhs; simp (disch := omega) only [go_sem, Nat.reduceEqDiff, Nat.reduceAdd, Nat.reduceMul, Nat.reduceSub, Nat.reduceLT, Nat.reduceLeDiff, ↓reduceIte, reduceCtorEq, Int.reduceToNat])); try rfl)
        · first | rfl | (conv => lhs; simp only [go_sem])
        repeat' (first
          | with_reducible refine acc_none ?_
          | (conv in hold _ => simp (disch := omega) only [go_sem, Nat.reduceEqDiff, Nat.reduceAdd, Nat.reduceMul, Nat.reduceSub, Nat.reduceLT, Nat.reduceLeDiff, ↓reduceIte, reduceCtorEq, Int.reduceToNat])
          | refine Stp.go ?_
          | with_reducible first | refine it_pos rfl ?_ | refine it_neg (by decide) ?_ | refine st_nil rfl ?_ | refine s_op ?_ ?_ | exact True.intro
          | ((with_reducible first | refine dw_reg0 ?_ | refine dw_regB ?_); (conv => arg 3; whnf))
          | (refine Spl.go (fun hq he => ?_) (fun hq he => ?_) <;> first | (exfalso; clear hq; omega) | ((try (first | (conv => arg 8; simp only [hq]) | (conv => arg 4; simp only [hq]))); clear hq))
          | ((with_reducible first | refine c_split (fun hq => ?_) (fun hq => ?_) | refine q_split (fun hq => ?_) (fun hq => ?_)) <;> (try (first | (conv => arg 8; simp only [hq]) | (conv => arg 4; simp only [hq]))))
          | (with_reducible refine fin_0 ?_ (by first | rfl | (conv => lhs; simp only [go_sem])) ?_)
          | exact Sub.refl _
          | omega)
  · rw [decide_eq_false (fun h => hw h.1)] at h1 h2
    refine ⟨0, ?_, ?_, fun h => by first | exact (hw h.1).elim | exact (hs h.2.1).elim | exact (he h.2.2).elim, fun _ => rfl⟩
    · refine does0 c_spec_Outcomes mixed (Nat.le_of_ble_eq_true rfl) ?_
      conv => arg 3; whnf
      repeat' (first
        | with_reducible refine acc_none ?_
        | (conv in hold _ => simp (disch := omega) only [go_sem, Nat.reduceEqDiff, Nat.reduceAdd, Nat.reduceMul, Nat.reduceSub, Nat.reduceLT, Nat.reduceLeDiff, ↓reduceIte, reduceCtorEq, Int.reduceToNat])
        | refine Stp.go ?_
        | with_reducible first | refine it_pos rfl ?_ | refine it_neg (by decide) ?_ | refine st_nil rfl ?_ | refine s_op ?_ ?_ | exact True.intro
        | ((with_reducible first | refine dw_reg0 ?_ | refine dw_regB ?_); (conv => arg 3; whnf))
        | (refine Spl.go (fun hq he => ?_) (fun hq he => ?_) <;> first | (exfalso; clear hq; omega) | ((try (first | (conv => arg 8; simp only [hq]) | (conv => arg 4; simp only [hq]))); clear hq))
        | ((with_reducible first | refine c_split (fun hq => ?_) (fun hq => ?_) | refine q_split (fun hq => ?_) (fun hq => ?_)) <;> (try (first | (conv => arg 8; simp only [hq]) | (conv => arg 4; simp only [hq]))))
        | (with_reducible refine fin_0 ?_ (by first | rfl | (conv => lhs; simp only [go_sem])) ?_)
        | exact Sub.refl _
        | omega)
      refine c_doesE (h1) ?_ ?_ ?_
      · ((try (conv => rhs; simp (disch := omega) only [go_sem, Nat.reduceEqDiff, Nat.reduceAdd, Nat.reduceMul, Nat.reduceSub, Nat.reduceLT, Nat.reduceLeDiff, ↓reduceIte, reduceCtorEq, Int.reduceToNat])); try rfl)
      · first | rfl | (conv => lhs; simp only [go_sem])
      repeat' (first
        | with_reducible refine acc_none ?_
        | (conv in hold _ => simp (disch := omega) only [go_sem, Nat.reduceEqDiff, Nat.reduceAdd, Nat.reduceMul, Nat.reduceSub, Nat.reduceLT, Nat.reduceLeDiff, ↓reduceIte, reduceCtorEq, Int.reduceToNat])
        | refine Stp.go ?_
        | with_reducible first | refine it_pos rfl ?_ | refine it_neg (by decide) ?_ | refine st_nil rfl ?_ | refine s_op ?_ ?_ | exact True.intro
        | ((with_reducible first | refine dw_reg0 ?_ | refine dw_regB ?_); (conv => arg 3; whnf))
        | (refine Spl.go (fun hq he => ?_) (fun hq he => ?_) <;> first | (exfalso; clear hq; omega) | ((try (first | (conv => arg 8; simp only [hq]) | (conv => arg 4; simp only [hq]))); clear hq))
        | ((with_reducible first | refine c_split (fun hq => ?_) (fun hq => ?_) | refine q_split (fun hq => ?_) (fun hq => ?_)) <;> (try (first | (conv => arg 8; simp only [hq]) | (conv => arg 4; simp only [hq]))))
        | (with_reducible refine fin_0 ?_ (by first | rfl | (conv => lhs; simp only [go_sem])) ?_)
        | exact Sub.refl _
        | omega)
    · refine does0 c_impl_Outcomes mixed (Nat.le_of_ble_eq_true rfl) ?_
      conv => arg 3; whnf
      repeat' (first
        | with_reducible refine acc_none ?_
        | (conv in hold _ => simp (disch := omega) only [go_sem, Nat.reduceEqDiff, Nat.reduceAdd, Nat.reduceMul, Nat.reduceSub, Nat.reduceLT, Nat.reduceLeDiff, ↓reduceIte, reduceCtorEq, Int.reduceToNat])
        | refine Stp.go ?_
        | with_reducible first | refine it_pos rfl ?_ | refine it_neg (by decide) ?_ | refine st_nil rfl ?_ | refine s_op ?_ ?_ | exact True.intro
        | ((with_reducible first | refine dw_reg0 ?_ | refine dw_regB ?_); (conv => arg 3; whnf))
        | (refine Spl.go (fun hq he => ?_) (fun hq he => ?_) <;> first | (exfalso; clear hq; omega) | ((try (first | (conv => arg 8; simp only [hq]) | (conv => arg 4; simp only [hq]))); clear hq))
        | ((with_reducible first | refine c_split (fun hq => ?_) (fun hq => ?_) | refine q_split (fun hq => ?_) (fun hq => ?_)) <;> (try (first | (conv => arg 8; simp only [hq]) | (conv => arg 4; simp only [hq]))))
        | (with_reducible refine fin_0 ?_ (by first | rfl | (conv => lhs; simp only [go_sem])) ?_)
        | exact Sub.refl _
        | omega)
      refine c_doesE (h2) ?_ ?_ ?_
      · ((try (conv => rhs; simp (disch := omega) only [go_sem, Nat.reduceEqDiff, Nat.reduceAdd, Nat.reduceMul, Nat.reduceSub, Nat.reduceLT, Nat.reduceLeDiff, ↓reduceIte, reduceCtorEq, Int.reduceToNat])); try rfl)
      · first | rfl | (conv => lhs; simp only [go_sem])
      repeat' (first
        | with_reducible refine acc_none ?_
        | (conv in hold _ => simp (disch := omega) only [go_sem, Nat.reduceEqDiff, Nat.reduceAdd, Nat.reduceMul, Nat.reduceSub, Nat.reduceLT, Nat.reduceLeDiff, ↓reduceIte, reduceCtorEq, Int.reduceToNat])
        | refine Stp.go ?_
        | with_reducible first | refine it_pos rfl ?_ | refine it_neg (by decide) ?_ | refine st_nil rfl ?_ | refine s_op ?_ ?_ | exact True.intro
        | ((with_reducible first | refine dw_reg0 ?_ | refine dw_regB ?_); (conv => arg 3; whnf))
        | (refine Spl.go (fun hq he => ?_) (fun hq he => ?_) <;> first | (exfalso; clear hq; omega) | ((try (first | (conv => arg 8; simp only [hq]) | (conv => arg 4; simp only [hq]))); clear hq))
        | ((with_reducible first | refine c_split (fun hq => ?_) (fun hq => ?_) | refine q_split (fun hq => ?_) (fun hq => ?_)) <;> (try (first | (conv => arg 8; simp only [hq]) | (conv => arg 4; simp only [hq]))))
        | (with_reducible refine fin_0 ?_ (by first | rfl | (conv => lhs; simp only [go_sem])) ?_)
        | exact Sub.refl _
        | omega)
end Go.Proofs.Ytebnhookppmjpaa
