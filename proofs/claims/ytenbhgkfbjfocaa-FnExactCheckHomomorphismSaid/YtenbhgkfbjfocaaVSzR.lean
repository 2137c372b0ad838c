/-
  What the exact laws do with atoms, facts and rules that came in. No condition.
-/
import Derived.Test.YtenbhgkfbjfocaaVTri
import Derived.Test.YtenbhgkfbjfocaaVSzI
set_option maxHeartbeats 4000000
set_option maxRecDepth 100000
namespace Go.Proofs.Ytenbhgkfbjfocaa
open Go.RowKit

theorem szAtomS_ok (l : List Tr) (hl : l.length ≤ big) (left : Int) (h0 : 0 ≤ left) (h1 : left ≤ 1048576) : Does Try.prog 21 [] [trsD l, I left] (I (szV l.length left)) [] := by
  unfold big at hl
  by_cases hf : (l.length : Int) ≤ left
  · rw [szV_t hf]
    refine does0 c_laws_szAtomS mixed (Nat.le_of_ble_eq_true rfl) ?_
    conv => arg 3; whnf
    repeat' (first
      | with_reducible refine acc_none ?_
      | (conv in hold _ => simp (disch := omega) only [go_sem, Nat.reduceEqDiff, Nat.reduceAdd, Nat.reduceMul, Nat.reduceSub, Nat.reduceLT, Nat.reduceLeDiff, ↓reduceIte, reduceCtorEq, Int.reduceToNat])
      | refine Stp.go ?_
      | with_reducible first | refine it_pos rfl ?_ | refine it_neg (by decide) ?_ | refine st_nil rfl ?_ | refine s_op ?_ ?_ | exact True.intro
      | ((with_reducible first | refine dw_reg0 ?_ | refine dw_regB ?_); (conv => arg 3; whnf))
      | (refine Spl.go (fun hq he => ?_) (fun hq he => ?_) <;> first | (exfalso; clear hq; omega) | ((try (first | (conv => arg 8; simp only [hq]) | (conv => arg 4; simp only [hq]))); clear hq))
      | ((with_reducible first | refine c_split (fun hq => ?_) (fun hq => ?_) | refine q_split (fun hq => ?_) (fun hq => ?_)) <;> (try (first | (conv => arg 8; simp only [hq]) | (conv => arg 4; simp only [hq]))))
      | (with_reducible refine fin_0 ?_ (by first | rfl | (conv => lhs; simp only [go_sem])) ?_)
      | exact Sub.refl _
      | omega)
  · rw [szV_f hf]
    refine does0 c_laws_szAtomS mixed (Nat.le_of_ble_eq_true rfl) ?_
    conv => arg 3; whnf
    repeat' (first
      | with_reducible refine acc_none ?_
      | (conv in hold _ => simp (disch := omega) only [go_sem, Nat.reduceEqDiff, Nat.reduceAdd, Nat.reduceMul, Nat.reduceSub, Nat.reduceLT, Nat.reduceLeDiff, ↓reduceIte, reduceCtorEq, Int.reduceToNat])
      | refine Stp.go ?_
      | with_reducible first | refine it_pos rfl ?_ | refine it_neg (by decide) ?_ | refine st_nil rfl ?_ | refine s_op ?_ ?_ | exact True.intro
      | ((with_reducible first | refine dw_reg0 ?_ | refine dw_regB ?_); (conv => arg 3; whnf))
      | (refine Spl.go (fun hq he => ?_) (fun hq he => ?_) <;> first | (exfalso; clear hq; omega) | ((try (first | (conv => arg 8; simp only [hq]) | (conv => arg 4; simp only [hq]))); clear hq))
      | ((with_reducible first | refine c_split (fun hq => ?_) (fun hq => ?_) | refine q_split (fun hq => ?_) (fun hq => ?_)) <;> (try (first | (conv => arg 8; simp only [hq]) | (conv => arg 4; simp only [hq]))))
      | (with_reducible refine fin_0 ?_ (by first | rfl | (conv => lhs; simp only [go_sem])) ?_)
      | exact Sub.refl _
      | omega)
theorem toAtom_ok (v : Tr) : Does Try.prog 40 [] [trD v] (trD v) [] := by
  refine does0 c_laws_toAtom mixed (Nat.le_of_ble_eq_true rfl) ?_
  conv => arg 3; whnf
  repeat' (first
    | with_reducible refine acc_none ?_
    | (conv in hold _ => simp (disch := omega) only [go_sem, Nat.reduceEqDiff, Nat.reduceAdd, Nat.reduceMul, Nat.reduceSub, Nat.reduceLT, Nat.reduceLeDiff, ↓reduceIte, reduceCtorEq, Int.reduceToNat])
    | refine Stp.go ?_
    | with_reducible first | refine it_pos rfl ?_ | refine it_neg (by decide) ?_ | refine st_nil rfl ?_ | refine s_op ?_ ?_ | exact True.intro
    | ((with_reducible first | refine dw_reg0 ?_ | refine dw_regB ?_); (conv => arg 3; whnf))
    | (refine Spl.go (fun hq he => ?_) (fun hq he => ?_) <;> first | (exfalso; clear hq; omega) | ((try (first | (conv => arg 8; simp only [hq]) | (conv => arg 4; simp only [hq]))); clear hq))
    | ((with_reducible first | refine c_split (fun hq => ?_) (fun hq => ?_) | refine q_split (fun hq => ?_) (fun hq => ?_)) <;> (try (first | (conv => arg 8; simp only [hq]) | (conv => arg 4; simp only [hq]))))
    | (with_reducible refine fin_0 ?_ (by first | rfl | (conv => lhs; simp only [go_sem])) ?_)
    | exact Sub.refl _
    | omega)
theorem toAtomS_ok (l : List Tr) (hlen : l.length ≤ 1048576) : Does Try.prog 23 [] [trsD l] (trsD l) [] := by
  have hz := fil_zero trD (.agg [I 0, I 0, I 0]) l
  have hren := fil_ren trD (.agg [I 0, I 0, I 0]) (fun _ => rfl) rfl l
  refine does0 c_laws_toAtomS mixed (Nat.le_of_ble_eq_true rfl) ?_
  conv => arg 3; whnf
  repeat' (first
    | with_reducible refine acc_none ?_
    | (conv in hold _ => simp (disch := omega) only [go_sem, Nat.reduceEqDiff, Nat.reduceAdd, Nat.reduceMul, Nat.reduceSub, Nat.reduceLT, Nat.reduceLeDiff, ↓reduceIte, reduceCtorEq, Int.reduceToNat])
    | refine Stp.go ?_
    | with_reducible first | refine it_pos rfl ?_ | refine it_neg (by decide) ?_ | refine st_nil rfl ?_ | refine s_op ?_ ?_ | exact True.intro
    | ((with_reducible first | refine dw_reg0 ?_ | refine dw_regB ?_); (conv => arg 3; whnf))
    | (refine Spl.go (fun hq he => ?_) (fun hq he => ?_) <;> first | (exfalso; clear hq; omega) | ((try (first | (conv => arg 8; simp only [hq]) | (conv => arg 4; simp only [hq]))); clear hq))
    | ((with_reducible first | refine c_split (fun hq => ?_) (fun hq => ?_) | refine q_split (fun hq => ?_) (fun hq => ?_)) <;> (try (first | (conv => arg 8; simp only [hq]) | (conv => arg 4; simp only [hq]))))
    | (with_reducible refine fin_0 ?_ (by first | rfl | (conv => lhs; simp only [go_sem])) ?_)
    | exact Sub.refl _
    | omega)
  refine dw_for (c := 1) (l := fun i => [(0, trsD l), (3, .own 1000000 3 l.length), (4, I i), (1000000, .row 3 (fil trD (.agg [I 0, I 0, I 0]) l i))]) l.length (fun _ => True) 0 trivial (Wk.list [2000007] rfl rfl ?_) (fun i hi _ => ?_) (Nat.zero_le _)
  · repeat' (first | (conv in hold _ => simp (disch := omega) only [go_sem, Nat.reduceEqDiff, Nat.reduceAdd, Nat.reduceMul, Nat.reduceSub, Nat.reduceLT, Nat.reduceLeDiff, ↓reduceIte, reduceCtorEq, Int.reduceToNat, hren]) | exact True.intro | exact Sub.refl _ | omega)
    rw [hz]
    exact ⟨rfl, rfl⟩
  · have hfl := fil_len trD (.agg [I 0, I 0, I 0]) l hi
    have hft := fil_take trD (.agg [I 0, I 0, I 0]) l hi
    rcases at_or_end hi with ⟨x, hx, hlt⟩ | rfl
    · have hst := fil_set trD (.agg [I 0, I 0, I 0]) hx
      rw [trD] at hst
      have hgi : (fil trD (.agg [I 0, I 0, I 0]) l i)[i]? = some (.agg [I 0, I 0, I 0]) := fil_get trD (.agg [I 0, I 0, I 0]) hlt
      have hv := toAtom_ok x
      repeat' (first
        | with_reducible refine acc_none ?_
        | (conv in hold _ => simp (disch := omega) only [go_sem, Nat.reduceEqDiff, Nat.reduceAdd, Nat.reduceMul, Nat.reduceSub, Nat.reduceLT, Nat.reduceLeDiff, ↓reduceIte, reduceCtorEq, Int.reduceToNat, List.getElem?_map, hx, Option.map_some, hfl, hft, hgi])
        | refine Stp.go ?_
        | with_reducible first | refine it_pos rfl ?_ | refine it_neg (by decide) ?_ | refine st_nil rfl ?_ | refine s_op ?_ ?_ | exact True.intro
        | ((with_reducible first | refine dw_reg0 ?_ | refine dw_regB ?_); (conv => arg 3; whnf))
        | (refine Spl.go (fun hq he => ?_) (fun hq he => ?_) <;> first | (exfalso; clear hq; omega) | ((try (first | (conv => arg 8; simp only [hq]) | (conv => arg 4; simp only [hq]))); clear hq))
        | ((with_reducible first | refine c_split (fun hq => ?_) (fun hq => ?_) | refine q_split (fun hq => ?_) (fun hq => ?_)) <;> (try (first | (conv => arg 8; simp only [hq]) | (conv => arg 4; simp only [hq]))))
        | (with_reducible refine fin_0 ?_ (by first | rfl | (conv => lhs; simp only [go_sem, List.getElem?_map, hx, Option.map_some, hfl, hft, hgi])) ?_)
        | exact Sub.refl _
        | omega)
      refine c_doesE (hv) ?_ ?_ ?_
      · ((try (conv => rhs; simp (disch := omega) only [go_sem, Nat.reduceEqDiff, Nat.reduceAdd, Nat.reduceMul, Nat.reduceSub, Nat.reduceLT, Nat.reduceLeDiff, ↓reduceIte, reduceCtorEq, Int.reduceToNat, hfl, hft, hgi])); try rfl)
      · first | rfl | (conv => lhs; simp only [go_sem, hfl, hft, hgi])
      repeat' (first
        | with_reducible refine acc_none ?_
        | (conv in hold _ => simp (disch := omega) only [go_sem, Nat.reduceEqDiff, Nat.reduceAdd, Nat.reduceMul, Nat.reduceSub, Nat.reduceLT, Nat.reduceLeDiff, ↓reduceIte, reduceCtorEq, Int.reduceToNat, hfl, hft, hgi])
        | refine Stp.go ?_
        | with_reducible first | refine it_pos rfl ?_ | refine it_neg (by decide) ?_ | refine st_nil rfl ?_ | refine s_op ?_ ?_ | exact True.intro
        | ((with_reducible first | refine dw_reg0 ?_ | refine dw_regB ?_); (conv => arg 3; whnf))
        | (refine Spl.go (fun hq he => ?_) (fun hq he => ?_) <;> first | (exfalso; clear hq; omega) | ((try (first | (conv => arg 8; simp only [hq]) | (conv => arg 4; simp only [hq]))); clear hq))
        | ((with_reducible first | refine c_split (fun hq => ?_) (fun hq => ?_) | refine q_split (fun hq => ?_) (fun hq => ?_)) <;> (try (first | (conv => arg 8; simp only [hq]) | (conv => arg 4; simp only [hq]))))
        | (with_reducible refine fin_0 ?_ (by first | rfl | (conv => lhs; simp only [go_sem, hfl, hft, hgi])) ?_)
        | exact Sub.refl _
        | omega)
      refine ⟨hlt, trivial, Wk.list [1000000] rfl rfl ?_⟩
      repeat' (first | (conv in hold _ => simp (disch := omega) only [go_sem, Nat.reduceEqDiff, Nat.reduceAdd, Nat.reduceMul, Nat.reduceSub, Nat.reduceLT, Nat.reduceLeDiff, ↓reduceIte, reduceCtorEq, Int.reduceToNat, hst, hren]) | exact True.intro | exact Sub.refl _ | omega)
    · have he := fil_end trD (.agg [I 0, I 0, I 0]) l
      repeat' (first
        | with_reducible refine acc_none ?_
        | (conv in hold _ => simp (disch := omega) only [go_sem, Nat.reduceEqDiff, Nat.reduceAdd, Nat.reduceMul, Nat.reduceSub, Nat.reduceLT, Nat.reduceLeDiff, ↓reduceIte, reduceCtorEq, Int.reduceToNat, he])
        | refine Stp.go ?_
        | with_reducible first | refine it_pos rfl ?_ | refine it_neg (by decide) ?_ | refine st_nil rfl ?_ | refine s_op ?_ ?_ | exact True.intro
        | ((with_reducible first | refine dw_reg0 ?_ | refine dw_regB ?_); (conv => arg 3; whnf))
        | (refine Spl.go (fun hq he => ?_) (fun hq he => ?_) <;> first | (exfalso; clear hq; omega) | ((try (first | (conv => arg 8; simp only [hq]) | (conv => arg 4; simp only [hq]))); clear hq))
        | ((with_reducible first | refine c_split (fun hq => ?_) (fun hq => ?_) | refine q_split (fun hq => ?_) (fun hq => ?_)) <;> (try (first | (conv => arg 8; simp only [hq]) | (conv => arg 4; simp only [hq]))))
        | exact Sub.refl _
        | omega)
      refine fin_wk (wk_frz 2 1000000 (by decide) (by decide) rfl ?_) ?_
      rotate_left
      (conv in hold _ => simp (disch := omega) only [go_sem, Nat.reduceEqDiff, Nat.reduceAdd, Nat.reduceMul, Nat.reduceSub, Nat.reduceLT, Nat.reduceLeDiff, ↓reduceIte, reduceCtorEq, Int.reduceToNat, hft, he, hfl])
      · refine fin_L [] ?_ ?_ rfl ?_
        repeat' (first | (conv in hold _ => simp (disch := omega) only [go_sem, Nat.reduceEqDiff, Nat.reduceAdd, Nat.reduceMul, Nat.reduceSub, Nat.reduceLT, Nat.reduceLeDiff, ↓reduceIte, reduceCtorEq, Int.reduceToNat]) | exact True.intro | exact Sub.refl _ | omega)
      · exact trs_pur _
theorem eqAtom_ok (v : Tr) : Does Try.prog 42 [] [trD v, trD v] (Bo true) [] := by
  refine does0 c_laws_eqAtom mixed (Nat.le_of_ble_eq_true rfl) ?_
  conv => arg 3; whnf
  repeat' (first
    | with_reducible refine acc_none ?_
    | (conv in hold _ => simp (disch := omega) only [go_sem, Nat.reduceEqDiff, Nat.reduceAdd, Nat.reduceMul, Nat.reduceSub, Nat.reduceLT, Nat.reduceLeDiff, ↓reduceIte, reduceCtorEq, Int.reduceToNat, beq_self_eq_true, bne_self_eq_false])
    | refine Stp.go ?_
    | with_reducible first | refine it_pos rfl ?_ | refine it_neg (by decide) ?_ | refine st_nil rfl ?_ | refine s_op ?_ ?_ | exact True.intro
    | ((with_reducible first | refine dw_reg0 ?_ | refine dw_regB ?_); (conv => arg 3; whnf))
    | (refine Spl.go (fun hq he => ?_) (fun hq he => ?_) <;> first | (exfalso; clear hq; omega) | ((try (first | (conv => arg 8; simp only [hq]) | (conv => arg 4; simp only [hq]))); clear hq))
    | ((with_reducible first | refine c_split (fun hq => ?_) (fun hq => ?_) | refine q_split (fun hq => ?_) (fun hq => ?_)) <;> (try (first | (conv => arg 8; simp only [hq]) | (conv => arg 4; simp only [hq]))))
    | (with_reducible refine fin_0 ?_ (by first | rfl | (conv => lhs; simp only [go_sem, beq_self_eq_true, bne_self_eq_false])) ?_)
    | exact Sub.refl _
    | omega)
theorem eqAtomS_ok (l : List Tr) (hlen : l.length ≤ 1048576) : Does Try.prog 28 [] [trsD l, trsD l] (Bo true) [] := by
  refine does0 c_laws_eqAtomS mixed (Nat.le_of_ble_eq_true rfl) ?_
  conv => arg 3; whnf
  repeat' (first
    | with_reducible refine acc_none ?_
    | (conv in hold _ => simp (disch := omega) only [go_sem, Nat.reduceEqDiff, Nat.reduceAdd, Nat.reduceMul, Nat.reduceSub, Nat.reduceLT, Nat.reduceLeDiff, ↓reduceIte, reduceCtorEq, Int.reduceToNat, beq_self_eq_true, bne_self_eq_false])
    | refine Stp.go ?_
    | with_reducible first | refine it_pos rfl ?_ | refine it_neg (by decide) ?_ | refine st_nil rfl ?_ | refine s_op ?_ ?_ | exact True.intro
    | ((with_reducible first | refine dw_reg0 ?_ | refine dw_regB ?_); (conv => arg 3; whnf))
    | (refine Spl.go (fun hq he => ?_) (fun hq he => ?_) <;> first | (exfalso; clear hq; omega) | ((try (first | (conv => arg 8; simp only [hq]) | (conv => arg 4; simp only [hq]))); clear hq))
    | ((with_reducible first | refine c_split (fun hq => ?_) (fun hq => ?_) | refine q_split (fun hq => ?_) (fun hq => ?_)) <;> (try (first | (conv => arg 8; simp only [hq]) | (conv => arg 4; simp only [hq]))))
    | (with_reducible refine fin_0 ?_ (by first | rfl | (conv => lhs; simp only [go_sem, beq_self_eq_true, bne_self_eq_false])) ?_)
    | exact Sub.refl _
    | omega)
  refine dw_for (c := 0) (l := fun i => [(0, trsD l), (1, trsD l), (5, I i)]) l.length (fun _ => True) 0 trivial (Wk.list [] rfl rfl ?_) (fun i hi _ => ?_) (Nat.zero_le _)
  · repeat' (first | (conv in hold _ => simp (disch := omega) only [go_sem, Nat.reduceEqDiff, Nat.reduceAdd, Nat.reduceMul, Nat.reduceSub, Nat.reduceLT, Nat.reduceLeDiff, ↓reduceIte, reduceCtorEq, Int.reduceToNat, beq_self_eq_true, bne_self_eq_false]) | exact True.intro | exact Sub.refl _ | omega)
    exact rfl
  · rcases at_or_end hi with ⟨x, hx, hlt⟩ | rfl
    · have hix := eqAtom_ok x
      repeat' (first
        | with_reducible refine acc_none ?_
        | (conv in hold _ => simp (disch := omega) only [go_sem, Nat.reduceEqDiff, Nat.reduceAdd, Nat.reduceMul, Nat.reduceSub, Nat.reduceLT, Nat.reduceLeDiff, ↓reduceIte, reduceCtorEq, Int.reduceToNat, beq_self_eq_true, bne_self_eq_false, List.getElem?_map, hx, Option.map_some])
        | refine Stp.go ?_
        | with_reducible first | refine it_pos rfl ?_ | refine it_neg (by decide) ?_ | refine st_nil rfl ?_ | refine s_op ?_ ?_ | exact True.intro
        | ((with_reducible first | refine dw_reg0 ?_ | refine dw_regB ?_); (conv => arg 3; whnf))
        | (refine Spl.go (fun hq he => ?_) (fun hq he => ?_) <;> first | (exfalso; clear hq; omega) | ((try (first | (conv => arg 8; simp only [hq]) | (conv => arg 4; simp only [hq]))); clear hq))
        | ((with_reducible first | refine c_split (fun hq => ?_) (fun hq => ?_) | refine q_split (fun hq => ?_) (fun hq => ?_)) <;> (try (first | (conv => arg 8; simp only [hq]) | (conv => arg 4; simp only [hq]))))
        | (with_reducible refine fin_0 ?_ (by first | rfl | (conv => lhs; simp only [go_sem, beq_self_eq_true, bne_self_eq_false, List.getElem?_map, hx, Option.map_some])) ?_)
        | exact Sub.refl _
        | omega)
      refine c_doesE (hix) ?_ ?_ ?_
      · ((try (conv => rhs; simp (disch := omega) only [go_sem, Nat.reduceEqDiff, Nat.reduceAdd, Nat.reduceMul, Nat.reduceSub, Nat.reduceLT, Nat.reduceLeDiff, ↓reduceIte, reduceCtorEq, Int.reduceToNat, beq_self_eq_true, bne_self_eq_false])); try rfl)
      · first | rfl | (conv => lhs; simp only [go_sem, beq_self_eq_true, bne_self_eq_false])
      repeat' (first
        | with_reducible refine acc_none ?_
        | (conv in hold _ => simp (disch := omega) only [go_sem, Nat.reduceEqDiff, Nat.reduceAdd, Nat.reduceMul, Nat.reduceSub, Nat.reduceLT, Nat.reduceLeDiff, ↓reduceIte, reduceCtorEq, Int.reduceToNat, beq_self_eq_true, bne_self_eq_false])
        | refine Stp.go ?_
        | with_reducible first | refine it_pos rfl ?_ | refine it_neg (by decide) ?_ | refine st_nil rfl ?_ | refine s_op ?_ ?_ | exact True.intro
        | ((with_reducible first | refine dw_reg0 ?_ | refine dw_regB ?_); (conv => arg 3; whnf))
        | (refine Spl.go (fun hq he => ?_) (fun hq he => ?_) <;> first | (exfalso; clear hq; omega) | ((try (first | (conv => arg 8; simp only [hq]) | (conv => arg 4; simp only [hq]))); clear hq))
        | ((with_reducible first | refine c_split (fun hq => ?_) (fun hq => ?_) | refine q_split (fun hq => ?_) (fun hq => ?_)) <;> (try (first | (conv => arg 8; simp only [hq]) | (conv => arg 4; simp only [hq]))))
        | (with_reducible refine fin_0 ?_ (by first | rfl | (conv => lhs; simp only [go_sem, beq_self_eq_true, bne_self_eq_false])) ?_)
        | exact Sub.refl _
        | omega)
      refine ⟨hlt, trivial, Wk.list [] rfl rfl ?_⟩
      repeat' (first | (conv in hold _ => simp (disch := omega) only [go_sem, Nat.reduceEqDiff, Nat.reduceAdd, Nat.reduceMul, Nat.reduceSub, Nat.reduceLT, Nat.reduceLeDiff, ↓reduceIte, reduceCtorEq, Int.reduceToNat, beq_self_eq_true, bne_self_eq_false]) | exact True.intro | exact Sub.refl _ | omega)
    · repeat' (first
        | with_reducible refine acc_none ?_
        | (conv in hold _ => simp (disch := omega) only [go_sem, Nat.reduceEqDiff, Nat.reduceAdd, Nat.reduceMul, Nat.reduceSub, Nat.reduceLT, Nat.reduceLeDiff, ↓reduceIte, reduceCtorEq, Int.reduceToNat, beq_self_eq_true, bne_self_eq_false])
        | refine Stp.go ?_
        | with_reducible first | refine it_pos rfl ?_ | refine it_neg (by decide) ?_ | refine st_nil rfl ?_ | refine s_op ?_ ?_ | exact True.intro
        | ((with_reducible first | refine dw_reg0 ?_ | refine dw_regB ?_); (conv => arg 3; whnf))
        | (refine Spl.go (fun hq he => ?_) (fun hq he => ?_) <;> first | (exfalso; clear hq; omega) | ((try (first | (conv => arg 8; simp only [hq]) | (conv => arg 4; simp only [hq]))); clear hq))
        | ((with_reducible first | refine c_split (fun hq => ?_) (fun hq => ?_) | refine q_split (fun hq => ?_) (fun hq => ?_)) <;> (try (first | (conv => arg 8; simp only [hq]) | (conv => arg 4; simp only [hq]))))
        | (with_reducible refine fin_0 ?_ (by first | rfl | (conv => lhs; simp only [go_sem, beq_self_eq_true, bne_self_eq_false])) ?_)
        | exact Sub.refl _
        | omega)
theorem szRule_ok (q : Ru) (hm : q.most) (left : Int) (h0 : 0 ≤ left) (h1 : left ≤ 1048576) : Does Try.prog 6 [] [ruD q, I left] (I (szV (q.h.length + q.b.length) left)) [] := by
  have hd := szIntS_ok q.h hm.1 left h0 h1
  by_cases hf : (q.h.length : Int) ≤ left
  · have hn := szAtomS_ok q.b hm.2 (left - q.h.length) (by omega) (by omega)
    rw [szV_t hf] at hd
    by_cases hg : (q.b.length : Int) ≤ left - q.h.length
    · rw [szV_t hg] at hn
      rw [szV_t (by omega)]
      refine does0 c_laws_szRule mixed (Nat.le_of_ble_eq_true rfl) ?_
      conv => arg 3; whnf
      repeat' (first
        | with_reducible refine acc_none ?_
        | (conv in hold _ => simp (disch := omega) only [go_sem, Nat.reduceEqDiff, Nat.reduceAdd, Nat.reduceMul, Nat.reduceSub, Nat.reduceLT, Nat.reduceLeDiff, ↓reduceIte, reduceCtorEq, Int.reduceToNat])
        | refine Stp.go ?_
        | with_reducible first | refine it_pos rfl ?_ | refine it_neg (by decide) ?_ | refine st_nil rfl ?_ | refine s_op ?_ ?_ | exact True.intro
        | ((with_reducible first | refine dw_reg0 ?_ | refine dw_regB ?_); (conv => arg 3; whnf))
        | (refine Spl.go (fun hq he => ?_) (fun hq he => ?_) <;> first | (exfalso; clear hq; omega) | ((try (first | (conv => arg 8; simp only [hq]) | (conv => arg 4; simp only [hq]))); clear hq))
        | ((with_reducible first | refine c_split (fun hq => ?_) (fun hq => ?_) | refine q_split (fun hq => ?_) (fun hq => ?_)) <;> (try (first | (conv => arg 8; simp only [hq]) | (conv => arg 4; simp only [hq]))))
        | (with_reducible refine fin_0 ?_ (by first | rfl | (conv => lhs; simp only [go_sem])) ?_)
        | exact Sub.refl _
        | omega)
      refine c_doesE (hd) ?_ ?_ ?_
      · ((try (conv => rhs; simp (disch := omega) only [go_sem, Nat.reduceEqDiff, Nat.reduceAdd, Nat.reduceMul, Nat.reduceSub, Nat.reduceLT, Nat.reduceLeDiff, ↓reduceIte, reduceCtorEq, Int.reduceToNat])); try rfl)
      · first | rfl | (conv => lhs; simp only [go_sem])
      repeat' (first
        | with_reducible refine acc_none ?_
        | (conv in hold _ => simp (disch := omega) only [go_sem, Nat.reduceEqDiff, Nat.reduceAdd, Nat.reduceMul, Nat.reduceSub, Nat.reduceLT, Nat.reduceLeDiff, ↓reduceIte, reduceCtorEq, Int.reduceToNat])
        | refine Stp.go ?_
        | with_reducible first | refine it_pos rfl ?_ | refine it_neg (by decide) ?_ | refine st_nil rfl ?_ | refine s_op ?_ ?_ | exact True.intro
        | ((with_reducible first | refine dw_reg0 ?_ | refine dw_regB ?_); (conv => arg 3; whnf))
        | (refine Spl.go (fun hq he => ?_) (fun hq he => ?_) <;> first | (exfalso; clear hq; omega) | ((try (first | (conv => arg 8; simp only [hq]) | (conv => arg 4; simp only [hq]))); clear hq))
        | ((with_reducible first | refine c_split (fun hq => ?_) (fun hq => ?_) | refine q_split (fun hq => ?_) (fun hq => ?_)) <;> (try (first | (conv => arg 8; simp only [hq]) | (conv => arg 4; simp only [hq]))))
        | (with_reducible refine fin_0 ?_ (by first | rfl | (conv => lhs; simp only [go_sem])) ?_)
        | exact Sub.refl _
        | omega)
      refine c_doesE (hn) ?_ ?_ ?_
      · ((try (conv => rhs; simp (disch := omega) only [go_sem, Nat.reduceEqDiff, Nat.reduceAdd, Nat.reduceMul, Nat.reduceSub, Nat.reduceLT, Nat.reduceLeDiff, ↓reduceIte, reduceCtorEq, Int.reduceToNat])); try rfl)
      · first | rfl | (conv => lhs; simp only [go_sem])
      repeat' (first
        | with_reducible refine acc_none ?_
        | (conv in hold _ => simp (disch := omega) only [go_sem, Nat.reduceEqDiff, Nat.reduceAdd, Nat.reduceMul, Nat.reduceSub, Nat.reduceLT, Nat.reduceLeDiff, ↓reduceIte, reduceCtorEq, Int.reduceToNat])
        | refine Stp.go ?_
        | with_reducible first | refine it_pos rfl ?_ | refine it_neg (by decide) ?_ | refine st_nil rfl ?_ | refine s_op ?_ ?_ | exact True.intro
        | ((with_reducible first | refine dw_reg0 ?_ | refine dw_regB ?_); (conv => arg 3; whnf))
        | (refine Spl.go (fun hq he => ?_) (fun hq he => ?_) <;> first | (exfalso; clear hq; omega) | ((try (first | (conv => arg 8; simp only [hq]) | (conv => arg 4; simp only [hq]))); clear hq))
        | ((with_reducible first | refine c_split (fun hq => ?_) (fun hq => ?_) | refine q_split (fun hq => ?_) (fun hq => ?_)) <;> (try (first | (conv => arg 8; simp only [hq]) | (conv => arg 4; simp only [hq]))))
        | (with_reducible refine fin_0 ?_ (by first | rfl | (conv => lhs; simp only [go_sem])) ?_)
        | exact Sub.refl _
        | omega)
      exact Sub.of_eq (congrArg (fun n => D.v (Value.int .i64 n)) (by omega))
    · rw [szV_f hg] at hn
      rw [szV_f (by omega)]
      refine does0 c_laws_szRule mixed (Nat.le_of_ble_eq_true rfl) ?_
      conv => arg 3; whnf
      repeat' (first
        | with_reducible refine acc_none ?_
        | (conv in hold _ => simp (disch := omega) only [go_sem, Nat.reduceEqDiff, Nat.reduceAdd, Nat.reduceMul, Nat.reduceSub, Nat.reduceLT, Nat.reduceLeDiff, ↓reduceIte, reduceCtorEq, Int.reduceToNat])
        | refine Stp.go ?_
        | with_reducible first | refine it_pos rfl ?_ | refine it_neg (by decide) ?_ | refine st_nil rfl ?_ | refine s_op ?_ ?_ | exact True.intro
        | ((with_reducible first | refine dw_reg0 ?_ | refine dw_regB ?_); (conv => arg 3; whnf))
        | (refine Spl.go (fun hq he => ?_) (fun hq he => ?_) <;> first | (exfalso; clear hq; omega) | ((try (first | (conv => arg 8; simp only [hq]) | (conv => arg 4; simp only [hq]))); clear hq))
        | ((with_reducible first | refine c_split (fun hq => ?_) (fun hq => ?_) | refine q_split (fun hq => ?_) (fun hq => ?_)) <;> (try (first | (conv => arg 8; simp only [hq]) | (conv => arg 4; simp only [hq]))))
        | (with_reducible refine fin_0 ?_ (by first | rfl | (conv => lhs; simp only [go_sem])) ?_)
        | exact Sub.refl _
        | omega)
      refine c_doesE (hd) ?_ ?_ ?_
      · ((try (conv => rhs; simp (disch := omega) only [go_sem, Nat.reduceEqDiff, Nat.reduceAdd, Nat.reduceMul, Nat.reduceSub, Nat.reduceLT, Nat.reduceLeDiff, ↓reduceIte, reduceCtorEq, Int.reduceToNat])); try rfl)
      · first | rfl | (conv => lhs; simp only [go_sem])
      repeat' (first
        | with_reducible refine acc_none ?_
        | (conv in hold _ => simp (disch := omega) only [go_sem, Nat.reduceEqDiff, Nat.reduceAdd, Nat.reduceMul, Nat.reduceSub, Nat.reduceLT, Nat.reduceLeDiff, ↓reduceIte, reduceCtorEq, Int.reduceToNat])
        | refine Stp.go ?_
        | with_reducible first | refine it_pos rfl ?_ | refine it_neg (by decide) ?_ | refine st_nil rfl ?_ | refine s_op ?_ ?_ | exact True.intro
        | ((with_reducible first | refine dw_reg0 ?_ | refine dw_regB ?_); (conv => arg 3; whnf))
        | (refine Spl.go (fun hq he => ?_) (fun hq he => ?_) <;> first | (exfalso; clear hq; omega) | ((try (first | (conv => arg 8; simp only [hq]) | (conv => arg 4; simp only [hq]))); clear hq))
        | ((with_reducible first | refine c_split (fun hq => ?_) (fun hq => ?_) | refine q_split (fun hq => ?_) (fun hq => ?_)) <;> (try (first | (conv => arg 8; simp only [hq]) | (conv => arg 4; simp only [hq]))))
        | (with_reducible refine fin_0 ?_ (by first | rfl | (conv => lhs; simp only [go_sem])) ?_)
        | exact Sub.refl _
        | omega)
      refine c_doesE (hn) ?_ ?_ ?_
      · ((try (conv => rhs; simp (disch := omega) only [go_sem, Nat.reduceEqDiff, Nat.reduceAdd, Nat.reduceMul, Nat.reduceSub, Nat.reduceLT, Nat.reduceLeDiff, ↓reduceIte, reduceCtorEq, Int.reduceToNat])); try rfl)
      · first | rfl | (conv => lhs; simp only [go_sem])
      repeat' (first
        | with_reducible refine acc_none ?_
        | (conv in hold _ => simp (disch := omega) only [go_sem, Nat.reduceEqDiff, Nat.reduceAdd, Nat.reduceMul, Nat.reduceSub, Nat.reduceLT, Nat.reduceLeDiff, ↓reduceIte, reduceCtorEq, Int.reduceToNat])
        | refine Stp.go ?_
        | with_reducible first | refine it_pos rfl ?_ | refine it_neg (by decide) ?_ | refine st_nil rfl ?_ | refine s_op ?_ ?_ | exact True.intro
        | ((with_reducible first | refine dw_reg0 ?_ | refine dw_regB ?_); (conv => arg 3; whnf))
        | (refine Spl.go (fun hq he => ?_) (fun hq he => ?_) <;> first | (exfalso; clear hq; omega) | ((try (first | (conv => arg 8; simp only [hq]) | (conv => arg 4; simp only [hq]))); clear hq))
        | ((with_reducible first | refine c_split (fun hq => ?_) (fun hq => ?_) | refine q_split (fun hq => ?_) (fun hq => ?_)) <;> (try (first | (conv => arg 8; simp only [hq]) | (conv => arg 4; simp only [hq]))))
        | (with_reducible refine fin_0 ?_ (by first | rfl | (conv => lhs; simp only [go_sem])) ?_)
        | exact Sub.refl _
        | omega)
  · rw [szV_f hf] at hd
    rw [szV_f (by omega)]
    refine does0 c_laws_szRule mixed (Nat.le_of_ble_eq_true rfl) ?_
    conv => arg 3; whnf
    repeat' (first
      | with_reducible refine acc_none ?_
      | (conv in hold _ => simp (disch := omega) only [go_sem, Nat.reduceEqDiff, Nat.reduceAdd, Nat.reduceMul, Nat.reduceSub, Nat.reduceLT, Nat.reduceLeDiff, ↓reduceIte, reduceCtorEq, Int.reduceToNat])
      | refine Stp.go ?_
      | with_reducible first | refine it_pos rfl ?_ | refine it_neg (by decide) ?_ | refine st_nil rfl ?_ | refine s_op ?_ ?_ | exact True.intro
      | ((with_reducible first | refine dw_reg0 ?_ | refine dw_regB ?_); (conv => arg 3; whnf))
      | (refine Spl.go (fun hq he => ?_) (fun hq he => ?_) <;> first | (exfalso; clear hq; omega) | ((try (first | (conv => arg 8; simp only [hq]) | (conv => arg 4; simp only [hq]))); clear hq))
      | ((with_reducible first | refine c_split (fun hq => ?_) (fun hq => ?_) | refine q_split (fun hq => ?_) (fun hq => ?_)) <;> (try (first | (conv => arg 8; simp only [hq]) | (conv => arg 4; simp only [hq]))))
      | (with_reducible refine fin_0 ?_ (by first | rfl | (conv => lhs; simp only [go_sem])) ?_)
      | exact Sub.refl _
      | omega)
    refine c_doesE (hd) ?_ ?_ ?_
    · ((try (conv => rhs; simp (disch := omega) only [go_sem, Nat.reduceEqDiff, Nat.reduceAdd, Nat.reduceMul, Nat.reduceSub, Nat.reduceLT, Nat.reduceLeDiff, ↓reduceIte, reduceCtorEq, Int.reduceToNat])); try rfl)
    · first | rfl | (conv => lhs; simp only [go_sem])
    repeat' (first
      | with_reducible refine acc_none ?_
      | (conv in hold _ => simp (disch := omega) only [go_sem, Nat.reduceEqDiff, Nat.reduceAdd, Nat.reduceMul, Nat.reduceSub, Nat.reduceLT, Nat.reduceLeDiff, ↓reduceIte, reduceCtorEq, Int.reduceToNat])
      | refine Stp.go ?_
      | with_reducible first | refine it_pos rfl ?_ | refine it_neg (by decide) ?_ | refine st_nil rfl ?_ | refine s_op ?_ ?_ | exact True.intro
      | ((with_reducible first | refine dw_reg0 ?_ | refine dw_regB ?_); (conv => arg 3; whnf))
      | (refine Spl.go (fun hq he => ?_) (fun hq he => ?_) <;> first | (exfalso; clear hq; omega) | ((try (first | (conv => arg 8; simp only [hq]) | (conv => arg 4; simp only [hq]))); clear hq))
      | ((with_reducible first | refine c_split (fun hq => ?_) (fun hq => ?_) | refine q_split (fun hq => ?_) (fun hq => ?_)) <;> (try (first | (conv => arg 8; simp only [hq]) | (conv => arg 4; simp only [hq]))))
      | (with_reducible refine fin_0 ?_ (by first | rfl | (conv => lhs; simp only [go_sem])) ?_)
      | exact Sub.refl _
      | omega)
theorem toRule_ok (q : Ru) (hd : q.h.length ≤ 1048576) (hn : q.b.length ≤ 1048576) : Does Try.prog 8 [] [ruD q] (ruD q) [] := by
  have h1 := toIntS_ok q.h hd
  have h2 := toAtomS_ok q.b hn
  refine does0 c_laws_toRule mixed (Nat.le_of_ble_eq_true rfl) ?_
  conv => arg 3; whnf
  repeat' (first
    | with_reducible refine acc_none ?_
    | (conv in hold _ => simp (disch := omega) only [go_sem, Nat.reduceEqDiff, Nat.reduceAdd, Nat.reduceMul, Nat.reduceSub, Nat.reduceLT, Nat.reduceLeDiff, ↓reduceIte, reduceCtorEq, Int.reduceToNat])
    | refine Stp.go ?_
    | with_reducible first | refine it_pos rfl ?_ | refine it_neg (by decide) ?_ | refine st_nil rfl ?_ | refine s_op ?_ ?_ | exact True.intro
    | ((with_reducible first | refine dw_reg0 ?_ | refine dw_regB ?_); (conv => arg 3; whnf))
    | (refine Spl.go (fun hq he => ?_) (fun hq he => ?_) <;> first | (exfalso; clear hq; omega) | ((try (first | (conv => arg 8; simp only [hq]) | (conv => arg 4; simp only [hq]))); clear hq))
    | ((with_reducible first | refine c_split (fun hq => ?_) (fun hq => ?_) | refine q_split (fun hq => ?_) (fun hq => ?_)) <;> (try (first | (conv => arg 8; simp only [hq]) | (conv => arg 4; simp only [hq]))))
    | (with_reducible refine fin_0 ?_ (by first | rfl | (conv => lhs; simp only [go_sem])) ?_)
    | exact Sub.refl _
    | omega)
  refine c_doesE (h1) ?_ ?_ ?_
  · ((try (conv => rhs; simp (disch := omega) only [go_sem, Nat.reduceEqDiff, Nat.reduceAdd, Nat.reduceMul, Nat.reduceSub, Nat.reduceLT, Nat.reduceLeDiff, ↓reduceIte, reduceCtorEq, Int.reduceToNat])); try rfl)
  · first | rfl | (conv => lhs; simp only [go_sem])
  repeat' (first
    | with_reducible refine acc_none ?_
    | (conv in hold _ => simp (disch := omega) only [go_sem, Nat.reduceEqDiff, Nat.reduceAdd, Nat.reduceMul, Nat.reduceSub, Nat.reduceLT, Nat.reduceLeDiff, ↓reduceIte, reduceCtorEq, Int.reduceToNat])
    | refine Stp.go ?_
    | with_reducible first | refine it_pos rfl ?_ | refine it_neg (by decide) ?_ | refine st_nil rfl ?_ | refine s_op ?_ ?_ | exact True.intro
    | ((with_reducible first | refine dw_reg0 ?_ | refine dw_regB ?_); (conv => arg 3; whnf))
    | (refine Spl.go (fun hq he => ?_) (fun hq he => ?_) <;> first | (exfalso; clear hq; omega) | ((try (first | (conv => arg 8; simp only [hq]) | (conv => arg 4; simp only [hq]))); clear hq))
    | ((with_reducible first | refine c_split (fun hq => ?_) (fun hq => ?_) | refine q_split (fun hq => ?_) (fun hq => ?_)) <;> (try (first | (conv => arg 8; simp only [hq]) | (conv => arg 4; simp only [hq]))))
    | (with_reducible refine fin_0 ?_ (by first | rfl | (conv => lhs; simp only [go_sem])) ?_)
    | exact Sub.refl _
    | omega)
  refine c_doesE (h2) ?_ ?_ ?_
  · ((try (conv => rhs; simp (disch := omega) only [go_sem, Nat.reduceEqDiff, Nat.reduceAdd, Nat.reduceMul, Nat.reduceSub, Nat.reduceLT, Nat.reduceLeDiff, ↓reduceIte, reduceCtorEq, Int.reduceToNat])); try rfl)
  · first | rfl | (conv => lhs; simp only [go_sem])
  repeat' (first
    | with_reducible refine acc_none ?_
    | (conv in hold _ => simp (disch := omega) only [go_sem, Nat.reduceEqDiff, Nat.reduceAdd, Nat.reduceMul, Nat.reduceSub, Nat.reduceLT, Nat.reduceLeDiff, ↓reduceIte, reduceCtorEq, Int.reduceToNat])
    | refine Stp.go ?_
    | with_reducible first | refine it_pos rfl ?_ | refine it_neg (by decide) ?_ | refine st_nil rfl ?_ | refine s_op ?_ ?_ | exact True.intro
    | ((with_reducible first | refine dw_reg0 ?_ | refine dw_regB ?_); (conv => arg 3; whnf))
    | (refine Spl.go (fun hq he => ?_) (fun hq he => ?_) <;> first | (exfalso; clear hq; omega) | ((try (first | (conv => arg 8; simp only [hq]) | (conv => arg 4; simp only [hq]))); clear hq))
    | ((with_reducible first | refine c_split (fun hq => ?_) (fun hq => ?_) | refine q_split (fun hq => ?_) (fun hq => ?_)) <;> (try (first | (conv => arg 8; simp only [hq]) | (conv => arg 4; simp only [hq]))))
    | (with_reducible refine fin_0 ?_ (by first | rfl | (conv => lhs; simp only [go_sem])) ?_)
    | exact Sub.refl _
    | omega)
theorem eqRule_ok (q : Ru) (hd : q.h.length ≤ 1048576) (hn : q.b.length ≤ 1048576) : Does Try.prog 10 [] [ruD q, ruD q] (Bo true) [] := by
  have h1 := eqIntS_ok q.h hd
  have h2 := eqAtomS_ok q.b hn
  refine does0 c_laws_eqRule mixed (Nat.le_of_ble_eq_true rfl) ?_
  conv => arg 3; whnf
  repeat' (first
    | with_reducible refine acc_none ?_
    | (conv in hold _ => simp (disch := omega) only [go_sem, Nat.reduceEqDiff, Nat.reduceAdd, Nat.reduceMul, Nat.reduceSub, Nat.reduceLT, Nat.reduceLeDiff, ↓reduceIte, reduceCtorEq, Int.reduceToNat, beq_self_eq_true, bne_self_eq_false])
    | refine Stp.go ?_
    | with_reducible first | refine it_pos rfl ?_ | refine it_neg (by decide) ?_ | refine st_nil rfl ?_ | refine s_op ?_ ?_ | exact True.intro
    | ((with_reducible first | refine dw_reg0 ?_ | refine dw_regB ?_); (conv => arg 3; whnf))
    | (refine Spl.go (fun hq he => ?_) (fun hq he => ?_) <;> first | (exfalso; clear hq; omega) | ((try (first | (conv => arg 8; simp only [hq]) | (conv => arg 4; simp only [hq]))); clear hq))
    | ((with_reducible first | refine c_split (fun hq => ?_) (fun hq => ?_) | refine q_split (fun hq => ?_) (fun hq => ?_)) <;> (try (first | (conv => arg 8; simp only [hq]) | (conv => arg 4; simp only [hq]))))
    | (with_reducible refine fin_0 ?_ (by first | rfl | (conv => lhs; simp only [go_sem, beq_self_eq_true, bne_self_eq_false])) ?_)
    | exact Sub.refl _
    | omega)
  refine c_doesE (h1) ?_ ?_ ?_
  · ((try (conv => rhs; simp (disch := omega) only [go_sem, Nat.reduceEqDiff, Nat.reduceAdd, Nat.reduceMul, Nat.reduceSub, Nat.reduceLT, Nat.reduceLeDiff, ↓reduceIte, reduceCtorEq, Int.reduceToNat, beq_self_eq_true, bne_self_eq_false])); try rfl)
  · first | rfl | (conv => lhs; simp only [go_sem, beq_self_eq_true, bne_self_eq_false])
  repeat' (first
    | with_reducible refine acc_none ?_
    | (conv in hold _ => simp (disch := omega) only [go_sem, Nat.reduceEqDiff, Nat.reduceAdd, Nat.reduceMul, Nat.reduceSub, Nat.reduceLT, Nat.reduceLeDiff, ↓reduceIte, reduceCtorEq, Int.reduceToNat, beq_self_eq_true, bne_self_eq_false])
    | refine Stp.go ?_
    | with_reducible first | refine it_pos rfl ?_ | refine it_neg (by decide) ?_ | refine st_nil rfl ?_ | refine s_op ?_ ?_ | exact True.intro
    | ((with_reducible first | refine dw_reg0 ?_ | refine dw_regB ?_); (conv => arg 3; whnf))
    | (refine Spl.go (fun hq he => ?_) (fun hq he => ?_) <;> first | (exfalso; clear hq; omega) | ((try (first | (conv => arg 8; simp only [hq]) | (conv => arg 4; simp only [hq]))); clear hq))
    | ((with_reducible first | refine c_split (fun hq => ?_) (fun hq => ?_) | refine q_split (fun hq => ?_) (fun hq => ?_)) <;> (try (first | (conv => arg 8; simp only [hq]) | (conv => arg 4; simp only [hq]))))
    | (with_reducible refine fin_0 ?_ (by first | rfl | (conv => lhs; simp only [go_sem, beq_self_eq_true, bne_self_eq_false])) ?_)
    | exact Sub.refl _
    | omega)
  refine c_doesE (h2) ?_ ?_ ?_
  · ((try (conv => rhs; simp (disch := omega) only [go_sem, Nat.reduceEqDiff, Nat.reduceAdd, Nat.reduceMul, Nat.reduceSub, Nat.reduceLT, Nat.reduceLeDiff, ↓reduceIte, reduceCtorEq, Int.reduceToNat, beq_self_eq_true, bne_self_eq_false])); try rfl)
  · first | rfl | (conv => lhs; simp only [go_sem, beq_self_eq_true, bne_self_eq_false])
  repeat' (first
    | with_reducible refine acc_none ?_
    | (conv in hold _ => simp (disch := omega) only [go_sem, Nat.reduceEqDiff, Nat.reduceAdd, Nat.reduceMul, Nat.reduceSub, Nat.reduceLT, Nat.reduceLeDiff, ↓reduceIte, reduceCtorEq, Int.reduceToNat, beq_self_eq_true, bne_self_eq_false])
    | refine Stp.go ?_
    | with_reducible first | refine it_pos rfl ?_ | refine it_neg (by decide) ?_ | refine st_nil rfl ?_ | refine s_op ?_ ?_ | exact True.intro
    | ((with_reducible first | refine dw_reg0 ?_ | refine dw_regB ?_); (conv => arg 3; whnf))
    | (refine Spl.go (fun hq he => ?_) (fun hq he => ?_) <;> first | (exfalso; clear hq; omega) | ((try (first | (conv => arg 8; simp only [hq]) | (conv => arg 4; simp only [hq]))); clear hq))
    | ((with_reducible first | refine c_split (fun hq => ?_) (fun hq => ?_) | refine q_split (fun hq => ?_) (fun hq => ?_)) <;> (try (first | (conv => arg 8; simp only [hq]) | (conv => arg 4; simp only [hq]))))
    | (with_reducible refine fin_0 ?_ (by first | rfl | (conv => lhs; simp only [go_sem, beq_self_eq_true, bne_self_eq_false])) ?_)
    | exact Sub.refl _
    | omega)
theorem szFactS_ok (l : List Tr) (hl : l.length ≤ big) (left : Int) (h0 : 0 ≤ left) (h1 : left ≤ 1048576) : Does Try.prog 11 [] [trsD l, I left] (I (szV l.length left)) [] := by
  unfold big at hl
  by_cases hf : (l.length : Int) ≤ left
  · rw [szV_t hf]
    refine does0 c_laws_szFactS mixed (Nat.le_of_ble_eq_true rfl) ?_
    conv => arg 3; whnf
    repeat' (first
      | with_reducible refine acc_none ?_
      | (conv in hold _ => simp (disch := omega) only [go_sem, Nat.reduceEqDiff, Nat.reduceAdd, Nat.reduceMul, Nat.reduceSub, Nat.reduceLT, Nat.reduceLeDiff, ↓reduceIte, reduceCtorEq, Int.reduceToNat])
      | refine Stp.go ?_
      | with_reducible first | refine it_pos rfl ?_ | refine it_neg (by decide) ?_ | refine st_nil rfl ?_ | refine s_op ?_ ?_ | exact True.intro
      | ((with_reducible first | refine dw_reg0 ?_ | refine dw_regB ?_); (conv => arg 3; whnf))
      | (refine Spl.go (fun hq he => ?_) (fun hq he => ?_) <;> first | (exfalso; clear hq; omega) | ((try (first | (conv => arg 8; simp only [hq]) | (conv => arg 4; simp only [hq]))); clear hq))
      | ((with_reducible first | refine c_split (fun hq => ?_) (fun hq => ?_) | refine q_split (fun hq => ?_) (fun hq => ?_)) <;> (try (first | (conv => arg 8; simp only [hq]) | (conv => arg 4; simp only [hq]))))
      | (with_reducible refine fin_0 ?_ (by first | rfl | (conv => lhs; simp only [go_sem])) ?_)
      | exact Sub.refl _
      | omega)
  · rw [szV_f hf]
    refine does0 c_laws_szFactS mixed (Nat.le_of_ble_eq_true rfl) ?_
    conv => arg 3; whnf
    repeat' (first
      | with_reducible refine acc_none ?_
      | (conv in hold _ => simp (disch := omega) only [go_sem, Nat.reduceEqDiff, Nat.reduceAdd, Nat.reduceMul, Nat.reduceSub, Nat.reduceLT, Nat.reduceLeDiff, ↓reduceIte, reduceCtorEq, Int.reduceToNat])
      | refine Stp.go ?_
      | with_reducible first | refine it_pos rfl ?_ | refine it_neg (by decide) ?_ | refine st_nil rfl ?_ | refine s_op ?_ ?_ | exact True.intro
      | ((with_reducible first | refine dw_reg0 ?_ | refine dw_regB ?_); (conv => arg 3; whnf))
      | (refine Spl.go (fun hq he => ?_) (fun hq he => ?_) <;> first | (exfalso; clear hq; omega) | ((try (first | (conv => arg 8; simp only [hq]) | (conv => arg 4; simp only [hq]))); clear hq))
      | ((with_reducible first | refine c_split (fun hq => ?_) (fun hq => ?_) | refine q_split (fun hq => ?_) (fun hq => ?_)) <;> (try (first | (conv => arg 8; simp only [hq]) | (conv => arg 4; simp only [hq]))))
      | (with_reducible refine fin_0 ?_ (by first | rfl | (conv => lhs; simp only [go_sem])) ?_)
      | exact Sub.refl _
      | omega)
theorem toFact_ok (v : Tr) : Does Try.prog 30 [] [trD v] (trD v) [] := by
  refine does0 c_laws_toFact mixed (Nat.le_of_ble_eq_true rfl) ?_
  conv => arg 3; whnf
  repeat' (first
    | with_reducible refine acc_none ?_
    | (conv in hold _ => simp (disch := omega) only [go_sem, Nat.reduceEqDiff, Nat.reduceAdd, Nat.reduceMul, Nat.reduceSub, Nat.reduceLT, Nat.reduceLeDiff, ↓reduceIte, reduceCtorEq, Int.reduceToNat])
    | refine Stp.go ?_
    | with_reducible first | refine it_pos rfl ?_ | refine it_neg (by decide) ?_ | refine st_nil rfl ?_ | refine s_op ?_ ?_ | exact True.intro
    | ((with_reducible first | refine dw_reg0 ?_ | refine dw_regB ?_); (conv => arg 3; whnf))
    | (refine Spl.go (fun hq he => ?_) (fun hq he => ?_) <;> first | (exfalso; clear hq; omega) | ((try (first | (conv => arg 8; simp only [hq]) | (conv => arg 4; simp only [hq]))); clear hq))
    | ((with_reducible first | refine c_split (fun hq => ?_) (fun hq => ?_) | refine q_split (fun hq => ?_) (fun hq => ?_)) <;> (try (first | (conv => arg 8; simp only [hq]) | (conv => arg 4; simp only [hq]))))
    | (with_reducible refine fin_0 ?_ (by first | rfl | (conv => lhs; simp only [go_sem])) ?_)
    | exact Sub.refl _
    | omega)
theorem toFactS_ok (l : List Tr) (hlen : l.length ≤ 1048576) : Does Try.prog 13 [] [trsD l] (trsD l) [] := by
  have hz := fil_zero trD (.agg [I 0, I 0, I 0]) l
  have hren := fil_ren trD (.agg [I 0, I 0, I 0]) (fun _ => rfl) rfl l
  refine does0 c_laws_toFactS mixed (Nat.le_of_ble_eq_true rfl) ?_
  conv => arg 3; whnf
  repeat' (first
    | with_reducible refine acc_none ?_
    | (conv in hold _ => simp (disch := omega) only [go_sem, Nat.reduceEqDiff, Nat.reduceAdd, Nat.reduceMul, Nat.reduceSub, Nat.reduceLT, Nat.reduceLeDiff, ↓reduceIte, reduceCtorEq, Int.reduceToNat])
    | refine Stp.go ?_
    | with_reducible first | refine it_pos rfl ?_ | refine it_neg (by decide) ?_ | refine st_nil rfl ?_ | refine s_op ?_ ?_ | exact True.intro
    | ((with_reducible first | refine dw_reg0 ?_ | refine dw_regB ?_); (conv => arg 3; whnf))
    | (refine Spl.go (fun hq he => ?_) (fun hq he => ?_) <;> first | (exfalso; clear hq; omega) | ((try (first | (conv => arg 8; simp only [hq]) | (conv => arg 4; simp only [hq]))); clear hq))
    | ((with_reducible first | refine c_split (fun hq => ?_) (fun hq => ?_) | refine q_split (fun hq => ?_) (fun hq => ?_)) <;> (try (first | (conv => arg 8; simp only [hq]) | (conv => arg 4; simp only [hq]))))
    | (with_reducible refine fin_0 ?_ (by first | rfl | (conv => lhs; simp only [go_sem])) ?_)
    | exact Sub.refl _
    | omega)
  refine dw_for (c := 1) (l := fun i => [(0, trsD l), (3, .own 1000000 3 l.length), (4, I i), (1000000, .row 3 (fil trD (.agg [I 0, I 0, I 0]) l i))]) l.length (fun _ => True) 0 trivial (Wk.list [2000007] rfl rfl ?_) (fun i hi _ => ?_) (Nat.zero_le _)
  · repeat' (first | (conv in hold _ => simp (disch := omega) only [go_sem, Nat.reduceEqDiff, Nat.reduceAdd, Nat.reduceMul, Nat.reduceSub, Nat.reduceLT, Nat.reduceLeDiff, ↓reduceIte, reduceCtorEq, Int.reduceToNat, hren]) | exact True.intro | exact Sub.refl _ | omega)
    rw [hz]
    exact ⟨rfl, rfl⟩
  · have hfl := fil_len trD (.agg [I 0, I 0, I 0]) l hi
    have hft := fil_take trD (.agg [I 0, I 0, I 0]) l hi
    rcases at_or_end hi with ⟨x, hx, hlt⟩ | rfl
    · have hst := fil_set trD (.agg [I 0, I 0, I 0]) hx
      rw [trD] at hst
      have hgi : (fil trD (.agg [I 0, I 0, I 0]) l i)[i]? = some (.agg [I 0, I 0, I 0]) := fil_get trD (.agg [I 0, I 0, I 0]) hlt
      have hv := toFact_ok x
      repeat' (first
        | with_reducible refine acc_none ?_
        | (conv in hold _ => simp (disch := omega) only [go_sem, Nat.reduceEqDiff, Nat.reduceAdd, Nat.reduceMul, Nat.reduceSub, Nat.reduceLT, Nat.reduceLeDiff, ↓reduceIte, reduceCtorEq, Int.reduceToNat, List.getElem?_map, hx, Option.map_some, hfl, hft, hgi])
        | refine Stp.go ?_
        | with_reducible first | refine it_pos rfl ?_ | refine it_neg (by decide) ?_ | refine st_nil rfl ?_ | refine s_op ?_ ?_ | exact True.intro
        | ((with_reducible first | refine dw_reg0 ?_ | refine dw_regB ?_); (conv => arg 3; whnf))
        | (refine Spl.go (fun hq he => ?_) (fun hq he => ?_) <;> first | (exfalso; clear hq; omega) | ((try (first | (conv => arg 8; simp only [hq]) | (conv => arg 4; simp only [hq]))); clear hq))
        | ((with_reducible first | refine c_split (fun hq => ?_) (fun hq => ?_) | refine q_split (fun hq => ?_) (fun hq => ?_)) <;> (try (first | (conv => arg 8; simp only [hq]) | (conv => arg 4; simp only [hq]))))
        | (with_reducible refine fin_0 ?_ (by first | rfl | (conv => lhs; simp only [go_sem, List.getElem?_map, hx, Option.map_some, hfl, hft, hgi])) ?_)
        | exact Sub.refl _
        | omega)
      refine c_doesE (hv) ?_ ?_ ?_
      · ((try (conv => rhs; simp (disch := omega) only [go_sem, Nat.reduceEqDiff, Nat.reduceAdd, Nat.reduceMul, Nat.reduceSub, Nat.reduceLT, Nat.reduceLeDiff, ↓reduceIte, reduceCtorEq, Int.reduceToNat, hfl, hft, hgi])); try rfl)
      · first | rfl | (conv => lhs; simp only [go_sem, hfl, hft, hgi])
      repeat' (first
        | with_reducible refine acc_none ?_
        | (conv in hold _ => simp (disch := omega) only [go_sem, Nat.reduceEqDiff, Nat.reduceAdd, Nat.reduceMul, Nat.reduceSub, Nat.reduceLT, Nat.reduceLeDiff, ↓reduceIte, reduceCtorEq, Int.reduceToNat, hfl, hft, hgi])
        | refine Stp.go ?_
        | with_reducible first | refine it_pos rfl ?_ | refine it_neg (by decide) ?_ | refine st_nil rfl ?_ | refine s_op ?_ ?_ | exact True.intro
        | ((with_reducible first | refine dw_reg0 ?_ | refine dw_regB ?_); (conv => arg 3; whnf))
        | (refine Spl.go (fun hq he => ?_) (fun hq he => ?_) <;> first | (exfalso; clear hq; omega) | ((try (first | (conv => arg 8; simp only [hq]) | (conv => arg 4; simp only [hq]))); clear hq))
        | ((with_reducible first | refine c_split (fun hq => ?_) (fun hq => ?_) | refine q_split (fun hq => ?_) (fun hq => ?_)) <;> (try (first | (conv => arg 8; simp only [hq]) | (conv => arg 4; simp only [hq]))))
        | (with_reducible refine fin_0 ?_ (by first | rfl | (conv => lhs; simp only [go_sem, hfl, hft, hgi])) ?_)
        | exact Sub.refl _
        | omega)
      refine ⟨hlt, trivial, Wk.list [1000000] rfl rfl ?_⟩
      repeat' (first | (conv in hold _ => simp (disch := omega) only [go_sem, Nat.reduceEqDiff, Nat.reduceAdd, Nat.reduceMul, Nat.reduceSub, Nat.reduceLT, Nat.reduceLeDiff, ↓reduceIte, reduceCtorEq, Int.reduceToNat, hst, hren]) | exact True.intro | exact Sub.refl _ | omega)
    · have he := fil_end trD (.agg [I 0, I 0, I 0]) l
      repeat' (first
        | with_reducible refine acc_none ?_
        | (conv in hold _ => simp (disch := omega) only [go_sem, Nat.reduceEqDiff, Nat.reduceAdd, Nat.reduceMul, Nat.reduceSub, Nat.reduceLT, Nat.reduceLeDiff, ↓reduceIte, reduceCtorEq, Int.reduceToNat, he])
        | refine Stp.go ?_
        | with_reducible first | refine it_pos rfl ?_ | refine it_neg (by decide) ?_ | refine st_nil rfl ?_ | refine s_op ?_ ?_ | exact True.intro
        | ((with_reducible first | refine dw_reg0 ?_ | refine dw_regB ?_); (conv => arg 3; whnf))
        | (refine Spl.go (fun hq he => ?_) (fun hq he => ?_) <;> first | (exfalso; clear hq; omega) | ((try (first | (conv => arg 8; simp only [hq]) | (conv => arg 4; simp only [hq]))); clear hq))
        | ((with_reducible first | refine c_split (fun hq => ?_) (fun hq => ?_) | refine q_split (fun hq => ?_) (fun hq => ?_)) <;> (try (first | (conv => arg 8; simp only [hq]) | (conv => arg 4; simp only [hq]))))
        | exact Sub.refl _
        | omega)
      refine fin_wk (wk_frz 2 1000000 (by decide) (by decide) rfl ?_) ?_
      rotate_left
      (conv in hold _ => simp (disch := omega) only [go_sem, Nat.reduceEqDiff, Nat.reduceAdd, Nat.reduceMul, Nat.reduceSub, Nat.reduceLT, Nat.reduceLeDiff, ↓reduceIte, reduceCtorEq, Int.reduceToNat, hft, he, hfl])
      · refine fin_L [] ?_ ?_ rfl ?_
        repeat' (first | (conv in hold _ => simp (disch := omega) only [go_sem, Nat.reduceEqDiff, Nat.reduceAdd, Nat.reduceMul, Nat.reduceSub, Nat.reduceLT, Nat.reduceLeDiff, ↓reduceIte, reduceCtorEq, Int.reduceToNat]) | exact True.intro | exact Sub.refl _ | omega)
      · exact trs_pur _
theorem eqFact_ok (v : Tr) : Does Try.prog 32 [] [trD v, trD v] (Bo true) [] := by
  refine does0 c_laws_eqFact mixed (Nat.le_of_ble_eq_true rfl) ?_
  conv => arg 3; whnf
  repeat' (first
    | with_reducible refine acc_none ?_
    | (conv in hold _ => simp (disch := omega) only [go_sem, Nat.reduceEqDiff, Nat.reduceAdd, Nat.reduceMul, Nat.reduceSub, Nat.reduceLT, Nat.reduceLeDiff, ↓reduceIte, reduceCtorEq, Int.reduceToNat, beq_self_eq_true, bne_self_eq_false])
    | refine Stp.go ?_
    | with_reducible first | refine it_pos rfl ?_ | refine it_neg (by decide) ?_ | refine st_nil rfl ?_ | refine s_op ?_ ?_ | exact True.intro
    | ((with_reducible first | refine dw_reg0 ?_ | refine dw_regB ?_); (conv => arg 3; whnf))
    | (refine Spl.go (fun hq he => ?_) (fun hq he => ?_) <;> first | (exfalso; clear hq; omega) | ((try (first | (conv => arg 8; simp only [hq]) | (conv => arg 4; simp only [hq]))); clear hq))
    | ((with_reducible first | refine c_split (fun hq => ?_) (fun hq => ?_) | refine q_split (fun hq => ?_) (fun hq => ?_)) <;> (try (first | (conv => arg 8; simp only [hq]) | (conv => arg 4; simp only [hq]))))
    | (with_reducible refine fin_0 ?_ (by first | rfl | (conv => lhs; simp only [go_sem, beq_self_eq_true, bne_self_eq_false])) ?_)
    | exact Sub.refl _
    | omega)
theorem eqFactS_ok (l : List Tr) (hlen : l.length ≤ 1048576) : Does Try.prog 15 [] [trsD l, trsD l] (Bo true) [] := by
  refine does0 c_laws_eqFactS mixed (Nat.le_of_ble_eq_true rfl) ?_
  conv => arg 3; whnf
  repeat' (first
    | with_reducible refine acc_none ?_
    | (conv in hold _ => simp (disch := omega) only [go_sem, Nat.reduceEqDiff, Nat.reduceAdd, Nat.reduceMul, Nat.reduceSub, Nat.reduceLT, Nat.reduceLeDiff, ↓reduceIte, reduceCtorEq, Int.reduceToNat, beq_self_eq_true, bne_self_eq_false])
    | refine Stp.go ?_
    | with_reducible first | refine it_pos rfl ?_ | refine it_neg (by decide) ?_ | refine st_nil rfl ?_ | refine s_op ?_ ?_ | exact True.intro
    | ((with_reducible first | refine dw_reg0 ?_ | refine dw_regB ?_); (conv => arg 3; whnf))
    | (refine Spl.go (fun hq he => ?_) (fun hq he => ?_) <;> first | (exfalso; clear hq; omega) | ((try (first | (conv => arg 8; simp only [hq]) | (conv => arg 4; simp only [hq]))); clear hq))
    | ((with_reducible first | refine c_split (fun hq => ?_) (fun hq => ?_) | refine q_split (fun hq => ?_) (fun hq => ?_)) <;> (try (first | (conv => arg 8; simp only [hq]) | (conv => arg 4; simp only [hq]))))
    | (with_reducible refine fin_0 ?_ (by first | rfl | (conv => lhs; simp only [go_sem, beq_self_eq_true, bne_self_eq_false])) ?_)
    | exact Sub.refl _
    | omega)
  refine dw_for (c := 0) (l := fun i => [(0, trsD l), (1, trsD l), (5, I i)]) l.length (fun _ => True) 0 trivial (Wk.list [] rfl rfl ?_) (fun i hi _ => ?_) (Nat.zero_le _)
  · repeat' (first | (conv in hold _ => simp (disch := omega) only [go_sem, Nat.reduceEqDiff, Nat.reduceAdd, Nat.reduceMul, Nat.reduceSub, Nat.reduceLT, Nat.reduceLeDiff, ↓reduceIte, reduceCtorEq, Int.reduceToNat, beq_self_eq_true, bne_self_eq_false]) | exact True.intro | exact Sub.refl _ | omega)
    exact rfl
  · rcases at_or_end hi with ⟨x, hx, hlt⟩ | rfl
    · have hix := eqFact_ok x
      repeat' (first
        | with_reducible refine acc_none ?_
        | (conv in hold _ => simp (disch := omega) only [go_sem, Nat.reduceEqDiff, Nat.reduceAdd, Nat.reduceMul, Nat.reduceSub, Nat.reduceLT, Nat.reduceLeDiff, ↓reduceIte, reduceCtorEq, Int.reduceToNat, beq_self_eq_true, bne_self_eq_false, List.getElem?_map, hx, Option.map_some])
        | refine Stp.go ?_
        | with_reducible first | refine it_pos rfl ?_ | refine it_neg (by decide) ?_ | refine st_nil rfl ?_ | refine s_op ?_ ?_ | exact True.intro
        | ((with_reducible first | refine dw_reg0 ?_ | refine dw_regB ?_); (conv => arg 3; whnf))
        | (refine Spl.go (fun hq he => ?_) (fun hq he => ?_) <;> first | (exfalso; clear hq; omega) | ((try (first | (conv => arg 8; simp only [hq]) | (conv => arg 4; simp only [hq]))); clear hq))
        | ((with_reducible first | refine c_split (fun hq => ?_) (fun hq => ?_) | refine q_split (fun hq => ?_) (fun hq => ?_)) <;> (try (first | (conv => arg 8; simp only [hq]) | (conv => arg 4; simp only [hq]))))
        | (with_reducible refine fin_0 ?_ (by first | rfl | (conv => lhs; simp only [go_sem, beq_self_eq_true, bne_self_eq_false, List.getElem?_map, hx, Option.map_some])) ?_)
        | exact Sub.refl _
        | omega)
      refine c_doesE (hix) ?_ ?_ ?_
      · ((try (conv => rhs; simp (disch := omega) only [go_sem, Nat.reduceEqDiff, Nat.reduceAdd, Nat.reduceMul, Nat.reduceSub, Nat.reduceLT, Nat.reduceLeDiff, ↓reduceIte, reduceCtorEq, Int.reduceToNat, beq_self_eq_true, bne_self_eq_false])); try rfl)
      · first | rfl | (conv => lhs; simp only [go_sem, beq_self_eq_true, bne_self_eq_false])
      repeat' (first
        | with_reducible refine acc_none ?_
        | (conv in hold _ => simp (disch := omega) only [go_sem, Nat.reduceEqDiff, Nat.reduceAdd, Nat.reduceMul, Nat.reduceSub, Nat.reduceLT, Nat.reduceLeDiff, ↓reduceIte, reduceCtorEq, Int.reduceToNat, beq_self_eq_true, bne_self_eq_false])
        | refine Stp.go ?_
        | with_reducible first | refine it_pos rfl ?_ | refine it_neg (by decide) ?_ | refine st_nil rfl ?_ | refine s_op ?_ ?_ | exact True.intro
        | ((with_reducible first | refine dw_reg0 ?_ | refine dw_regB ?_); (conv => arg 3; whnf))
        | (refine Spl.go (fun hq he => ?_) (fun hq he => ?_) <;> first | (exfalso; clear hq; omega) | ((try (first | (conv => arg 8; simp only [hq]) | (conv => arg 4; simp only [hq]))); clear hq))
        | ((with_reducible first | refine c_split (fun hq => ?_) (fun hq => ?_) | refine q_split (fun hq => ?_) (fun hq => ?_)) <;> (try (first | (conv => arg 8; simp only [hq]) | (conv => arg 4; simp only [hq]))))
        | (with_reducible refine fin_0 ?_ (by first | rfl | (conv => lhs; simp only [go_sem, beq_self_eq_true, bne_self_eq_false])) ?_)
        | exact Sub.refl _
        | omega)
      refine ⟨hlt, trivial, Wk.list [] rfl rfl ?_⟩
      repeat' (first | (conv in hold _ => simp (disch := omega) only [go_sem, Nat.reduceEqDiff, Nat.reduceAdd, Nat.reduceMul, Nat.reduceSub, Nat.reduceLT, Nat.reduceLeDiff, ↓reduceIte, reduceCtorEq, Int.reduceToNat, beq_self_eq_true, bne_self_eq_false]) | exact True.intro | exact Sub.refl _ | omega)
    · repeat' (first
        | with_reducible refine acc_none ?_
        | (conv in hold _ => simp (disch := omega) only [go_sem, Nat.reduceEqDiff, Nat.reduceAdd, Nat.reduceMul, Nat.reduceSub, Nat.reduceLT, Nat.reduceLeDiff, ↓reduceIte, reduceCtorEq, Int.reduceToNat, beq_self_eq_true, bne_self_eq_false])
        | refine Stp.go ?_
        | with_reducible first | refine it_pos rfl ?_ | refine it_neg (by decide) ?_ | refine st_nil rfl ?_ | refine s_op ?_ ?_ | exact True.intro
        | ((with_reducible first | refine dw_reg0 ?_ | refine dw_regB ?_); (conv => arg 3; whnf))
        | (refine Spl.go (fun hq he => ?_) (fun hq he => ?_) <;> first | (exfalso; clear hq; omega) | ((try (first | (conv => arg 8; simp only [hq]) | (conv => arg 4; simp only [hq]))); clear hq))
        | ((with_reducible first | refine c_split (fun hq => ?_) (fun hq => ?_) | refine q_split (fun hq => ?_) (fun hq => ?_)) <;> (try (first | (conv => arg 8; simp only [hq]) | (conv => arg 4; simp only [hq]))))
        | (with_reducible refine fin_0 ?_ (by first | rfl | (conv => lhs; simp only [go_sem, beq_self_eq_true, bne_self_eq_false])) ?_)
        | exact Sub.refl _
        | omega)
end Go.Proofs.Ytenbhgkfbjfocaa
