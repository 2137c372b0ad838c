/-
  The law that sizes add up. No condition.
-/
import Derived.Test.YtimpofjjndbofaaVColsB
import Derived.Test.YtimpofjjndbofaaVWLaws
set_option maxHeartbeats 4000000
set_option maxRecDepth 100000
namespace Go.Proofs.Ytimpofjjndbofaa
open Go.RowKit

theorem DrawExprSize_ok (cs : List Nat) (hc : ∀ b, b ∈ cs → b < 256) : ∃ e : E, Does Try.prog 11 [] [bytesD cs] (eD e) [] := by
  have hs : Src (cs.take 2000) := ⟨fun b hb => hc b (List.mem_of_mem_take hb), by rw [List.length_take]; omega⟩
  have hr := newReader_ok cs
  obtain ⟨e, q, he, _, _⟩ := anyExpr_ok hs 3 (by decide) 0 (by decide)
  refine ⟨e, ?_⟩
  refine does0 c_spec_DrawExprSize mixed (Nat.le_of_ble_eq_true rfl) ?_
  conv => arg 3; whnf
  repeat' (first
    | with_reducible refine acc_none ?_
    | (conv in hold _ => simp (disch := omega) only [go_sem, Nat.reduceEqDiff, Nat.reduceAdd, Nat.reduceMul, Nat.reduceSub, Nat.reduceLT, Nat.reduceLeDiff, ↓reduceIte, reduceCtorEq, Int.reduceToNat])
    | (with_reducible first | refine dw_seq ?_ | refine dw_block ?_ | refine dw_skip ?_ | refine dw_ret ?_ | refine dw_exit ?_ | refine it_pos rfl ?_ | refine it_neg (by decide) ?_ | refine dw_cond ?_ | refine st_nil0 ?_ | refine st_nil rfl ?_ | refine c_true ?_ | refine c_false ?_ | refine st_one ?_ | refine st_guard ?_ | refine s_call ?_ | refine s_cal ?_ | refine s_inv ?_ | refine s_op ?_ ?_ | refine q_run _ ?_ | refine q_tf ?_ | refine q_ft ?_ | refine q_undef ?_ | exact True.intro)
    | ((with_reducible first | refine dw_reg0 ?_ | refine dw_regB ?_); (conv => arg 3; whnf))
    | ((with_reducible first | refine c_splitP (fun hq he => ?_) (fun hq he => ?_) | refine c_splitE (fun hq he => ?_) (fun hq he => ?_) | refine c_splitN (fun hq he => ?_) (fun hq he => ?_) | refine c_splitQ (fun hq he => ?_) (fun hq he => ?_) | refine q_splitPt (fun hq he => ?_) (fun hq he => ?_) | refine q_splitPf (fun hq he => ?_) (fun hq he => ?_) | refine q_splitEt (fun hq he => ?_) (fun hq he => ?_) | refine q_splitEf (fun hq he => ?_) (fun hq he => ?_) | refine q_splitNt (fun hq he => ?_) (fun hq he => ?_) | refine q_splitNf (fun hq he => ?_) (fun hq he => ?_)) <;> first | (exfalso; clear hq; omega) | ((try (first | (conv => arg 8; simp only [hq]) | (conv => arg 4; simp only [hq]))); clear hq))
    | ((with_reducible first | refine c_split (fun hq => ?_) (fun hq => ?_) | refine q_split (fun hq => ?_) (fun hq => ?_)) <;> (try (first | (conv => arg 8; simp only [hq]) | (conv => arg 4; simp only [hq]))))
    | (with_reducible refine fin_0 ?_ (by first | rfl | (conv => lhs; simp only [go_sem])) ?_)
    | exact Sub.refl _
    | omega)
  refine c_doesR [3000001] (hr) (callOK_of rfl (Nat.le_of_ble_eq_true rfl) rfl ?_ ?_) ?_ ?_
  · repeat' (first | (conv in hold _ => simp (disch := omega) only [go_sem, Nat.reduceEqDiff, Nat.reduceAdd, Nat.reduceMul, Nat.reduceSub, Nat.reduceLT, Nat.reduceLeDiff, ↓reduceIte, reduceCtorEq, Int.reduceToNat]) | exact True.intro | exact Sub.refl _ | omega)
  · repeat' (first | (conv in hold _ => simp (disch := omega) only [go_sem, Nat.reduceEqDiff, Nat.reduceAdd, Nat.reduceMul, Nat.reduceSub, Nat.reduceLT, Nat.reduceLeDiff, ↓reduceIte, reduceCtorEq, Int.reduceToNat]) | exact True.intro | exact Sub.refl _ | omega)
  · ((conv => rhs; simp (disch := omega) only [go_sem, Nat.reduceEqDiff, Nat.reduceAdd, Nat.reduceMul, Nat.reduceSub, Nat.reduceLT, Nat.reduceLeDiff, ↓reduceIte, reduceCtorEq, Int.reduceToNat]); try rfl)
  repeat' (first
    | with_reducible refine acc_none ?_
    | (conv in hold _ => simp (disch := omega) only [go_sem, Nat.reduceEqDiff, Nat.reduceAdd, Nat.reduceMul, Nat.reduceSub, Nat.reduceLT, Nat.reduceLeDiff, ↓reduceIte, reduceCtorEq, Int.reduceToNat])
    | (with_reducible first | refine dw_seq ?_ | refine dw_block ?_ | refine dw_skip ?_ | refine dw_ret ?_ | refine dw_exit ?_ | refine it_pos rfl ?_ | refine it_neg (by decide) ?_ | refine dw_cond ?_ | refine st_nil0 ?_ | refine st_nil rfl ?_ | refine c_true ?_ | refine c_false ?_ | refine st_one ?_ | refine st_guard ?_ | refine s_call ?_ | refine s_cal ?_ | refine s_inv ?_ | refine s_op ?_ ?_ | refine q_run _ ?_ | refine q_tf ?_ | refine q_ft ?_ | refine q_undef ?_ | exact True.intro)
    | ((with_reducible first | refine dw_reg0 ?_ | refine dw_regB ?_); (conv => arg 3; whnf))
    | ((with_reducible first | refine c_splitP (fun hq he => ?_) (fun hq he => ?_) | refine c_splitE (fun hq he => ?_) (fun hq he => ?_) | refine c_splitN (fun hq he => ?_) (fun hq he => ?_) | refine c_splitQ (fun hq he => ?_) (fun hq he => ?_) | refine q_splitPt (fun hq he => ?_) (fun hq he => ?_) | refine q_splitPf (fun hq he => ?_) (fun hq he => ?_) | refine q_splitEt (fun hq he => ?_) (fun hq he => ?_) | refine q_splitEf (fun hq he => ?_) (fun hq he => ?_) | refine q_splitNt (fun hq he => ?_) (fun hq he => ?_) | refine q_splitNf (fun hq he => ?_) (fun hq he => ?_)) <;> first | (exfalso; clear hq; omega) | ((try (first | (conv => arg 8; simp only [hq]) | (conv => arg 4; simp only [hq]))); clear hq))
    | ((with_reducible first | refine c_split (fun hq => ?_) (fun hq => ?_) | refine q_split (fun hq => ?_) (fun hq => ?_)) <;> (try (first | (conv => arg 8; simp only [hq]) | (conv => arg 4; simp only [hq]))))
    | (with_reducible refine fin_0 ?_ (by first | rfl | (conv => lhs; simp only [go_sem])) ?_)
    | exact Sub.refl _
    | omega)
  refine c_doesR [3000001] (he) (callOK_of rfl (Nat.le_of_ble_eq_true rfl) rfl ?_ ?_) ?_ ?_
  · repeat' (first | (conv in hold _ => simp (disch := omega) only [go_sem, Nat.reduceEqDiff, Nat.reduceAdd, Nat.reduceMul, Nat.reduceSub, Nat.reduceLT, Nat.reduceLeDiff, ↓reduceIte, reduceCtorEq, Int.reduceToNat]) | exact True.intro | exact Sub.refl _ | omega)
  · repeat' (first | (conv in hold _ => simp (disch := omega) only [go_sem, Nat.reduceEqDiff, Nat.reduceAdd, Nat.reduceMul, Nat.reduceSub, Nat.reduceLT, Nat.reduceLeDiff, ↓reduceIte, reduceCtorEq, Int.reduceToNat]) | exact True.intro | exact Sub.refl _ | omega)
  · ((conv => rhs; simp (disch := omega) only [go_sem, Nat.reduceEqDiff, Nat.reduceAdd, Nat.reduceMul, Nat.reduceSub, Nat.reduceLT, Nat.reduceLeDiff, ↓reduceIte, reduceCtorEq, Int.reduceToNat]); try rfl)
  repeat' (first
    | with_reducible refine acc_none ?_
    | (conv in hold _ => simp (disch := omega) only [go_sem, Nat.reduceEqDiff, Nat.reduceAdd, Nat.reduceMul, Nat.reduceSub, Nat.reduceLT, Nat.reduceLeDiff, ↓reduceIte, reduceCtorEq, Int.reduceToNat])
    | (with_reducible first | refine dw_seq ?_ | refine dw_block ?_ | refine dw_skip ?_ | refine dw_ret ?_ | refine dw_exit ?_ | refine it_pos rfl ?_ | refine it_neg (by decide) ?_ | refine dw_cond ?_ | refine st_nil0 ?_ | refine st_nil rfl ?_ | refine c_true ?_ | refine c_false ?_ | refine st_one ?_ | refine st_guard ?_ | refine s_call ?_ | refine s_cal ?_ | refine s_inv ?_ | refine s_op ?_ ?_ | refine q_run _ ?_ | refine q_tf ?_ | refine q_ft ?_ | refine q_undef ?_ | exact True.intro)
    | ((with_reducible first | refine dw_reg0 ?_ | refine dw_regB ?_); (conv => arg 3; whnf))
    | ((with_reducible first | refine c_splitP (fun hq he => ?_) (fun hq he => ?_) | refine c_splitE (fun hq he => ?_) (fun hq he => ?_) | refine c_splitN (fun hq he => ?_) (fun hq he => ?_) | refine c_splitQ (fun hq he => ?_) (fun hq he => ?_) | refine q_splitPt (fun hq he => ?_) (fun hq he => ?_) | refine q_splitPf (fun hq he => ?_) (fun hq he => ?_) | refine q_splitEt (fun hq he => ?_) (fun hq he => ?_) | refine q_splitEf (fun hq he => ?_) (fun hq he => ?_) | refine q_splitNt (fun hq he => ?_) (fun hq he => ?_) | refine q_splitNf (fun hq he => ?_) (fun hq he => ?_)) <;> first | (exfalso; clear hq; omega) | ((try (first | (conv => arg 8; simp only [hq]) | (conv => arg 4; simp only [hq]))); clear hq))
    | ((with_reducible first | refine c_split (fun hq => ?_) (fun hq => ?_) | refine q_split (fun hq => ?_) (fun hq => ?_)) <;> (try (first | (conv => arg 8; simp only [hq]) | (conv => arg 4; simp only [hq]))))
    | (with_reducible refine fin_0 ?_ (by first | rfl | (conv => lhs; simp only [go_sem])) ?_)
    | exact Sub.refl _
    | omega)
theorem does_FnExprSize (cs : List Nat) (hc : ∀ b, b ∈ cs → b < 256) : Does Try.prog 3 [] [bytesD cs] (Bo true) [] := by
  obtain ⟨e, hdr⟩ := DrawExprSize_ok cs hc
  have h1 := ExprSize_impl e
  have h2 := ExprSize_spec e
  have h3 := implValidExpr_ok e 6
  by_cases hv : eOk e 6 8
  · rw [sizeV_t hv] at h1 h2
    have hsz := esz_eq e
    have hsm := esz_small e 8 hv (by decide)
    have hcol := ColumnsOf_impl e hv
    have hcl := colsL_size e
    have hlen := eszL_len e.ks
    refine does0 c_laws_FnExprSize mixed (Nat.le_of_ble_eq_true rfl) ?_
    conv => arg 3; whnf
    repeat' (first
      | with_reducible refine acc_none ?_
      | (conv in hold _ => simp (disch := omega) only [go_sem, Nat.reduceEqDiff, Nat.reduceAdd, Nat.reduceMul, Nat.reduceSub, Nat.reduceLT, Nat.reduceLeDiff, ↓reduceIte, reduceCtorEq, Int.reduceToNat, bytesD, beq_self_eq_true, bne_self_eq_false])
      | (with_reducible first | refine dw_seq ?_ | refine dw_block ?_ | refine dw_skip ?_ | refine dw_ret ?_ | refine dw_exit ?_ | refine it_pos rfl ?_ | refine it_neg (by decide) ?_ | refine dw_cond ?_ | refine st_nil0 ?_ | refine st_nil rfl ?_ | refine c_true ?_ | refine c_false ?_ | refine st_one ?_ | refine st_guard ?_ | refine s_call ?_ | refine s_cal ?_ | refine s_inv ?_ | refine s_op ?_ ?_ | refine q_run _ ?_ | refine q_tf ?_ | refine q_ft ?_ | refine q_undef ?_ | exact True.intro)
      | ((with_reducible first | refine dw_reg0 ?_ | refine dw_regB ?_); (conv => arg 3; whnf))
      | ((with_reducible first | refine c_splitP (fun hq he => ?_) (fun hq he => ?_) | refine c_splitE (fun hq he => ?_) (fun hq he => ?_) | refine c_splitN (fun hq he => ?_) (fun hq he => ?_) | refine c_splitQ (fun hq he => ?_) (fun hq he => ?_) | refine q_splitPt (fun hq he => ?_) (fun hq he => ?_) | refine q_splitPf (fun hq he => ?_) (fun hq he => ?_) | refine q_splitEt (fun hq he => ?_) (fun hq he => ?_) | refine q_splitEf (fun hq he => ?_) (fun hq he => ?_) | refine q_splitNt (fun hq he => ?_) (fun hq he => ?_) | refine q_splitNf (fun hq he => ?_) (fun hq he => ?_)) <;> first | (exfalso; clear hq; omega) | ((try (first | (conv => arg 8; simp only [hq]) | (conv => arg 4; simp only [hq]))); clear hq))
      | ((with_reducible first | refine c_split (fun hq => ?_) (fun hq => ?_) | refine q_split (fun hq => ?_) (fun hq => ?_)) <;> (try (first | (conv => arg 8; simp only [hq]) | (conv => arg 4; simp only [hq]))))
      | (with_reducible refine fin_0 ?_ (by first | rfl | (conv => lhs; simp only [go_sem, bytesD, beq_self_eq_true, bne_self_eq_false])) ?_)
      | exact Sub.refl _
      | omega)
    refine c_doesE (hdr) ?_ ?_ ?_
    · ((try (conv => rhs; simp (disch := omega) only [go_sem, Nat.reduceEqDiff, Nat.reduceAdd, Nat.reduceMul, Nat.reduceSub, Nat.reduceLT, Nat.reduceLeDiff, ↓reduceIte, reduceCtorEq, Int.reduceToNat, bytesD, beq_self_eq_true, bne_self_eq_false])); try rfl)
    · first | rfl | (conv => lhs; simp only [go_sem, bytesD, beq_self_eq_true, bne_self_eq_false])
    repeat' (first
      | with_reducible refine acc_none ?_
      | (conv in hold _ => simp (disch := omega) only [go_sem, Nat.reduceEqDiff, Nat.reduceAdd, Nat.reduceMul, Nat.reduceSub, Nat.reduceLT, Nat.reduceLeDiff, ↓reduceIte, reduceCtorEq, Int.reduceToNat, bytesD, beq_self_eq_true, bne_self_eq_false])
      | (with_reducible first | refine dw_seq ?_ | refine dw_block ?_ | refine dw_skip ?_ | refine dw_ret ?_ | refine dw_exit ?_ | refine it_pos rfl ?_ | refine it_neg (by decide) ?_ | refine dw_cond ?_ | refine st_nil0 ?_ | refine st_nil rfl ?_ | refine c_true ?_ | refine c_false ?_ | refine st_one ?_ | refine st_guard ?_ | refine s_call ?_ | refine s_cal ?_ | refine s_inv ?_ | refine s_op ?_ ?_ | refine q_run _ ?_ | refine q_tf ?_ | refine q_ft ?_ | refine q_undef ?_ | exact True.intro)
      | ((with_reducible first | refine dw_reg0 ?_ | refine dw_regB ?_); (conv => arg 3; whnf))
      | ((with_reducible first | refine c_splitP (fun hq he => ?_) (fun hq he => ?_) | refine c_splitE (fun hq he => ?_) (fun hq he => ?_) | refine c_splitN (fun hq he => ?_) (fun hq he => ?_) | refine c_splitQ (fun hq he => ?_) (fun hq he => ?_) | refine q_splitPt (fun hq he => ?_) (fun hq he => ?_) | refine q_splitPf (fun hq he => ?_) (fun hq he => ?_) | refine q_splitEt (fun hq he => ?_) (fun hq he => ?_) | refine q_splitEf (fun hq he => ?_) (fun hq he => ?_) | refine q_splitNt (fun hq he => ?_) (fun hq he => ?_) | refine q_splitNf (fun hq he => ?_) (fun hq he => ?_)) <;> first | (exfalso; clear hq; omega) | ((try (first | (conv => arg 8; simp only [hq]) | (conv => arg 4; simp only [hq]))); clear hq))
      | ((with_reducible first | refine c_split (fun hq => ?_) (fun hq => ?_) | refine q_split (fun hq => ?_) (fun hq => ?_)) <;> (try (first | (conv => arg 8; simp only [hq]) | (conv => arg 4; simp only [hq]))))
      | (with_reducible refine fin_0 ?_ (by first | rfl | (conv => lhs; simp only [go_sem, bytesD, beq_self_eq_true, bne_self_eq_false])) ?_)
      | exact Sub.refl _
      | omega)
    refine c_doesE (h1) ?_ ?_ ?_
    · ((try (conv => rhs; simp (disch := omega) only [go_sem, Nat.reduceEqDiff, Nat.reduceAdd, Nat.reduceMul, Nat.reduceSub, Nat.reduceLT, Nat.reduceLeDiff, ↓reduceIte, reduceCtorEq, Int.reduceToNat, bytesD, beq_self_eq_true, bne_self_eq_false])); try rfl)
    · first | rfl | (conv => lhs; simp only [go_sem, bytesD, beq_self_eq_true, bne_self_eq_false])
    repeat' (first
      | with_reducible refine acc_none ?_
      | (conv in hold _ => simp (disch := omega) only [go_sem, Nat.reduceEqDiff, Nat.reduceAdd, Nat.reduceMul, Nat.reduceSub, Nat.reduceLT, Nat.reduceLeDiff, ↓reduceIte, reduceCtorEq, Int.reduceToNat, bytesD, beq_self_eq_true, bne_self_eq_false])
      | (with_reducible first | refine dw_seq ?_ | refine dw_block ?_ | refine dw_skip ?_ | refine dw_ret ?_ | refine dw_exit ?_ | refine it_pos rfl ?_ | refine it_neg (by decide) ?_ | refine dw_cond ?_ | refine st_nil0 ?_ | refine st_nil rfl ?_ | refine c_true ?_ | refine c_false ?_ | refine st_one ?_ | refine st_guard ?_ | refine s_call ?_ | refine s_cal ?_ | refine s_inv ?_ | refine s_op ?_ ?_ | refine q_run _ ?_ | refine q_tf ?_ | refine q_ft ?_ | refine q_undef ?_ | exact True.intro)
      | ((with_reducible first | refine dw_reg0 ?_ | refine dw_regB ?_); (conv => arg 3; whnf))
      | ((with_reducible first | refine c_splitP (fun hq he => ?_) (fun hq he => ?_) | refine c_splitE (fun hq he => ?_) (fun hq he => ?_) | refine c_splitN (fun hq he => ?_) (fun hq he => ?_) | refine c_splitQ (fun hq he => ?_) (fun hq he => ?_) | refine q_splitPt (fun hq he => ?_) (fun hq he => ?_) | refine q_splitPf (fun hq he => ?_) (fun hq he => ?_) | refine q_splitEt (fun hq he => ?_) (fun hq he => ?_) | refine q_splitEf (fun hq he => ?_) (fun hq he => ?_) | refine q_splitNt (fun hq he => ?_) (fun hq he => ?_) | refine q_splitNf (fun hq he => ?_) (fun hq he => ?_)) <;> first | (exfalso; clear hq; omega) | ((try (first | (conv => arg 8; simp only [hq]) | (conv => arg 4; simp only [hq]))); clear hq))
      | ((with_reducible first | refine c_split (fun hq => ?_) (fun hq => ?_) | refine q_split (fun hq => ?_) (fun hq => ?_)) <;> (try (first | (conv => arg 8; simp only [hq]) | (conv => arg 4; simp only [hq]))))
      | (with_reducible refine fin_0 ?_ (by first | rfl | (conv => lhs; simp only [go_sem, bytesD, beq_self_eq_true, bne_self_eq_false])) ?_)
      | exact Sub.refl _
      | omega)
    refine c_doesE (h2) ?_ ?_ ?_
    · ((try (conv => rhs; simp (disch := omega) only [go_sem, Nat.reduceEqDiff, Nat.reduceAdd, Nat.reduceMul, Nat.reduceSub, Nat.reduceLT, Nat.reduceLeDiff, ↓reduceIte, reduceCtorEq, Int.reduceToNat, bytesD, beq_self_eq_true, bne_self_eq_false])); try rfl)
    · first | rfl | (conv => lhs; simp only [go_sem, bytesD, beq_self_eq_true, bne_self_eq_false])
    repeat' (first
      | with_reducible refine acc_none ?_
      | (conv in hold _ => simp (disch := omega) only [go_sem, Nat.reduceEqDiff, Nat.reduceAdd, Nat.reduceMul, Nat.reduceSub, Nat.reduceLT, Nat.reduceLeDiff, ↓reduceIte, reduceCtorEq, Int.reduceToNat, bytesD, beq_self_eq_true, bne_self_eq_false])
      | (with_reducible first | refine dw_seq ?_ | refine dw_block ?_ | refine dw_skip ?_ | refine dw_ret ?_ | refine dw_exit ?_ | refine it_pos rfl ?_ | refine it_neg (by decide) ?_ | refine dw_cond ?_ | refine st_nil0 ?_ | refine st_nil rfl ?_ | refine c_true ?_ | refine c_false ?_ | refine st_one ?_ | refine st_guard ?_ | refine s_call ?_ | refine s_cal ?_ | refine s_inv ?_ | refine s_op ?_ ?_ | refine q_run _ ?_ | refine q_tf ?_ | refine q_ft ?_ | refine q_undef ?_ | exact True.intro)
      | ((with_reducible first | refine dw_reg0 ?_ | refine dw_regB ?_); (conv => arg 3; whnf))
      | ((with_reducible first | refine c_splitP (fun hq he => ?_) (fun hq he => ?_) | refine c_splitE (fun hq he => ?_) (fun hq he => ?_) | refine c_splitN (fun hq he => ?_) (fun hq he => ?_) | refine c_splitQ (fun hq he => ?_) (fun hq he => ?_) | refine q_splitPt (fun hq he => ?_) (fun hq he => ?_) | refine q_splitPf (fun hq he => ?_) (fun hq he => ?_) | refine q_splitEt (fun hq he => ?_) (fun hq he => ?_) | refine q_splitEf (fun hq he => ?_) (fun hq he => ?_) | refine q_splitNt (fun hq he => ?_) (fun hq he => ?_) | refine q_splitNf (fun hq he => ?_) (fun hq he => ?_)) <;> first | (exfalso; clear hq; omega) | ((try (first | (conv => arg 8; simp only [hq]) | (conv => arg 4; simp only [hq]))); clear hq))
      | ((with_reducible first | refine c_split (fun hq => ?_) (fun hq => ?_) | refine q_split (fun hq => ?_) (fun hq => ?_)) <;> (try (first | (conv => arg 8; simp only [hq]) | (conv => arg 4; simp only [hq]))))
      | (with_reducible refine fin_0 ?_ (by first | rfl | (conv => lhs; simp only [go_sem, bytesD, beq_self_eq_true, bne_self_eq_false])) ?_)
      | exact Sub.refl _
      | omega)
    refine dw_for (c := 1) (l := fun i => [(3, .ref 1000000 0), (4, I (esz e)), (5, I (1 + eszL (e.ks.take i) : Nat)), (6, I i), (1000000, .obj [I e.k, I e.c, Bo e.v.b, I e.v.n, .sl 5 (e.ks.map eD)])]) e.ks.length (fun _ => True) 0 trivial (Wk.list [2000003] rfl rfl ?_) (fun i hi _ => ?_) (Nat.zero_le _)
    · repeat' (first | (conv in hold _ => simp (disch := omega) only [go_sem, Nat.reduceEqDiff, Nat.reduceAdd, Nat.reduceMul, Nat.reduceSub, Nat.reduceLT, Nat.reduceLeDiff, ↓reduceIte, reduceCtorEq, Int.reduceToNat, bytesD, beq_self_eq_true, bne_self_eq_false]) | exact True.intro | exact Sub.refl _ | omega)
      exact ⟨rfl, rfl⟩
    · rcases at_or_end hi with ⟨x, hx, hlt⟩ | rfl
      · have hox : eOk x 6 8 := eOk_mono x 7 8 (by decide) (((eOk_iff e _ 8).1 hv).2.2.1 x (List.mem_of_getElem? hx))
        have h4 := ExprSize_impl x
        rw [sizeV_t hox] at h4
        have hnx := eszL_next hx
        have hle := eszL_le (es := e.ks) (i + 1)
        repeat' (first
          | with_reducible refine acc_none ?_
          | (conv in hold _ => simp (disch := omega) only [go_sem, Nat.reduceEqDiff, Nat.reduceAdd, Nat.reduceMul, Nat.reduceSub, Nat.reduceLT, Nat.reduceLeDiff, ↓reduceIte, reduceCtorEq, Int.reduceToNat, bytesD, beq_self_eq_true, bne_self_eq_false, List.getElem?_map, hx, Option.map_some])
          | (with_reducible first | refine dw_seq ?_ | refine dw_block ?_ | refine dw_skip ?_ | refine dw_ret ?_ | refine dw_exit ?_ | refine it_pos rfl ?_ | refine it_neg (by decide) ?_ | refine dw_cond ?_ | refine st_nil0 ?_ | refine st_nil rfl ?_ | refine c_true ?_ | refine c_false ?_ | refine st_one ?_ | refine st_guard ?_ | refine s_call ?_ | refine s_cal ?_ | refine s_inv ?_ | refine s_op ?_ ?_ | refine q_run _ ?_ | refine q_tf ?_ | refine q_ft ?_ | refine q_undef ?_ | exact True.intro)
          | ((with_reducible first | refine dw_reg0 ?_ | refine dw_regB ?_); (conv => arg 3; whnf))
          | ((with_reducible first | refine c_splitP (fun hq he => ?_) (fun hq he => ?_) | refine c_splitE (fun hq he => ?_) (fun hq he => ?_) | refine c_splitN (fun hq he => ?_) (fun hq he => ?_) | refine c_splitQ (fun hq he => ?_) (fun hq he => ?_) | refine q_splitPt (fun hq he => ?_) (fun hq he => ?_) | refine q_splitPf (fun hq he => ?_) (fun hq he => ?_) | refine q_splitEt (fun hq he => ?_) (fun hq he => ?_) | refine q_splitEf (fun hq he => ?_) (fun hq he => ?_) | refine q_splitNt (fun hq he => ?_) (fun hq he => ?_) | refine q_splitNf (fun hq he => ?_) (fun hq he => ?_)) <;> first | (exfalso; clear hq; omega) | ((try (first | (conv => arg 8; simp only [hq]) | (conv => arg 4; simp only [hq]))); clear hq))
          | ((with_reducible first | refine c_split (fun hq => ?_) (fun hq => ?_) | refine q_split (fun hq => ?_) (fun hq => ?_)) <;> (try (first | (conv => arg 8; simp only [hq]) | (conv => arg 4; simp only [hq]))))
          | (with_reducible refine fin_0 ?_ (by first | rfl | (conv => lhs; simp only [go_sem, bytesD, beq_self_eq_true, bne_self_eq_false, List.getElem?_map, hx, Option.map_some])) ?_)
          | exact Sub.refl _
          | omega)
        refine c_doesE (h4) ?_ ?_ ?_
        · ((try (conv => rhs; simp (disch := omega) only [go_sem, Nat.reduceEqDiff, Nat.reduceAdd, Nat.reduceMul, Nat.reduceSub, Nat.reduceLT, Nat.reduceLeDiff, ↓reduceIte, reduceCtorEq, Int.reduceToNat, bytesD, beq_self_eq_true, bne_self_eq_false])); try rfl)
        · first | rfl | (conv => lhs; simp only [go_sem, bytesD, beq_self_eq_true, bne_self_eq_false])
        repeat' (first
          | with_reducible refine acc_none ?_
          | (conv in hold _ => simp (disch := omega) only [go_sem, Nat.reduceEqDiff, Nat.reduceAdd, Nat.reduceMul, Nat.reduceSub, Nat.reduceLT, Nat.reduceLeDiff, ↓reduceIte, reduceCtorEq, Int.reduceToNat, bytesD, beq_self_eq_true, bne_self_eq_false])
          | (with_reducible first | refine dw_seq ?_ | refine dw_block ?_ | refine dw_skip ?_ | refine dw_ret ?_ | refine dw_exit ?_ | refine it_pos rfl ?_ | refine it_neg (by decide) ?_ | refine dw_cond ?_ | refine st_nil0 ?_ | refine st_nil rfl ?_ | refine c_true ?_ | refine c_false ?_ | refine st_one ?_ | refine st_guard ?_ | refine s_call ?_ | refine s_cal ?_ | refine s_inv ?_ | refine s_op ?_ ?_ | refine q_run _ ?_ | refine q_tf ?_ | refine q_ft ?_ | refine q_undef ?_ | exact True.intro)
          | ((with_reducible first | refine dw_reg0 ?_ | refine dw_regB ?_); (conv => arg 3; whnf))
          | ((with_reducible first | refine c_splitP (fun hq he => ?_) (fun hq he => ?_) | refine c_splitE (fun hq he => ?_) (fun hq he => ?_) | refine c_splitN (fun hq he => ?_) (fun hq he => ?_) | refine c_splitQ (fun hq he => ?_) (fun hq he => ?_) | refine q_splitPt (fun hq he => ?_) (fun hq he => ?_) | refine q_splitPf (fun hq he => ?_) (fun hq he => ?_) | refine q_splitEt (fun hq he => ?_) (fun hq he => ?_) | refine q_splitEf (fun hq he => ?_) (fun hq he => ?_) | refine q_splitNt (fun hq he => ?_) (fun hq he => ?_) | refine q_splitNf (fun hq he => ?_) (fun hq he => ?_)) <;> first | (exfalso; clear hq; omega) | ((try (first | (conv => arg 8; simp only [hq]) | (conv => arg 4; simp only [hq]))); clear hq))
          | ((with_reducible first | refine c_split (fun hq => ?_) (fun hq => ?_) | refine q_split (fun hq => ?_) (fun hq => ?_)) <;> (try (first | (conv => arg 8; simp only [hq]) | (conv => arg 4; simp only [hq]))))
          | (with_reducible refine fin_0 ?_ (by first | rfl | (conv => lhs; simp only [go_sem, bytesD, beq_self_eq_true, bne_self_eq_false])) ?_)
          | exact Sub.refl _
          | omega)
        refine ⟨hlt, trivial, Wk.list [1000000] rfl rfl ?_⟩
        repeat' (first | (conv in hold _ => simp (disch := omega) only [go_sem, Nat.reduceEqDiff, Nat.reduceAdd, Nat.reduceMul, Nat.reduceSub, Nat.reduceLT, Nat.reduceLeDiff, ↓reduceIte, reduceCtorEq, Int.reduceToNat, bytesD, beq_self_eq_true, bne_self_eq_false]) | exact True.intro | exact Sub.refl _ | omega)
        exact congrArg (fun n => D.v (Value.int .i64 n)) (by omega)
      · have htl : e.ks.take e.ks.length = e.ks := List.take_length
        repeat' (first
          | with_reducible refine acc_none ?_
          | (conv in hold _ => simp (disch := omega) only [go_sem, Nat.reduceEqDiff, Nat.reduceAdd, Nat.reduceMul, Nat.reduceSub, Nat.reduceLT, Nat.reduceLeDiff, ↓reduceIte, reduceCtorEq, Int.reduceToNat, bytesD, beq_self_eq_true, bne_self_eq_false, htl])
          | (with_reducible first | refine dw_seq ?_ | refine dw_block ?_ | refine dw_skip ?_ | refine dw_ret ?_ | refine dw_exit ?_ | refine it_pos rfl ?_ | refine it_neg (by decide) ?_ | refine dw_cond ?_ | refine st_nil0 ?_ | refine st_nil rfl ?_ | refine c_true ?_ | refine c_false ?_ | refine st_one ?_ | refine st_guard ?_ | refine s_call ?_ | refine s_cal ?_ | refine s_inv ?_ | refine s_op ?_ ?_ | refine q_run _ ?_ | refine q_tf ?_ | refine q_ft ?_ | refine q_undef ?_ | exact True.intro)
          | ((with_reducible first | refine dw_reg0 ?_ | refine dw_regB ?_); (conv => arg 3; whnf))
          | ((with_reducible first | refine c_splitP (fun hq he => ?_) (fun hq he => ?_) | refine c_splitE (fun hq he => ?_) (fun hq he => ?_) | refine c_splitN (fun hq he => ?_) (fun hq he => ?_) | refine c_splitQ (fun hq he => ?_) (fun hq he => ?_) | refine q_splitPt (fun hq he => ?_) (fun hq he => ?_) | refine q_splitPf (fun hq he => ?_) (fun hq he => ?_) | refine q_splitEt (fun hq he => ?_) (fun hq he => ?_) | refine q_splitEf (fun hq he => ?_) (fun hq he => ?_) | refine q_splitNt (fun hq he => ?_) (fun hq he => ?_) | refine q_splitNf (fun hq he => ?_) (fun hq he => ?_)) <;> first | (exfalso; clear hq; omega) | ((try (first | (conv => arg 8; simp only [hq]) | (conv => arg 4; simp only [hq]))); clear hq))
          | ((with_reducible first | refine c_split (fun hq => ?_) (fun hq => ?_) | refine q_split (fun hq => ?_) (fun hq => ?_)) <;> (try (first | (conv => arg 8; simp only [hq]) | (conv => arg 4; simp only [hq]))))
          | (with_reducible refine fin_0 ?_ (by first | rfl | (conv => lhs; simp only [go_sem, bytesD, beq_self_eq_true, bne_self_eq_false, htl])) ?_)
          | exact Sub.refl _
          | omega)
        refine c_doesE (hcol) ?_ ?_ ?_
        · ((try (conv => rhs; simp (disch := omega) only [go_sem, Nat.reduceEqDiff, Nat.reduceAdd, Nat.reduceMul, Nat.reduceSub, Nat.reduceLT, Nat.reduceLeDiff, ↓reduceIte, reduceCtorEq, Int.reduceToNat, bytesD, beq_self_eq_true, bne_self_eq_false, colsL_pur])); try rfl)
        · first | rfl | (conv => lhs; simp only [go_sem, bytesD, beq_self_eq_true, bne_self_eq_false, colsL_pur])
        repeat' (first
          | with_reducible refine acc_none ?_
          | (conv in hold _ => simp (disch := omega) only [go_sem, Nat.reduceEqDiff, Nat.reduceAdd, Nat.reduceMul, Nat.reduceSub, Nat.reduceLT, Nat.reduceLeDiff, ↓reduceIte, reduceCtorEq, Int.reduceToNat, bytesD, beq_self_eq_true, bne_self_eq_false, colsL_pur])
          | (with_reducible first | refine dw_seq ?_ | refine dw_block ?_ | refine dw_skip ?_ | refine dw_ret ?_ | refine dw_exit ?_ | refine it_pos rfl ?_ | refine it_neg (by decide) ?_ | refine dw_cond ?_ | refine st_nil0 ?_ | refine st_nil rfl ?_ | refine c_true ?_ | refine c_false ?_ | refine st_one ?_ | refine st_guard ?_ | refine s_call ?_ | refine s_cal ?_ | refine s_inv ?_ | refine s_op ?_ ?_ | refine q_run _ ?_ | refine q_tf ?_ | refine q_ft ?_ | refine q_undef ?_ | exact True.intro)
          | ((with_reducible first | refine dw_reg0 ?_ | refine dw_regB ?_); (conv => arg 3; whnf))
          | ((with_reducible first | refine c_splitP (fun hq he => ?_) (fun hq he => ?_) | refine c_splitE (fun hq he => ?_) (fun hq he => ?_) | refine c_splitN (fun hq he => ?_) (fun hq he => ?_) | refine c_splitQ (fun hq he => ?_) (fun hq he => ?_) | refine q_splitPt (fun hq he => ?_) (fun hq he => ?_) | refine q_splitPf (fun hq he => ?_) (fun hq he => ?_) | refine q_splitEt (fun hq he => ?_) (fun hq he => ?_) | refine q_splitEf (fun hq he => ?_) (fun hq he => ?_) | refine q_splitNt (fun hq he => ?_) (fun hq he => ?_) | refine q_splitNf (fun hq he => ?_) (fun hq he => ?_)) <;> first | (exfalso; clear hq; omega) | ((try (first | (conv => arg 8; simp only [hq]) | (conv => arg 4; simp only [hq]))); clear hq))
          | ((with_reducible first | refine c_split (fun hq => ?_) (fun hq => ?_) | refine q_split (fun hq => ?_) (fun hq => ?_)) <;> (try (first | (conv => arg 8; simp only [hq]) | (conv => arg 4; simp only [hq]))))
          | (with_reducible refine fin_0 ?_ (by first | rfl | (conv => lhs; simp only [go_sem, bytesD, beq_self_eq_true, bne_self_eq_false, colsL_pur])) ?_)
          | exact Sub.refl _
          | omega)
        exact Sub.of_eq (by rw [decide_eq_true (by omega)])
  · rw [sizeV_f hv] at h1 h2
    rw [decide_eq_false (fun h => hv h.2)] at h3
    refine does0 c_laws_FnExprSize mixed (Nat.le_of_ble_eq_true rfl) ?_
    conv => arg 3; whnf
    repeat' (first
      | with_reducible refine acc_none ?_
      | (conv in hold _ => simp (disch := omega) only [go_sem, Nat.reduceEqDiff, Nat.reduceAdd, Nat.reduceMul, Nat.reduceSub, Nat.reduceLT, Nat.reduceLeDiff, ↓reduceIte, reduceCtorEq, Int.reduceToNat, bytesD, beq_self_eq_true, bne_self_eq_false])
      | (with_reducible first | refine dw_seq ?_ | refine dw_block ?_ | refine dw_skip ?_ | refine dw_ret ?_ | refine dw_exit ?_ | refine it_pos rfl ?_ | refine it_neg (by decide) ?_ | refine dw_cond ?_ | refine st_nil0 ?_ | refine st_nil rfl ?_ | refine c_true ?_ | refine c_false ?_ | refine st_one ?_ | refine st_guard ?_ | refine s_call ?_ | refine s_cal ?_ | refine s_inv ?_ | refine s_op ?_ ?_ | refine q_run _ ?_ | refine q_tf ?_ | refine q_ft ?_ | refine q_undef ?_ | exact True.intro)
      | ((with_reducible first | refine dw_reg0 ?_ | refine dw_regB ?_); (conv => arg 3; whnf))
      | ((with_reducible first | refine c_splitP (fun hq he => ?_) (fun hq he => ?_) | refine c_splitE (fun hq he => ?_) (fun hq he => ?_) | refine c_splitN (fun hq he => ?_) (fun hq he => ?_) | refine c_splitQ (fun hq he => ?_) (fun hq he => ?_) | refine q_splitPt (fun hq he => ?_) (fun hq he => ?_) | refine q_splitPf (fun hq he => ?_) (fun hq he => ?_) | refine q_splitEt (fun hq he => ?_) (fun hq he => ?_) | refine q_splitEf (fun hq he => ?_) (fun hq he => ?_) | refine q_splitNt (fun hq he => ?_) (fun hq he => ?_) | refine q_splitNf (fun hq he => ?_) (fun hq he => ?_)) <;> first | (exfalso; clear hq; omega) | ((try (first | (conv => arg 8; simp only [hq]) | (conv => arg 4; simp only [hq]))); clear hq))
      | ((with_reducible first | refine c_split (fun hq => ?_) (fun hq => ?_) | refine q_split (fun hq => ?_) (fun hq => ?_)) <;> (try (first | (conv => arg 8; simp only [hq]) | (conv => arg 4; simp only [hq]))))
      | (with_reducible refine fin_0 ?_ (by first | rfl | (conv => lhs; simp only [go_sem, bytesD, beq_self_eq_true, bne_self_eq_false])) ?_)
      | exact Sub.refl _
      | omega)
    refine c_doesE (hdr) ?_ ?_ ?_
    · ((try (conv => rhs; simp (disch := omega) only [go_sem, Nat.reduceEqDiff, Nat.reduceAdd, Nat.reduceMul, Nat.reduceSub, Nat.reduceLT, Nat.reduceLeDiff, ↓reduceIte, reduceCtorEq, Int.reduceToNat, bytesD, beq_self_eq_true, bne_self_eq_false])); try rfl)
    · first | rfl | (conv => lhs; simp only [go_sem, bytesD, beq_self_eq_true, bne_self_eq_false])
    repeat' (first
      | with_reducible refine acc_none ?_
      | (conv in hold _ => simp (disch := omega) only [go_sem, Nat.reduceEqDiff, Nat.reduceAdd, Nat.reduceMul, Nat.reduceSub, Nat.reduceLT, Nat.reduceLeDiff, ↓reduceIte, reduceCtorEq, Int.reduceToNat, bytesD, beq_self_eq_true, bne_self_eq_false])
      | (with_reducible first | refine dw_seq ?_ | refine dw_block ?_ | refine dw_skip ?_ | refine dw_ret ?_ | refine dw_exit ?_ | refine it_pos rfl ?_ | refine it_neg (by decide) ?_ | refine dw_cond ?_ | refine st_nil0 ?_ | refine st_nil rfl ?_ | refine c_true ?_ | refine c_false ?_ | refine st_one ?_ | refine st_guard ?_ | refine s_call ?_ | refine s_cal ?_ | refine s_inv ?_ | refine s_op ?_ ?_ | refine q_run _ ?_ | refine q_tf ?_ | refine q_ft ?_ | refine q_undef ?_ | exact True.intro)
      | ((with_reducible first | refine dw_reg0 ?_ | refine dw_regB ?_); (conv => arg 3; whnf))
      | ((with_reducible first | refine c_splitP (fun hq he => ?_) (fun hq he => ?_) | refine c_splitE (fun hq he => ?_) (fun hq he => ?_) | refine c_splitN (fun hq he => ?_) (fun hq he => ?_) | refine c_splitQ (fun hq he => ?_) (fun hq he => ?_) | refine q_splitPt (fun hq he => ?_) (fun hq he => ?_) | refine q_splitPf (fun hq he => ?_) (fun hq he => ?_) | refine q_splitEt (fun hq he => ?_) (fun hq he => ?_) | refine q_splitEf (fun hq he => ?_) (fun hq he => ?_) | refine q_splitNt (fun hq he => ?_) (fun hq he => ?_) | refine q_splitNf (fun hq he => ?_) (fun hq he => ?_)) <;> first | (exfalso; clear hq; omega) | ((try (first | (conv => arg 8; simp only [hq]) | (conv => arg 4; simp only [hq]))); clear hq))
      | ((with_reducible first | refine c_split (fun hq => ?_) (fun hq => ?_) | refine q_split (fun hq => ?_) (fun hq => ?_)) <;> (try (first | (conv => arg 8; simp only [hq]) | (conv => arg 4; simp only [hq]))))
      | (with_reducible refine fin_0 ?_ (by first | rfl | (conv => lhs; simp only [go_sem, bytesD, beq_self_eq_true, bne_self_eq_false])) ?_)
      | exact Sub.refl _
      | omega)
    refine c_doesE (h1) ?_ ?_ ?_
    · ((try (conv => rhs; simp (disch := omega) only [go_sem, Nat.reduceEqDiff, Nat.reduceAdd, Nat.reduceMul, Nat.reduceSub, Nat.reduceLT, Nat.reduceLeDiff, ↓reduceIte, reduceCtorEq, Int.reduceToNat, bytesD, beq_self_eq_true, bne_self_eq_false])); try rfl)
    · first | rfl | (conv => lhs; simp only [go_sem, bytesD, beq_self_eq_true, bne_self_eq_false])
    repeat' (first
      | with_reducible refine acc_none ?_
      | (conv in hold _ => simp (disch := omega) only [go_sem, Nat.reduceEqDiff, Nat.reduceAdd, Nat.reduceMul, Nat.reduceSub, Nat.reduceLT, Nat.reduceLeDiff, ↓reduceIte, reduceCtorEq, Int.reduceToNat, bytesD, beq_self_eq_true, bne_self_eq_false])
      | (with_reducible first | refine dw_seq ?_ | refine dw_block ?_ | refine dw_skip ?_ | refine dw_ret ?_ | refine dw_exit ?_ | refine it_pos rfl ?_ | refine it_neg (by decide) ?_ | refine dw_cond ?_ | refine st_nil0 ?_ | refine st_nil rfl ?_ | refine c_true ?_ | refine c_false ?_ | refine st_one ?_ | refine st_guard ?_ | refine s_call ?_ | refine s_cal ?_ | refine s_inv ?_ | refine s_op ?_ ?_ | refine q_run _ ?_ | refine q_tf ?_ | refine q_ft ?_ | refine q_undef ?_ | exact True.intro)
      | ((with_reducible first | refine dw_reg0 ?_ | refine dw_regB ?_); (conv => arg 3; whnf))
      | ((with_reducible first | refine c_splitP (fun hq he => ?_) (fun hq he => ?_) | refine c_splitE (fun hq he => ?_) (fun hq he => ?_) | refine c_splitN (fun hq he => ?_) (fun hq he => ?_) | refine c_splitQ (fun hq he => ?_) (fun hq he => ?_) | refine q_splitPt (fun hq he => ?_) (fun hq he => ?_) | refine q_splitPf (fun hq he => ?_) (fun hq he => ?_) | refine q_splitEt (fun hq he => ?_) (fun hq he => ?_) | refine q_splitEf (fun hq he => ?_) (fun hq he => ?_) | refine q_splitNt (fun hq he => ?_) (fun hq he => ?_) | refine q_splitNf (fun hq he => ?_) (fun hq he => ?_)) <;> first | (exfalso; clear hq; omega) | ((try (first | (conv => arg 8; simp only [hq]) | (conv => arg 4; simp only [hq]))); clear hq))
      | ((with_reducible first | refine c_split (fun hq => ?_) (fun hq => ?_) | refine q_split (fun hq => ?_) (fun hq => ?_)) <;> (try (first | (conv => arg 8; simp only [hq]) | (conv => arg 4; simp only [hq]))))
      | (with_reducible refine fin_0 ?_ (by first | rfl | (conv => lhs; simp only [go_sem, bytesD, beq_self_eq_true, bne_self_eq_false])) ?_)
      | exact Sub.refl _
      | omega)
    refine c_doesE (h2) ?_ ?_ ?_
    · ((try (conv => rhs; simp (disch := omega) only [go_sem, Nat.reduceEqDiff, Nat.reduceAdd, Nat.reduceMul, Nat.reduceSub, Nat.reduceLT, Nat.reduceLeDiff, ↓reduceIte, reduceCtorEq, Int.reduceToNat, bytesD, beq_self_eq_true, bne_self_eq_false])); try rfl)
    · first | rfl | (conv => lhs; simp only [go_sem, bytesD, beq_self_eq_true, bne_self_eq_false])
    repeat' (first
      | with_reducible refine acc_none ?_
      | (conv in hold _ => simp (disch := omega) only [go_sem, Nat.reduceEqDiff, Nat.reduceAdd, Nat.reduceMul, Nat.reduceSub, Nat.reduceLT, Nat.reduceLeDiff, ↓reduceIte, reduceCtorEq, Int.reduceToNat, bytesD, beq_self_eq_true, bne_self_eq_false])
      | (with_reducible first | refine dw_seq ?_ | refine dw_block ?_ | refine dw_skip ?_ | refine dw_ret ?_ | refine dw_exit ?_ | refine it_pos rfl ?_ | refine it_neg (by decide) ?_ | refine dw_cond ?_ | refine st_nil0 ?_ | refine st_nil rfl ?_ | refine c_true ?_ | refine c_false ?_ | refine st_one ?_ | refine st_guard ?_ | refine s_call ?_ | refine s_cal ?_ | refine s_inv ?_ | refine s_op ?_ ?_ | refine q_run _ ?_ | refine q_tf ?_ | refine q_ft ?_ | refine q_undef ?_ | exact True.intro)
      | ((with_reducible first | refine dw_reg0 ?_ | refine dw_regB ?_); (conv => arg 3; whnf))
      | ((with_reducible first | refine c_splitP (fun hq he => ?_) (fun hq he => ?_) | refine c_splitE (fun hq he => ?_) (fun hq he => ?_) | refine c_splitN (fun hq he => ?_) (fun hq he => ?_) | refine c_splitQ (fun hq he => ?_) (fun hq he => ?_) | refine q_splitPt (fun hq he => ?_) (fun hq he => ?_) | refine q_splitPf (fun hq he => ?_) (fun hq he => ?_) | refine q_splitEt (fun hq he => ?_) (fun hq he => ?_) | refine q_splitEf (fun hq he => ?_) (fun hq he => ?_) | refine q_splitNt (fun hq he => ?_) (fun hq he => ?_) | refine q_splitNf (fun hq he => ?_) (fun hq he => ?_)) <;> first | (exfalso; clear hq; omega) | ((try (first | (conv => arg 8; simp only [hq]) | (conv => arg 4; simp only [hq]))); clear hq))
      | ((with_reducible first | refine c_split (fun hq => ?_) (fun hq => ?_) | refine q_split (fun hq => ?_) (fun hq => ?_)) <;> (try (first | (conv => arg 8; simp only [hq]) | (conv => arg 4; simp only [hq]))))
      | (with_reducible refine fin_0 ?_ (by first | rfl | (conv => lhs; simp only [go_sem, bytesD, beq_self_eq_true, bne_self_eq_false])) ?_)
      | exact Sub.refl _
      | omega)
    refine c_doesE (h2) ?_ ?_ ?_
    · ((try (conv => rhs; simp (disch := omega) only [go_sem, Nat.reduceEqDiff, Nat.reduceAdd, Nat.reduceMul, Nat.reduceSub, Nat.reduceLT, Nat.reduceLeDiff, ↓reduceIte, reduceCtorEq, Int.reduceToNat, bytesD, beq_self_eq_true, bne_self_eq_false])); try rfl)
    · first | rfl | (conv => lhs; simp only [go_sem, bytesD, beq_self_eq_true, bne_self_eq_false])
    repeat' (first
      | with_reducible refine acc_none ?_
      | (conv in hold _ => simp (disch := omega) only [go_sem, Nat.reduceEqDiff, Nat.reduceAdd, Nat.reduceMul, Nat.reduceSub, Nat.reduceLT, Nat.reduceLeDiff, ↓reduceIte, reduceCtorEq, Int.reduceToNat, bytesD, beq_self_eq_true, bne_self_eq_false])
      | (with_reducible first | refine dw_seq ?_ | refine dw_block ?_ | refine dw_skip ?_ | refine dw_ret ?_ | refine dw_exit ?_ | refine it_pos rfl ?_ | refine it_neg (by decide) ?_ | refine dw_cond ?_ | refine st_nil0 ?_ | refine st_nil rfl ?_ | refine c_true ?_ | refine c_false ?_ | refine st_one ?_ | refine st_guard ?_ | refine s_call ?_ | refine s_cal ?_ | refine s_inv ?_ | refine s_op ?_ ?_ | refine q_run _ ?_ | refine q_tf ?_ | refine q_ft ?_ | refine q_undef ?_ | exact True.intro)
      | ((with_reducible first | refine dw_reg0 ?_ | refine dw_regB ?_); (conv => arg 3; whnf))
      | ((with_reducible first | refine c_splitP (fun hq he => ?_) (fun hq he => ?_) | refine c_splitE (fun hq he => ?_) (fun hq he => ?_) | refine c_splitN (fun hq he => ?_) (fun hq he => ?_) | refine c_splitQ (fun hq he => ?_) (fun hq he => ?_) | refine q_splitPt (fun hq he => ?_) (fun hq he => ?_) | refine q_splitPf (fun hq he => ?_) (fun hq he => ?_) | refine q_splitEt (fun hq he => ?_) (fun hq he => ?_) | refine q_splitEf (fun hq he => ?_) (fun hq he => ?_) | refine q_splitNt (fun hq he => ?_) (fun hq he => ?_) | refine q_splitNf (fun hq he => ?_) (fun hq he => ?_)) <;> first | (exfalso; clear hq; omega) | ((try (first | (conv => arg 8; simp only [hq]) | (conv => arg 4; simp only [hq]))); clear hq))
      | ((with_reducible first | refine c_split (fun hq => ?_) (fun hq => ?_) | refine q_split (fun hq => ?_) (fun hq => ?_)) <;> (try (first | (conv => arg 8; simp only [hq]) | (conv => arg 4; simp only [hq]))))
      | (with_reducible refine fin_0 ?_ (by first | rfl | (conv => lhs; simp only [go_sem, bytesD, beq_self_eq_true, bne_self_eq_false])) ?_)
      | exact Sub.refl _
      | omega)
    refine c_doesE (h3) ?_ ?_ ?_
    · ((try (conv => rhs; simp (disch := omega) only [go_sem, Nat.reduceEqDiff, Nat.reduceAdd, Nat.reduceMul, Nat.reduceSub, Nat.reduceLT, Nat.reduceLeDiff, ↓reduceIte, reduceCtorEq, Int.reduceToNat, bytesD, beq_self_eq_true, bne_self_eq_false])); try rfl)
    · first | rfl | (conv => lhs; simp only [go_sem, bytesD, beq_self_eq_true, bne_self_eq_false])
    repeat' (first
      | with_reducible refine acc_none ?_
      | (conv in hold _ => simp (disch := omega) only [go_sem, Nat.reduceEqDiff, Nat.reduceAdd, Nat.reduceMul, Nat.reduceSub, Nat.reduceLT, Nat.reduceLeDiff, ↓reduceIte, reduceCtorEq, Int.reduceToNat, bytesD, beq_self_eq_true, bne_self_eq_false])
      | (with_reducible first | refine dw_seq ?_ | refine dw_block ?_ | refine dw_skip ?_ | refine dw_ret ?_ | refine dw_exit ?_ | refine it_pos rfl ?_ | refine it_neg (by decide) ?_ | refine dw_cond ?_ | refine st_nil0 ?_ | refine st_nil rfl ?_ | refine c_true ?_ | refine c_false ?_ | refine st_one ?_ | refine st_guard ?_ | refine s_call ?_ | refine s_cal ?_ | refine s_inv ?_ | refine s_op ?_ ?_ | refine q_run _ ?_ | refine q_tf ?_ | refine q_ft ?_ | refine q_undef ?_ | exact True.intro)
      | ((with_reducible first | refine dw_reg0 ?_ | refine dw_regB ?_); (conv => arg 3; whnf))
      | ((with_reducible first | refine c_splitP (fun hq he => ?_) (fun hq he => ?_) | refine c_splitE (fun hq he => ?_) (fun hq he => ?_) | refine c_splitN (fun hq he => ?_) (fun hq he => ?_) | refine c_splitQ (fun hq he => ?_) (fun hq he => ?_) | refine q_splitPt (fun hq he => ?_) (fun hq he => ?_) | refine q_splitPf (fun hq he => ?_) (fun hq he => ?_) | refine q_splitEt (fun hq he => ?_) (fun hq he => ?_) | refine q_splitEf (fun hq he => ?_) (fun hq he => ?_) | refine q_splitNt (fun hq he => ?_) (fun hq he => ?_) | refine q_splitNf (fun hq he => ?_) (fun hq he => ?_)) <;> first | (exfalso; clear hq; omega) | ((try (first | (conv => arg 8; simp only [hq]) | (conv => arg 4; simp only [hq]))); clear hq))
      | ((with_reducible first | refine c_split (fun hq => ?_) (fun hq => ?_) | refine q_split (fun hq => ?_) (fun hq => ?_)) <;> (try (first | (conv => arg 8; simp only [hq]) | (conv => arg 4; simp only [hq]))))
      | (with_reducible refine fin_0 ?_ (by first | rfl | (conv => lhs; simp only [go_sem, bytesD, beq_self_eq_true, bne_self_eq_false])) ?_)
      | exact Sub.refl _
      | omega)
theorem walk_FnExprSize (a : Option Addr) (len cap : Nat) (zs : List Int) (w : World) (h : IsRow .u8 w a len cap zs) :
    Calls Try.prog 3 #[.slice a len cap] w fun e W' => e = .returned (.bool true) ∧ Below w.heap.size w W' := walk_of does_FnExprSize a len cap zs w h
end Go.Proofs.Ytimpofjjndbofaa
