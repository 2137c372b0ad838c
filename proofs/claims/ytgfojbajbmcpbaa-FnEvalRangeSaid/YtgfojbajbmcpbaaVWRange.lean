/-
  The law that the values of expressions are valid. No condition.
-/
import Derived.Test.YtgfojbajbmcpbaaVWLaws
set_option maxHeartbeats 4000000
set_option maxRecDepth 100000
namespace Go.Proofs.Ytgfojbajbmcpbaa
open Go.RowKit

theorem does_FnEvalRange (cs : List Nat) (hc : ∀ b, b ∈ cs → b < 256) : Does Try.prog 3 [] [bytesD cs] (Bo true) [] := by
  obtain ⟨e, row, hdr, hl, _⟩ := DrawEvalExpr_ok cs hc
  by_cases hv : valid e row
  · have h1 := impl_t hv
    have h2 := spec_t hv
    have hlen := hv.1.1
    obtain ⟨v, hv0⟩ : ∃ v, row[0]? = some v := ⟨_, List.getElem?_eq_getElem (by omega)⟩
    have hcol : valid (.mk 1 0 ⟨false, 0⟩ []) row := ⟨hv.1, (eOk_iff _ _ _).2 ⟨rfl, (fun h => by cases h), (fun x hx => by cases hx), (by show (0 : Int) ≤ 0; decide), (by show (0 : Int) ≤ (row.length : Int) - 1; omega), rfl, rfl⟩⟩
    have hevc : ev (.mk 1 0 ⟨false, 0⟩ []) row = v := ev_col rfl hv0
    have h3 : Does Try.prog 14 [] [.agg [I 1, I 0, Bo false, I 0, .nul], rowD row] (.tup [vD v, Bo true]) [] := by
      have := impl_t hcol
      rw [hevc] at this
      refine this.weak ⟨?_, Sub.refl _, trivial⟩ (Sub.refl _)
      rw [eD_eq]
      exact Sub.agg ⟨Sub.refl _, Sub.refl _, Sub.refl _, Sub.refl _, Sub.nul 5, trivial⟩
    have h4 := ValidValue_ok (ev e row)
    rw [decide_eq_true (valid_ok hv)] at h4
    have h5 := implValidExpr_ok e row.length
    rw [decide_eq_true ⟨by omega, hv.2⟩] at h5
    refine does0 c_laws_FnEvalRange mixed (Nat.le_of_ble_eq_true rfl) ?_
    conv => arg 3; whnf
    repeat' (first
      | with_reducible refine acc_none ?_
      | (conv in hold _ => simp (disch := omega) only [go_sem, Nat.reduceEqDiff, Nat.reduceAdd, Nat.reduceMul, Nat.reduceSub, Nat.reduceLT, Nat.reduceLeDiff, ↓reduceIte, reduceCtorEq, Int.reduceToNat, bytesD, beq_self_eq_true, bne_self_eq_false, List.getElem?_map, hv0, Option.map_some])
      | (with_reducible first | refine dw_seq ?_ | refine dw_block ?_ | refine dw_skip ?_ | refine dw_ret ?_ | refine dw_exit ?_ | refine it_pos rfl ?_ | refine it_neg (by decide) ?_ | refine dw_cond ?_ | refine st_nil0 ?_ | refine st_nil rfl ?_ | refine c_true ?_ | refine c_false ?_ | refine st_one ?_ | refine st_guard ?_ | refine s_call ?_ | refine s_cal ?_ | refine s_inv ?_ | refine s_op ?_ ?_ | refine q_run _ ?_ | refine q_tf ?_ | refine q_ft ?_ | refine q_undef ?_ | exact True.intro)
      | ((with_reducible first | refine dw_reg0 ?_ | refine dw_regB ?_); (conv => arg 3; whnf))
      | ((with_reducible first | refine c_splitP (fun hq he => ?_) (fun hq he => ?_) | refine c_splitE (fun hq he => ?_) (fun hq he => ?_) | refine c_splitN (fun hq he => ?_) (fun hq he => ?_) | refine c_splitQ (fun hq he => ?_) (fun hq he => ?_) | refine q_splitPt (fun hq he => ?_) (fun hq he => ?_) | refine q_splitPf (fun hq he => ?_) (fun hq he => ?_) | refine q_splitEt (fun hq he => ?_) (fun hq he => ?_) | refine q_splitEf (fun hq he => ?_) (fun hq he => ?_) | refine q_splitNt (fun hq he => ?_) (fun hq he => ?_) | refine q_splitNf (fun hq he => ?_) (fun hq he => ?_)) <;> first | (exfalso; clear hq; omega) | ((try (first | (conv => arg 8; simp only [hq]) | (conv => arg 4; simp only [hq]))); clear hq))
      | ((with_reducible first | refine c_split (fun hq => ?_) (fun hq => ?_) | refine q_split (fun hq => ?_) (fun hq => ?_)) <;> (try (first | (conv => arg 8; simp only [hq]) | (conv => arg 4; simp only [hq]))))
      | (with_reducible refine fin_0 ?_ (by first | rfl | (conv => lhs; simp only [go_sem, bytesD, beq_self_eq_true, bne_self_eq_false, List.getElem?_map, hv0, Option.map_some])) ?_)
      | exact Sub.refl _
      | omega)
    refine c_doesE (hdr) ?_ ?_ ?_
    · ((try (conv => rhs; simp (disch := omega) only [go_sem, Nat.reduceEqDiff, Nat.reduceAdd, Nat.reduceMul, Nat.reduceSub, Nat.reduceLT, Nat.reduceLeDiff, ↓reduceIte, reduceCtorEq, Int.reduceToNat, bytesD, beq_self_eq_true, bne_self_eq_false, List.getElem?_map, hv0, Option.map_some])); try rfl)
    · first | rfl | (conv => lhs; simp only [go_sem, bytesD, beq_self_eq_true, bne_self_eq_false, List.getElem?_map, hv0, Option.map_some])
    repeat' (first
      | with_reducible refine acc_none ?_
      | (conv in hold _ => simp (disch := omega) only [go_sem, Nat.reduceEqDiff, Nat.reduceAdd, Nat.reduceMul, Nat.reduceSub, Nat.reduceLT, Nat.reduceLeDiff, ↓reduceIte, reduceCtorEq, Int.reduceToNat, bytesD, beq_self_eq_true, bne_self_eq_false, List.getElem?_map, hv0, Option.map_some])
      | (with_reducible first | refine dw_seq ?_ | refine dw_block ?_ | refine dw_skip ?_ | refine dw_ret ?_ | refine dw_exit ?_ | refine it_pos rfl ?_ | refine it_neg (by decide) ?_ | refine dw_cond ?_ | refine st_nil0 ?_ | refine st_nil rfl ?_ | refine c_true ?_ | refine c_false ?_ | refine st_one ?_ | refine st_guard ?_ | refine s_call ?_ | refine s_cal ?_ | refine s_inv ?_ | refine s_op ?_ ?_ | refine q_run _ ?_ | refine q_tf ?_ | refine q_ft ?_ | refine q_undef ?_ | exact True.intro)
      | ((with_reducible first | refine dw_reg0 ?_ | refine dw_regB ?_); (conv => arg 3; whnf))
      | ((with_reducible first | refine c_splitP (fun hq he => ?_) (fun hq he => ?_) | refine c_splitE (fun hq he => ?_) (fun hq he => ?_) | refine c_splitN (fun hq he => ?_) (fun hq he => ?_) | refine c_splitQ (fun hq he => ?_) (fun hq he => ?_) | refine q_splitPt (fun hq he => ?_) (fun hq he => ?_) | refine q_splitPf (fun hq he => ?_) (fun hq he => ?_) | refine q_splitEt (fun hq he => ?_) (fun hq he => ?_) | refine q_splitEf (fun hq he => ?_) (fun hq he => ?_) | refine q_splitNt (fun hq he => ?_) (fun hq he => ?_) | refine q_splitNf (fun hq he => ?_) (fun hq he => ?_)) <;> first | (exfalso; clear hq; omega) | ((try (first | (conv => arg 8; simp only [hq]) | (conv => arg 4; simp only [hq]))); clear hq))
      | ((with_reducible first | refine c_split (fun hq => ?_) (fun hq => ?_) | refine q_split (fun hq => ?_) (fun hq => ?_)) <;> (try (first | (conv => arg 8; simp only [hq]) | (conv => arg 4; simp only [hq]))))
      | (with_reducible refine fin_0 ?_ (by first | rfl | (conv => lhs; simp only [go_sem, bytesD, beq_self_eq_true, bne_self_eq_false, List.getElem?_map, hv0, Option.map_some])) ?_)
      | exact Sub.refl _
      | omega)
    refine c_doesE (h1) ?_ ?_ ?_
    · ((try (conv => rhs; simp (disch := omega) only [go_sem, Nat.reduceEqDiff, Nat.reduceAdd, Nat.reduceMul, Nat.reduceSub, Nat.reduceLT, Nat.reduceLeDiff, ↓reduceIte, reduceCtorEq, Int.reduceToNat, bytesD, beq_self_eq_true, bne_self_eq_false, List.getElem?_map, hv0, Option.map_some])); try rfl)
    · first | rfl | (conv => lhs; simp only [go_sem, bytesD, beq_self_eq_true, bne_self_eq_false, List.getElem?_map, hv0, Option.map_some])
    repeat' (first
      | with_reducible refine acc_none ?_
      | (conv in hold _ => simp (disch := omega) only [go_sem, Nat.reduceEqDiff, Nat.reduceAdd, Nat.reduceMul, Nat.reduceSub, Nat.reduceLT, Nat.reduceLeDiff, ↓reduceIte, reduceCtorEq, Int.reduceToNat, bytesD, beq_self_eq_true, bne_self_eq_false, List.getElem?_map, hv0, Option.map_some])
      | (with_reducible first | refine dw_seq ?_ | refine dw_block ?_ | refine dw_skip ?_ | refine dw_ret ?_ | refine dw_exit ?_ | refine it_pos rfl ?_ | refine it_neg (by decide) ?_ | refine dw_cond ?_ | refine st_nil0 ?_ | refine st_nil rfl ?_ | refine c_true ?_ | refine c_false ?_ | refine st_one ?_ | refine st_guard ?_ | refine s_call ?_ | refine s_cal ?_ | refine s_inv ?_ | refine s_op ?_ ?_ | refine q_run _ ?_ | refine q_tf ?_ | refine q_ft ?_ | refine q_undef ?_ | exact True.intro)
      | ((with_reducible first | refine dw_reg0 ?_ | refine dw_regB ?_); (conv => arg 3; whnf))
      | ((with_reducible first | refine c_splitP (fun hq he => ?_) (fun hq he => ?_) | refine c_splitE (fun hq he => ?_) (fun hq he => ?_) | refine c_splitN (fun hq he => ?_) (fun hq he => ?_) | refine c_splitQ (fun hq he => ?_) (fun hq he => ?_) | refine q_splitPt (fun hq he => ?_) (fun hq he => ?_) | refine q_splitPf (fun hq he => ?_) (fun hq he => ?_) | refine q_splitEt (fun hq he => ?_) (fun hq he => ?_) | refine q_splitEf (fun hq he => ?_) (fun hq he => ?_) | refine q_splitNt (fun hq he => ?_) (fun hq he => ?_) | refine q_splitNf (fun hq he => ?_) (fun hq he => ?_)) <;> first | (exfalso; clear hq; omega) | ((try (first | (conv => arg 8; simp only [hq]) | (conv => arg 4; simp only [hq]))); clear hq))
      | ((with_reducible first | refine c_split (fun hq => ?_) (fun hq => ?_) | refine q_split (fun hq => ?_) (fun hq => ?_)) <;> (try (first | (conv => arg 8; simp only [hq]) | (conv => arg 4; simp only [hq]))))
      | (with_reducible refine fin_0 ?_ (by first | rfl | (conv => lhs; simp only [go_sem, bytesD, beq_self_eq_true, bne_self_eq_false, List.getElem?_map, hv0, Option.map_some])) ?_)
      | exact Sub.refl _
      | omega)
    refine c_doesE (h2) ?_ ?_ ?_
    · ((try (conv => rhs; simp (disch := omega) only [go_sem, Nat.reduceEqDiff, Nat.reduceAdd, Nat.reduceMul, Nat.reduceSub, Nat.reduceLT, Nat.reduceLeDiff, ↓reduceIte, reduceCtorEq, Int.reduceToNat, bytesD, beq_self_eq_true, bne_self_eq_false, List.getElem?_map, hv0, Option.map_some])); try rfl)
    · first | rfl | (conv => lhs; simp only [go_sem, bytesD, beq_self_eq_true, bne_self_eq_false, List.getElem?_map, hv0, Option.map_some])
    repeat' (first
      | with_reducible refine acc_none ?_
      | (conv in hold _ => simp (disch := omega) only [go_sem, Nat.reduceEqDiff, Nat.reduceAdd, Nat.reduceMul, Nat.reduceSub, Nat.reduceLT, Nat.reduceLeDiff, ↓reduceIte, reduceCtorEq, Int.reduceToNat, bytesD, beq_self_eq_true, bne_self_eq_false, List.getElem?_map, hv0, Option.map_some])
      | (with_reducible first | refine dw_seq ?_ | refine dw_block ?_ | refine dw_skip ?_ | refine dw_ret ?_ | refine dw_exit ?_ | refine it_pos rfl ?_ | refine it_neg (by decide) ?_ | refine dw_cond ?_ | refine st_nil0 ?_ | refine st_nil rfl ?_ | refine c_true ?_ | refine c_false ?_ | refine st_one ?_ | refine st_guard ?_ | refine s_call ?_ | refine s_cal ?_ | refine s_inv ?_ | refine s_op ?_ ?_ | refine q_run _ ?_ | refine q_tf ?_ | refine q_ft ?_ | refine q_undef ?_ | exact True.intro)
      | ((with_reducible first | refine dw_reg0 ?_ | refine dw_regB ?_); (conv => arg 3; whnf))
      | ((with_reducible first | refine c_splitP (fun hq he => ?_) (fun hq he => ?_) | refine c_splitE (fun hq he => ?_) (fun hq he => ?_) | refine c_splitN (fun hq he => ?_) (fun hq he => ?_) | refine c_splitQ (fun hq he => ?_) (fun hq he => ?_) | refine q_splitPt (fun hq he => ?_) (fun hq he => ?_) | refine q_splitPf (fun hq he => ?_) (fun hq he => ?_) | refine q_splitEt (fun hq he => ?_) (fun hq he => ?_) | refine q_splitEf (fun hq he => ?_) (fun hq he => ?_) | refine q_splitNt (fun hq he => ?_) (fun hq he => ?_) | refine q_splitNf (fun hq he => ?_) (fun hq he => ?_)) <;> first | (exfalso; clear hq; omega) | ((try (first | (conv => arg 8; simp only [hq]) | (conv => arg 4; simp only [hq]))); clear hq))
      | ((with_reducible first | refine c_split (fun hq => ?_) (fun hq => ?_) | refine q_split (fun hq => ?_) (fun hq => ?_)) <;> (try (first | (conv => arg 8; simp only [hq]) | (conv => arg 4; simp only [hq]))))
      | (with_reducible refine fin_0 ?_ (by first | rfl | (conv => lhs; simp only [go_sem, bytesD, beq_self_eq_true, bne_self_eq_false, List.getElem?_map, hv0, Option.map_some])) ?_)
      | exact Sub.refl _
      | omega)
    refine c_doesE (h3) ?_ ?_ ?_
    · ((try (conv => rhs; simp (disch := omega) only [go_sem, Nat.reduceEqDiff, Nat.reduceAdd, Nat.reduceMul, Nat.reduceSub, Nat.reduceLT, Nat.reduceLeDiff, ↓reduceIte, reduceCtorEq, Int.reduceToNat, bytesD, beq_self_eq_true, bne_self_eq_false, List.getElem?_map, hv0, Option.map_some])); try rfl)
    · first | rfl | (conv => lhs; simp only [go_sem, bytesD, beq_self_eq_true, bne_self_eq_false, List.getElem?_map, hv0, Option.map_some])
    repeat' (first
      | with_reducible refine acc_none ?_
      | (conv in hold _ => simp (disch := omega) only [go_sem, Nat.reduceEqDiff, Nat.reduceAdd, Nat.reduceMul, Nat.reduceSub, Nat.reduceLT, Nat.reduceLeDiff, ↓reduceIte, reduceCtorEq, Int.reduceToNat, bytesD, beq_self_eq_true, bne_self_eq_false, List.getElem?_map, hv0, Option.map_some])
      | (with_reducible first | refine dw_seq ?_ | refine dw_block ?_ | refine dw_skip ?_ | refine dw_ret ?_ | refine dw_exit ?_ | refine it_pos rfl ?_ | refine it_neg (by decide) ?_ | refine dw_cond ?_ | refine st_nil0 ?_ | refine st_nil rfl ?_ | refine c_true ?_ | refine c_false ?_ | refine st_one ?_ | refine st_guard ?_ | refine s_call ?_ | refine s_cal ?_ | refine s_inv ?_ | refine s_op ?_ ?_ | refine q_run _ ?_ | refine q_tf ?_ | refine q_ft ?_ | refine q_undef ?_ | exact True.intro)
      | ((with_reducible first | refine dw_reg0 ?_ | refine dw_regB ?_); (conv => arg 3; whnf))
      | ((with_reducible first | refine c_splitP (fun hq he => ?_) (fun hq he => ?_) | refine c_splitE (fun hq he => ?_) (fun hq he => ?_) | refine c_splitN (fun hq he => ?_) (fun hq he => ?_) | refine c_splitQ (fun hq he => ?_) (fun hq he => ?_) | refine q_splitPt (fun hq he => ?_) (fun hq he => ?_) | refine q_splitPf (fun hq he => ?_) (fun hq he => ?_) | refine q_splitEt (fun hq he => ?_) (fun hq he => ?_) | refine q_splitEf (fun hq he => ?_) (fun hq he => ?_) | refine q_splitNt (fun hq he => ?_) (fun hq he => ?_) | refine q_splitNf (fun hq he => ?_) (fun hq he => ?_)) <;> first | (exfalso; clear hq; omega) | ((try (first | (conv => arg 8; simp only [hq]) | (conv => arg 4; simp only [hq]))); clear hq))
      | ((with_reducible first | refine c_split (fun hq => ?_) (fun hq => ?_) | refine q_split (fun hq => ?_) (fun hq => ?_)) <;> (try (first | (conv => arg 8; simp only [hq]) | (conv => arg 4; simp only [hq]))))
      | (with_reducible refine fin_0 ?_ (by first | rfl | (conv => lhs; simp only [go_sem, bytesD, beq_self_eq_true, bne_self_eq_false, List.getElem?_map, hv0, Option.map_some])) ?_)
      | exact Sub.refl _
      | omega)
    refine c_doesE (h4) ?_ ?_ ?_
    · ((try (conv => rhs; simp (disch := omega) only [go_sem, Nat.reduceEqDiff, Nat.reduceAdd, Nat.reduceMul, Nat.reduceSub, Nat.reduceLT, Nat.reduceLeDiff, ↓reduceIte, reduceCtorEq, Int.reduceToNat, bytesD, beq_self_eq_true, bne_self_eq_false, List.getElem?_map, hv0, Option.map_some])); try rfl)
    · first | rfl | (conv => lhs; simp only [go_sem, bytesD, beq_self_eq_true, bne_self_eq_false, List.getElem?_map, hv0, Option.map_some])
    repeat' (first
      | with_reducible refine acc_none ?_
      | (conv in hold _ => simp (disch := omega) only [go_sem, Nat.reduceEqDiff, Nat.reduceAdd, Nat.reduceMul, Nat.reduceSub, Nat.reduceLT, Nat.reduceLeDiff, ↓reduceIte, reduceCtorEq, Int.reduceToNat, bytesD, beq_self_eq_true, bne_self_eq_false, List.getElem?_map, hv0, Option.map_some])
      | (with_reducible first | refine dw_seq ?_ | refine dw_block ?_ | refine dw_skip ?_ | refine dw_ret ?_ | refine dw_exit ?_ | refine it_pos rfl ?_ | refine it_neg (by decide) ?_ | refine dw_cond ?_ | refine st_nil0 ?_ | refine st_nil rfl ?_ | refine c_true ?_ | refine c_false ?_ | refine st_one ?_ | refine st_guard ?_ | refine s_call ?_ | refine s_cal ?_ | refine s_inv ?_ | refine s_op ?_ ?_ | refine q_run _ ?_ | refine q_tf ?_ | refine q_ft ?_ | refine q_undef ?_ | exact True.intro)
      | ((with_reducible first | refine dw_reg0 ?_ | refine dw_regB ?_); (conv => arg 3; whnf))
      | ((with_reducible first | refine c_splitP (fun hq he => ?_) (fun hq he => ?_) | refine c_splitE (fun hq he => ?_) (fun hq he => ?_) | refine c_splitN (fun hq he => ?_) (fun hq he => ?_) | refine c_splitQ (fun hq he => ?_) (fun hq he => ?_) | refine q_splitPt (fun hq he => ?_) (fun hq he => ?_) | refine q_splitPf (fun hq he => ?_) (fun hq he => ?_) | refine q_splitEt (fun hq he => ?_) (fun hq he => ?_) | refine q_splitEf (fun hq he => ?_) (fun hq he => ?_) | refine q_splitNt (fun hq he => ?_) (fun hq he => ?_) | refine q_splitNf (fun hq he => ?_) (fun hq he => ?_)) <;> first | (exfalso; clear hq; omega) | ((try (first | (conv => arg 8; simp only [hq]) | (conv => arg 4; simp only [hq]))); clear hq))
      | ((with_reducible first | refine c_split (fun hq => ?_) (fun hq => ?_) | refine q_split (fun hq => ?_) (fun hq => ?_)) <;> (try (first | (conv => arg 8; simp only [hq]) | (conv => arg 4; simp only [hq]))))
      | (with_reducible refine fin_0 ?_ (by first | rfl | (conv => lhs; simp only [go_sem, bytesD, beq_self_eq_true, bne_self_eq_false, List.getElem?_map, hv0, Option.map_some])) ?_)
      | exact Sub.refl _
      | omega)
    refine c_doesE (h5) ?_ ?_ ?_
    · ((try (conv => rhs; simp (disch := omega) only [go_sem, Nat.reduceEqDiff, Nat.reduceAdd, Nat.reduceMul, Nat.reduceSub, Nat.reduceLT, Nat.reduceLeDiff, ↓reduceIte, reduceCtorEq, Int.reduceToNat, bytesD, beq_self_eq_true, bne_self_eq_false, List.getElem?_map, hv0, Option.map_some])); try rfl)
    · first | rfl | (conv => lhs; simp only [go_sem, bytesD, beq_self_eq_true, bne_self_eq_false, List.getElem?_map, hv0, Option.map_some])
    repeat' (first
      | with_reducible refine acc_none ?_
      | (conv in hold _ => simp (disch := omega) only [go_sem, Nat.reduceEqDiff, Nat.reduceAdd, Nat.reduceMul, Nat.reduceSub, Nat.reduceLT, Nat.reduceLeDiff, ↓reduceIte, reduceCtorEq, Int.reduceToNat, bytesD, beq_self_eq_true, bne_self_eq_false, List.getElem?_map, hv0, Option.map_some])
      | (with_reducible first | refine dw_seq ?_ | refine dw_block ?_ | refine dw_skip ?_ | refine dw_ret ?_ | refine dw_exit ?_ | refine it_pos rfl ?_ | refine it_neg (by decide) ?_ | refine dw_cond ?_ | refine st_nil0 ?_ | refine st_nil rfl ?_ | refine c_true ?_ | refine c_false ?_ | refine st_one ?_ | refine st_guard ?_ | refine s_call ?_ | refine s_cal ?_ | refine s_inv ?_ | refine s_op ?_ ?_ | refine q_run _ ?_ | refine q_tf ?_ | refine q_ft ?_ | refine q_undef ?_ | exact True.intro)
      | ((with_reducible first | refine dw_reg0 ?_ | refine dw_regB ?_); (conv => arg 3; whnf))
      | ((with_reducible first | refine c_splitP (fun hq he => ?_) (fun hq he => ?_) | refine c_splitE (fun hq he => ?_) (fun hq he => ?_) | refine c_splitN (fun hq he => ?_) (fun hq he => ?_) | refine c_splitQ (fun hq he => ?_) (fun hq he => ?_) | refine q_splitPt (fun hq he => ?_) (fun hq he => ?_) | refine q_splitPf (fun hq he => ?_) (fun hq he => ?_) | refine q_splitEt (fun hq he => ?_) (fun hq he => ?_) | refine q_splitEf (fun hq he => ?_) (fun hq he => ?_) | refine q_splitNt (fun hq he => ?_) (fun hq he => ?_) | refine q_splitNf (fun hq he => ?_) (fun hq he => ?_)) <;> first | (exfalso; clear hq; omega) | ((try (first | (conv => arg 8; simp only [hq]) | (conv => arg 4; simp only [hq]))); clear hq))
      | ((with_reducible first | refine c_split (fun hq => ?_) (fun hq => ?_) | refine q_split (fun hq => ?_) (fun hq => ?_)) <;> (try (first | (conv => arg 8; simp only [hq]) | (conv => arg 4; simp only [hq]))))
      | (with_reducible refine fin_0 ?_ (by first | rfl | (conv => lhs; simp only [go_sem, bytesD, beq_self_eq_true, bne_self_eq_false, List.getElem?_map, hv0, Option.map_some])) ?_)
      | exact Sub.refl _
      | omega)
  · have h1 := impl_f (by omega) hv
    have h2 := spec_f (by omega) hv
    refine does0 c_laws_FnEvalRange mixed (Nat.le_of_ble_eq_true rfl) ?_
    conv => arg 3; whnf
    repeat' (first
      | with_reducible refine acc_none ?_
      | (conv in hold _ => simp (disch := omega) only [go_sem, Nat.reduceEqDiff, Nat.reduceAdd, Nat.reduceMul, Nat.reduceSub, Nat.reduceLT, Nat.reduceLeDiff, ↓reduceIte, reduceCtorEq, Int.reduceToNat, bytesD, beq_self_eq_true, bne_self_eq_false])
      | (with_reducible first | refine dw_seq ?_ | refine dw_block ?_ | refine dw_skip ?_ | refine dw_ret ?_ | refine dw_exit ?_ | refine it_pos rfl ?_ | refine it_neg (by decide) ?_ | refine dw_cond ?_ | refine st_nil0 ?_ | refine st_nil rfl ?_ | refine c_true ?_ | refine c_false ?_ | refine st_one ?_ | refine st_guard ?_ | refine s_call ?_ | refine s_cal ?_ | refine s_inv ?_ | refine s_op ?_ ?_ | refine q_run _ ?_ | refine q_tf ?_ | refine q_ft ?_ | refine q_undef ?_ | exact True.intro)
      | ((with_reducible first | refine dw_reg0 ?_ | refine dw_regB ?_); (conv => arg 3; whnf))
      | ((with_reducible first | refine c_splitP (fun hq he => ?_) (fun hq he => ?_) | refine c_splitE (fun hq he => ?_) (fun hq he => ?_) | refine c_splitN (fun hq he => ?_) (fun hq he => ?_) | refine c_splitQ (fun hq he => ?_) (fun hq he => ?_) | refine q_splitPt (fun hq he => ?_) (fun hq he => ?_) | refine q_splitPf (fun hq he => ?_) (fun hq he => ?_) | refine q_splitEt (fun hq he => ?_) (fun hq he => ?_) | refine q_splitEf (fun hq he => ?_) (fun hq he => ?_) | refine q_splitNt (fun hq he => ?_) (fun hq he => ?_) | refine q_splitNf (fun hq he => ?_) (fun hq he => ?_)) <;> first | (exfalso; clear hq; omega) | ((try (first | (conv => arg 8; simp only [hq]) | (conv => arg 4; simp only [hq]))); clear hq))
      | ((with_reducible first | refine c_split (fun hq => ?_) (fun hq => ?_) | refine q_split (fun hq => ?_) (fun hq => ?_)) <;> (try (first | (conv => arg 8; simp only [hq]) | (conv => arg 4; simp only [hq]))))
      | (with_reducible refine fin_0 ?_ (by first | rfl | (conv => lhs; simp only [go_sem, bytesD, beq_self_eq_true, bne_self_eq_false])) ?_)
      | exact Sub.refl _
      | omega)
    refine c_doesE (hdr) ?_ ?_ ?_
    · ((try (conv => rhs; simp (disch := omega) only [go_sem, Nat.reduceEqDiff, Nat.reduceAdd, Nat.reduceMul, Nat.reduceSub, Nat.reduceLT, Nat.reduceLeDiff, ↓reduceIte, reduceCtorEq, Int.reduceToNat, bytesD, beq_self_eq_true, bne_self_eq_false])); try rfl)
    · first | rfl | (conv => lhs; simp only [go_sem, bytesD, beq_self_eq_true, bne_self_eq_false])
    repeat' (first
      | with_reducible refine acc_none ?_
      | (conv in hold _ => simp (disch := omega) only [go_sem, Nat.reduceEqDiff, Nat.reduceAdd, Nat.reduceMul, Nat.reduceSub, Nat.reduceLT, Nat.reduceLeDiff, ↓reduceIte, reduceCtorEq, Int.reduceToNat, bytesD, beq_self_eq_true, bne_self_eq_false])
      | (with_reducible first | refine dw_seq ?_ | refine dw_block ?_ | refine dw_skip ?_ | refine dw_ret ?_ | refine dw_exit ?_ | refine it_pos rfl ?_ | refine it_neg (by decide) ?_ | refine dw_cond ?_ | refine st_nil0 ?_ | refine st_nil rfl ?_ | refine c_true ?_ | refine c_false ?_ | refine st_one ?_ | refine st_guard ?_ | refine s_call ?_ | refine s_cal ?_ | refine s_inv ?_ | refine s_op ?_ ?_ | refine q_run _ ?_ | refine q_tf ?_ | refine q_ft ?_ | refine q_undef ?_ | exact True.intro)
      | ((with_reducible first | refine dw_reg0 ?_ | refine dw_regB ?_); (conv => arg 3; whnf))
      | ((with_reducible first | refine c_splitP (fun hq he => ?_) (fun hq he => ?_) | refine c_splitE (fun hq he => ?_) (fun hq he => ?_) | refine c_splitN (fun hq he => ?_) (fun hq he => ?_) | refine c_splitQ (fun hq he => ?_) (fun hq he => ?_) | refine q_splitPt (fun hq he => ?_) (fun hq he => ?_) | refine q_splitPf (fun hq he => ?_) (fun hq he => ?_) | refine q_splitEt (fun hq he => ?_) (fun hq he => ?_) | refine q_splitEf (fun hq he => ?_) (fun hq he => ?_) | refine q_splitNt (fun hq he => ?_) (fun hq he => ?_) | refine q_splitNf (fun hq he => ?_) (fun hq he => ?_)) <;> first | (exfalso; clear hq; omega) | ((try (first | (conv => arg 8; simp only [hq]) | (conv => arg 4; simp only [hq]))); clear hq))
      | ((with_reducible first | refine c_split (fun hq => ?_) (fun hq => ?_) | refine q_split (fun hq => ?_) (fun hq => ?_)) <;> (try (first | (conv => arg 8; simp only [hq]) | (conv => arg 4; simp only [hq]))))
      | (with_reducible refine fin_0 ?_ (by first | rfl | (conv => lhs; simp only [go_sem, bytesD, beq_self_eq_true, bne_self_eq_false])) ?_)
      | exact Sub.refl _
      | omega)
    refine c_doesE (h1) ?_ ?_ ?_
    · ((try (conv => rhs; simp (disch := omega) only [go_sem, Nat.reduceEqDiff, Nat.reduceAdd, Nat.reduceMul, Nat.reduceSub, Nat.reduceLT, Nat.reduceLeDiff, ↓reduceIte, reduceCtorEq, Int.reduceToNat, bytesD, beq_self_eq_true, bne_self_eq_false])); try rfl)
    · first | rfl | (conv => lhs; simp only [go_sem, bytesD, beq_self_eq_true, bne_self_eq_false])
    repeat' (first
      | with_reducible refine acc_none ?_
      | (conv in hold _ => simp (disch := omega) only [go_sem, Nat.reduceEqDiff, Nat.reduceAdd, Nat.reduceMul, Nat.reduceSub, Nat.reduceLT, Nat.reduceLeDiff, ↓reduceIte, reduceCtorEq, Int.reduceToNat, bytesD, beq_self_eq_true, bne_self_eq_false])
      | (with_reducible first | refine dw_seq ?_ | refine dw_block ?_ | refine dw_skip ?_ | refine dw_ret ?_ | refine dw_exit ?_ | refine it_pos rfl ?_ | refine it_neg (by decide) ?_ | refine dw_cond ?_ | refine st_nil0 ?_ | refine st_nil rfl ?_ | refine c_true ?_ | refine c_false ?_ | refine st_one ?_ | refine st_guard ?_ | refine s_call ?_ | refine s_cal ?_ | refine s_inv ?_ | refine s_op ?_ ?_ | refine q_run _ ?_ | refine q_tf ?_ | refine q_ft ?_ | refine q_undef ?_ | exact True.intro)
      | ((with_reducible first | refine dw_reg0 ?_ | refine dw_regB ?_); (conv => arg 3; whnf))
      | ((with_reducible first | refine c_splitP (fun hq he => ?_) (fun hq he => ?_) | refine c_splitE (fun hq he => ?_) (fun hq he => ?_) | refine c_splitN (fun hq he => ?_) (fun hq he => ?_) | refine c_splitQ (fun hq he => ?_) (fun hq he => ?_) | refine q_splitPt (fun hq he => ?_) (fun hq he => ?_) | refine q_splitPf (fun hq he => ?_) (fun hq he => ?_) | refine q_splitEt (fun hq he => ?_) (fun hq he => ?_) | refine q_splitEf (fun hq he => ?_) (fun hq he => ?_) | refine q_splitNt (fun hq he => ?_) (fun hq he => ?_) | refine q_splitNf (fun hq he => ?_) (fun hq he => ?_)) <;> first | (exfalso; clear hq; omega) | ((try (first | (conv => arg 8; simp only [hq]) | (conv => arg 4; simp only [hq]))); clear hq))
      | ((with_reducible first | refine c_split (fun hq => ?_) (fun hq => ?_) | refine q_split (fun hq => ?_) (fun hq => ?_)) <;> (try (first | (conv => arg 8; simp only [hq]) | (conv => arg 4; simp only [hq]))))
      | (with_reducible refine fin_0 ?_ (by first | rfl | (conv => lhs; simp only [go_sem, bytesD, beq_self_eq_true, bne_self_eq_false])) ?_)
      | exact Sub.refl _
      | omega)
    refine c_doesE (h2) ?_ ?_ ?_
    · ((try (conv => rhs; simp (disch := omega) only [go_sem, Nat.reduceEqDiff, Nat.reduceAdd, Nat.reduceMul, Nat.reduceSub, Nat.reduceLT, Nat.reduceLeDiff, ↓reduceIte, reduceCtorEq, Int.reduceToNat, bytesD, beq_self_eq_true, bne_self_eq_false])); try rfl)
    · first | rfl | (conv => lhs; simp only [go_sem, bytesD, beq_self_eq_true, bne_self_eq_false])
    repeat' (first
      | with_reducible refine acc_none ?_
      | (conv in hold _ => simp (disch := omega) only [go_sem, Nat.reduceEqDiff, Nat.reduceAdd, Nat.reduceMul, Nat.reduceSub, Nat.reduceLT, Nat.reduceLeDiff, ↓reduceIte, reduceCtorEq, Int.reduceToNat, bytesD, beq_self_eq_true, bne_self_eq_false])
      | (with_reducible first | refine dw_seq ?_ | refine dw_block ?_ | refine dw_skip ?_ | refine dw_ret ?_ | refine dw_exit ?_ | refine it_pos rfl ?_ | refine it_neg (by decide) ?_ | refine dw_cond ?_ | refine st_nil0 ?_ | refine st_nil rfl ?_ | refine c_true ?_ | refine c_false ?_ | refine st_one ?_ | refine st_guard ?_ | refine s_call ?_ | refine s_cal ?_ | refine s_inv ?_ | refine s_op ?_ ?_ | refine q_run _ ?_ | refine q_tf ?_ | refine q_ft ?_ | refine q_undef ?_ | exact True.intro)
      | ((with_reducible first | refine dw_reg0 ?_ | refine dw_regB ?_); (conv => arg 3; whnf))
      | ((with_reducible first | refine c_splitP (fun hq he => ?_) (fun hq he => ?_) | refine c_splitE (fun hq he => ?_) (fun hq he => ?_) | refine c_splitN (fun hq he => ?_) (fun hq he => ?_) | refine c_splitQ (fun hq he => ?_) (fun hq he => ?_) | refine q_splitPt (fun hq he => ?_) (fun hq he => ?_) | refine q_splitPf (fun hq he => ?_) (fun hq he => ?_) | refine q_splitEt (fun hq he => ?_) (fun hq he => ?_) | refine q_splitEf (fun hq he => ?_) (fun hq he => ?_) | refine q_splitNt (fun hq he => ?_) (fun hq he => ?_) | refine q_splitNf (fun hq he => ?_) (fun hq he => ?_)) <;> first | (exfalso; clear hq; omega) | ((try (first | (conv => arg 8; simp only [hq]) | (conv => arg 4; simp only [hq]))); clear hq))
      | ((with_reducible first | refine c_split (fun hq => ?_) (fun hq => ?_) | refine q_split (fun hq => ?_) (fun hq => ?_)) <;> (try (first | (conv => arg 8; simp only [hq]) | (conv => arg 4; simp only [hq]))))
      | (with_reducible refine fin_0 ?_ (by first | rfl | (conv => lhs; simp only [go_sem, bytesD, beq_self_eq_true, bne_self_eq_false])) ?_)
      | exact Sub.refl _
      | omega)
theorem walk_FnEvalRange (a : Option Addr) (len cap : Nat) (zs : List Int) (w : World) (h : IsRow .u8 w a len cap zs) :
    Calls Try.prog 3 #[.slice a len cap] w fun e W' => e = .returned (.bool true) ∧ Below w.heap.size w W' := walk_of does_FnEvalRange a len cap zs w h
end Go.Proofs.Ytgfojbajbmcpbaa
