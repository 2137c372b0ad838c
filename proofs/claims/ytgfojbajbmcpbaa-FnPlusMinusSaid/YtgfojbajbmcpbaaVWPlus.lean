/-
  The law that a difference undoes a sum. No condition.
-/
import Derived.Test.YtgfojbajbmcpbaaVWLaws
set_option maxHeartbeats 4000000
set_option maxRecDepth 100000
namespace Go.Proofs.Ytgfojbajbmcpbaa
open Go.RowKit

theorem plus_minus {A B : V} (ha : A.ok) (h : (comb 3 A B).b = false) : comb 4 (comb 3 A B) B = A := by
  have hn : ¬ (A.b = true ∨ B.b = true) := fun hn => by rw [combN (by decide) (by decide) hn] at h; cases h
  have hA : A.b = false := by simpa using fun e => hn (.inl e)
  have hB : B.b = false := by simpa using fun e => hn (.inr e)
  have e3 : comb 3 A B = num (A.n + B.n) := combX (by decide) (by decide) hA hB
  rw [e3] at h ⊢
  have hr : -9999 ≤ A.n + B.n ∧ A.n + B.n ≤ 9999 := by
    unfold num at h
    split at h
    · assumption
    · cases h
  have en : num (A.n + B.n) = ⟨false, A.n + B.n⟩ := if_pos hr
  rw [en]
  have e4 : comb 4 ⟨false, A.n + B.n⟩ B = num (A.n + B.n - B.n) := combX (by decide) (by decide) rfl hB
  rw [e4, Int.add_sub_cancel, show num A.n = ⟨false, A.n⟩ from if_pos ⟨ha.lo, ha.hi⟩, ← hA]
theorem does_FnPlusMinus (cs : List Nat) (hc : ∀ b, b ∈ cs → b < 256) : Does Try.prog 9 [] [bytesD cs] (Bo true) [] := by
  obtain ⟨e, row, hdr, hl, _⟩ := DrawEvalExpr_ok cs hc
  by_cases hv : valid e row
  · have h1 := impl_t hv
    have h2 := spec_t hv
    by_cases hk : e.k = 3 ∧ (ev e row).b = false
    · obtain ⟨a, b, hks, hev, hva, hvb⟩ := valid_two hv (by omega)
      have h3 := impl_t hva
      have h4 := two_expr 4 e b
      obtain ⟨k, c, u, ks⟩ := e
      obtain rfl : k = 3 := hk.1
      obtain rfl : ks = [a, b] := hks
      have hnn := hk.2
      by_cases hx : valid (.mk 4 0 ⟨false, 0⟩ [.mk 3 c u [a, b], b]) row
      · have h5 := impl_t hx
        have hev2 : ev (.mk 4 0 ⟨false, 0⟩ [.mk 3 c u [a, b], b]) row = ev a row := by
          rw [ev_two (e := .mk 4 0 ⟨false, 0⟩ [.mk 3 c u [a, b], b]) (by rw [E.k_mk]; decide) (by rw [E.k_mk]; decide) (by rw [E.k_mk]; decide) (by rw [E.k_mk]; decide) rfl]
          show comb 4 (ev (.mk 3 c u [a, b]) row) (ev b row) = _
          rw [hev, E.k_mk] at hnn ⊢
          exact plus_minus (valid_ok hva) hnn
        rw [hev2] at h5
        refine does0 c_laws_FnPlusMinus mixed (Nat.le_of_ble_eq_true rfl) ?_
        conv => arg 3; whnf
        repeat' (first
          | with_reducible refine acc_none ?_
          | (conv in hold _ => simp (disch := omega) only [go_sem, Nat.reduceEqDiff, Nat.reduceAdd, Nat.reduceMul, Nat.reduceSub, Nat.reduceLT, Nat.reduceLeDiff, ↓reduceIte, reduceCtorEq, Int.reduceToNat, bytesD, beq_self_eq_true, bne_self_eq_false, hnn])
          | (with_reducible first | refine dw_seq ?_ | refine dw_block ?_ | refine dw_skip ?_ | refine dw_ret ?_ | refine dw_exit ?_ | refine it_pos rfl ?_ | refine it_neg (by decide) ?_ | refine dw_cond ?_ | refine st_nil0 ?_ | refine st_nil rfl ?_ | refine c_true ?_ | refine c_false ?_ | refine st_one ?_ | refine st_guard ?_ | refine s_call ?_ | refine s_cal ?_ | refine s_inv ?_ | refine s_op ?_ ?_ | refine q_run _ ?_ | refine q_tf ?_ | refine q_ft ?_ | refine q_undef ?_ | exact True.intro)
          | ((with_reducible first | refine dw_reg0 ?_ | refine dw_regB ?_); (conv => arg 3; whnf))
          | ((with_reducible first | refine c_splitP (fun hq he => ?_) (fun hq he => ?_) | refine c_splitE (fun hq he => ?_) (fun hq he => ?_) | refine c_splitN (fun hq he => ?_) (fun hq he => ?_) | refine c_splitQ (fun hq he => ?_) (fun hq he => ?_) | refine q_splitPt (fun hq he => ?_) (fun hq he => ?_) | refine q_splitPf (fun hq he => ?_) (fun hq he => ?_) | refine q_splitEt (fun hq he => ?_) (fun hq he => ?_) | refine q_splitEf (fun hq he => ?_) (fun hq he => ?_) | refine q_splitNt (fun hq he => ?_) (fun hq he => ?_) | refine q_splitNf (fun hq he => ?_) (fun hq he => ?_)) <;> first | (exfalso; clear hq; omega) | ((try (first | (conv => arg 8; simp only [hq]) | (conv => arg 4; simp only [hq]))); clear hq))
          | ((with_reducible first | refine c_split (fun hq => ?_) (fun hq => ?_) | refine q_split (fun hq => ?_) (fun hq => ?_)) <;> (try (first | (conv => arg 8; simp only [hq]) | (conv => arg 4; simp only [hq]))))
          | (with_reducible refine fin_0 ?_ (by first | rfl | (conv => lhs; simp only [go_sem, bytesD, beq_self_eq_true, bne_self_eq_false, hnn])) ?_)
          | exact Sub.refl _
          | omega)
        refine c_doesE (hdr) ?_ ?_ ?_
        · ((try (conv => rhs; simp (disch := omega) only [go_sem, Nat.reduceEqDiff, Nat.reduceAdd, Nat.reduceMul, Nat.reduceSub, Nat.reduceLT, Nat.reduceLeDiff, ↓reduceIte, reduceCtorEq, Int.reduceToNat, bytesD, beq_self_eq_true, bne_self_eq_false, hnn])); try rfl)
        · first | rfl | (conv => lhs; simp only [go_sem, bytesD, beq_self_eq_true, bne_self_eq_false, hnn])
        repeat' (first
          | with_reducible refine acc_none ?_
          | (conv in hold _ => simp (disch := omega) only [go_sem, Nat.reduceEqDiff, Nat.reduceAdd, Nat.reduceMul, Nat.reduceSub, Nat.reduceLT, Nat.reduceLeDiff, ↓reduceIte, reduceCtorEq, Int.reduceToNat, bytesD, beq_self_eq_true, bne_self_eq_false, hnn])
          | (with_reducible first | refine dw_seq ?_ | refine dw_block ?_ | refine dw_skip ?_ | refine dw_ret ?_ | refine dw_exit ?_ | refine it_pos rfl ?_ | refine it_neg (by decide) ?_ | refine dw_cond ?_ | refine st_nil0 ?_ | refine st_nil rfl ?_ | refine c_true ?_ | refine c_false ?_ | refine st_one ?_ | refine st_guard ?_ | refine s_call ?_ | refine s_cal ?_ | refine s_inv ?_ | refine s_op ?_ ?_ | refine q_run _ ?_ | refine q_tf ?_ | refine q_ft ?_ | refine q_undef ?_ | exact True.intro)
          | ((with_reducible first | refine dw_reg0 ?_ | refine dw_regB ?_); (conv => arg 3; whnf))
          | ((with_reducible first | refine c_splitP (fun hq he => ?_) (fun hq he => ?_) | refine c_splitE (fun hq he => ?_) (fun hq he => ?_) | refine c_splitN (fun hq he => ?_) (fun hq he => ?_) | refine c_splitQ (fun hq he => ?_) (fun hq he => ?_) | refine q_splitPt (fun hq he => ?_) (fun hq he => ?_) | refine q_splitPf (fun hq he => ?_) (fun hq he => ?_) | refine q_splitEt (fun hq he => ?_) (fun hq he => ?_) | refine q_splitEf (fun hq he => ?_) (fun hq he => ?_) | refine q_splitNt (fun hq he => ?_) (fun hq he => ?_) | refine q_splitNf (fun hq he => ?_) (fun hq he => ?_)) <;> first | (exfalso; clear hq; omega) | ((try (first | (conv => arg 8; simp only [hq]) | (conv => arg 4; simp only [hq]))); clear hq))
          | ((with_reducible first | refine c_split (fun hq => ?_) (fun hq => ?_) | refine q_split (fun hq => ?_) (fun hq => ?_)) <;> (try (first | (conv => arg 8; simp only [hq]) | (conv => arg 4; simp only [hq]))))
          | (with_reducible refine fin_0 ?_ (by first | rfl | (conv => lhs; simp only [go_sem, bytesD, beq_self_eq_true, bne_self_eq_false, hnn])) ?_)
          | exact Sub.refl _
          | omega)
        refine c_doesE (h1) ?_ ?_ ?_
        · ((try (conv => rhs; simp (disch := omega) only [go_sem, Nat.reduceEqDiff, Nat.reduceAdd, Nat.reduceMul, Nat.reduceSub, Nat.reduceLT, Nat.reduceLeDiff, ↓reduceIte, reduceCtorEq, Int.reduceToNat, bytesD, beq_self_eq_true, bne_self_eq_false, hnn])); try rfl)
        · first | rfl | (conv => lhs; simp only [go_sem, bytesD, beq_self_eq_true, bne_self_eq_false, hnn])
        repeat' (first
          | with_reducible refine acc_none ?_
          | (conv in hold _ => simp (disch := omega) only [go_sem, Nat.reduceEqDiff, Nat.reduceAdd, Nat.reduceMul, Nat.reduceSub, Nat.reduceLT, Nat.reduceLeDiff, ↓reduceIte, reduceCtorEq, Int.reduceToNat, bytesD, beq_self_eq_true, bne_self_eq_false, hnn])
          | (with_reducible first | refine dw_seq ?_ | refine dw_block ?_ | refine dw_skip ?_ | refine dw_ret ?_ | refine dw_exit ?_ | refine it_pos rfl ?_ | refine it_neg (by decide) ?_ | refine dw_cond ?_ | refine st_nil0 ?_ | refine st_nil rfl ?_ | refine c_true ?_ | refine c_false ?_ | refine st_one ?_ | refine st_guard ?_ | refine s_call ?_ | refine s_cal ?_ | refine s_inv ?_ | refine s_op ?_ ?_ | refine q_run _ ?_ | refine q_tf ?_ | refine q_ft ?_ | refine q_undef ?_ | exact True.intro)
          | ((with_reducible first | refine dw_reg0 ?_ | refine dw_regB ?_); (conv => arg 3; whnf))
          | ((with_reducible first | refine c_splitP (fun hq he => ?_) (fun hq he => ?_) | refine c_splitE (fun hq he => ?_) (fun hq he => ?_) | refine c_splitN (fun hq he => ?_) (fun hq he => ?_) | refine c_splitQ (fun hq he => ?_) (fun hq he => ?_) | refine q_splitPt (fun hq he => ?_) (fun hq he => ?_) | refine q_splitPf (fun hq he => ?_) (fun hq he => ?_) | refine q_splitEt (fun hq he => ?_) (fun hq he => ?_) | refine q_splitEf (fun hq he => ?_) (fun hq he => ?_) | refine q_splitNt (fun hq he => ?_) (fun hq he => ?_) | refine q_splitNf (fun hq he => ?_) (fun hq he => ?_)) <;> first | (exfalso; clear hq; omega) | ((try (first | (conv => arg 8; simp only [hq]) | (conv => arg 4; simp only [hq]))); clear hq))
          | ((with_reducible first | refine c_split (fun hq => ?_) (fun hq => ?_) | refine q_split (fun hq => ?_) (fun hq => ?_)) <;> (try (first | (conv => arg 8; simp only [hq]) | (conv => arg 4; simp only [hq]))))
          | (with_reducible refine fin_0 ?_ (by first | rfl | (conv => lhs; simp only [go_sem, bytesD, beq_self_eq_true, bne_self_eq_false, hnn])) ?_)
          | exact Sub.refl _
          | omega)
        refine c_doesE (h2) ?_ ?_ ?_
        · ((try (conv => rhs; simp (disch := omega) only [go_sem, Nat.reduceEqDiff, Nat.reduceAdd, Nat.reduceMul, Nat.reduceSub, Nat.reduceLT, Nat.reduceLeDiff, ↓reduceIte, reduceCtorEq, Int.reduceToNat, bytesD, beq_self_eq_true, bne_self_eq_false, hnn])); try rfl)
        · first | rfl | (conv => lhs; simp only [go_sem, bytesD, beq_self_eq_true, bne_self_eq_false, hnn])
        repeat' (first
          | with_reducible refine acc_none ?_
          | (conv in hold _ => simp (disch := omega) only [go_sem, Nat.reduceEqDiff, Nat.reduceAdd, Nat.reduceMul, Nat.reduceSub, Nat.reduceLT, Nat.reduceLeDiff, ↓reduceIte, reduceCtorEq, Int.reduceToNat, bytesD, beq_self_eq_true, bne_self_eq_false, hnn])
          | (with_reducible first | refine dw_seq ?_ | refine dw_block ?_ | refine dw_skip ?_ | refine dw_ret ?_ | refine dw_exit ?_ | refine it_pos rfl ?_ | refine it_neg (by decide) ?_ | refine dw_cond ?_ | refine st_nil0 ?_ | refine st_nil rfl ?_ | refine c_true ?_ | refine c_false ?_ | refine st_one ?_ | refine st_guard ?_ | refine s_call ?_ | refine s_cal ?_ | refine s_inv ?_ | refine s_op ?_ ?_ | refine q_run _ ?_ | refine q_tf ?_ | refine q_ft ?_ | refine q_undef ?_ | exact True.intro)
          | ((with_reducible first | refine dw_reg0 ?_ | refine dw_regB ?_); (conv => arg 3; whnf))
          | ((with_reducible first | refine c_splitP (fun hq he => ?_) (fun hq he => ?_) | refine c_splitE (fun hq he => ?_) (fun hq he => ?_) | refine c_splitN (fun hq he => ?_) (fun hq he => ?_) | refine c_splitQ (fun hq he => ?_) (fun hq he => ?_) | refine q_splitPt (fun hq he => ?_) (fun hq he => ?_) | refine q_splitPf (fun hq he => ?_) (fun hq he => ?_) | refine q_splitEt (fun hq he => ?_) (fun hq he => ?_) | refine q_splitEf (fun hq he => ?_) (fun hq he => ?_) | refine q_splitNt (fun hq he => ?_) (fun hq he => ?_) | refine q_splitNf (fun hq he => ?_) (fun hq he => ?_)) <;> first | (exfalso; clear hq; omega) | ((try (first | (conv => arg 8; simp only [hq]) | (conv => arg 4; simp only [hq]))); clear hq))
          | ((with_reducible first | refine c_split (fun hq => ?_) (fun hq => ?_) | refine q_split (fun hq => ?_) (fun hq => ?_)) <;> (try (first | (conv => arg 8; simp only [hq]) | (conv => arg 4; simp only [hq]))))
          | (with_reducible refine fin_0 ?_ (by first | rfl | (conv => lhs; simp only [go_sem, bytesD, beq_self_eq_true, bne_self_eq_false, hnn])) ?_)
          | exact Sub.refl _
          | omega)
        refine c_doesE (h4) ?_ ?_ ?_
        · ((try (conv => rhs; simp (disch := omega) only [go_sem, Nat.reduceEqDiff, Nat.reduceAdd, Nat.reduceMul, Nat.reduceSub, Nat.reduceLT, Nat.reduceLeDiff, ↓reduceIte, reduceCtorEq, Int.reduceToNat, bytesD, beq_self_eq_true, bne_self_eq_false, hnn])); try rfl)
        · first | rfl | (conv => lhs; simp only [go_sem, bytesD, beq_self_eq_true, bne_self_eq_false, hnn])
        repeat' (first
          | with_reducible refine acc_none ?_
          | (conv in hold _ => simp (disch := omega) only [go_sem, Nat.reduceEqDiff, Nat.reduceAdd, Nat.reduceMul, Nat.reduceSub, Nat.reduceLT, Nat.reduceLeDiff, ↓reduceIte, reduceCtorEq, Int.reduceToNat, bytesD, beq_self_eq_true, bne_self_eq_false, hnn])
          | (with_reducible first | refine dw_seq ?_ | refine dw_block ?_ | refine dw_skip ?_ | refine dw_ret ?_ | refine dw_exit ?_ | refine it_pos rfl ?_ | refine it_neg (by decide) ?_ | refine dw_cond ?_ | refine st_nil0 ?_ | refine st_nil rfl ?_ | refine c_true ?_ | refine c_false ?_ | refine st_one ?_ | refine st_guard ?_ | refine s_call ?_ | refine s_cal ?_ | refine s_inv ?_ | refine s_op ?_ ?_ | refine q_run _ ?_ | refine q_tf ?_ | refine q_ft ?_ | refine q_undef ?_ | exact True.intro)
          | ((with_reducible first | refine dw_reg0 ?_ | refine dw_regB ?_); (conv => arg 3; whnf))
          | ((with_reducible first | refine c_splitP (fun hq he => ?_) (fun hq he => ?_) | refine c_splitE (fun hq he => ?_) (fun hq he => ?_) | refine c_splitN (fun hq he => ?_) (fun hq he => ?_) | refine c_splitQ (fun hq he => ?_) (fun hq he => ?_) | refine q_splitPt (fun hq he => ?_) (fun hq he => ?_) | refine q_splitPf (fun hq he => ?_) (fun hq he => ?_) | refine q_splitEt (fun hq he => ?_) (fun hq he => ?_) | refine q_splitEf (fun hq he => ?_) (fun hq he => ?_) | refine q_splitNt (fun hq he => ?_) (fun hq he => ?_) | refine q_splitNf (fun hq he => ?_) (fun hq he => ?_)) <;> first | (exfalso; clear hq; omega) | ((try (first | (conv => arg 8; simp only [hq]) | (conv => arg 4; simp only [hq]))); clear hq))
          | ((with_reducible first | refine c_split (fun hq => ?_) (fun hq => ?_) | refine q_split (fun hq => ?_) (fun hq => ?_)) <;> (try (first | (conv => arg 8; simp only [hq]) | (conv => arg 4; simp only [hq]))))
          | (with_reducible refine fin_0 ?_ (by first | rfl | (conv => lhs; simp only [go_sem, bytesD, beq_self_eq_true, bne_self_eq_false, hnn])) ?_)
          | exact Sub.refl _
          | omega)
        refine c_doesE (h5) ?_ ?_ ?_
        · ((try (conv => rhs; simp (disch := omega) only [go_sem, Nat.reduceEqDiff, Nat.reduceAdd, Nat.reduceMul, Nat.reduceSub, Nat.reduceLT, Nat.reduceLeDiff, ↓reduceIte, reduceCtorEq, Int.reduceToNat, bytesD, beq_self_eq_true, bne_self_eq_false, hnn])); try rfl)
        · first | rfl | (conv => lhs; simp only [go_sem, bytesD, beq_self_eq_true, bne_self_eq_false, hnn])
        repeat' (first
          | with_reducible refine acc_none ?_
          | (conv in hold _ => simp (disch := omega) only [go_sem, Nat.reduceEqDiff, Nat.reduceAdd, Nat.reduceMul, Nat.reduceSub, Nat.reduceLT, Nat.reduceLeDiff, ↓reduceIte, reduceCtorEq, Int.reduceToNat, bytesD, beq_self_eq_true, bne_self_eq_false, hnn])
          | (with_reducible first | refine dw_seq ?_ | refine dw_block ?_ | refine dw_skip ?_ | refine dw_ret ?_ | refine dw_exit ?_ | refine it_pos rfl ?_ | refine it_neg (by decide) ?_ | refine dw_cond ?_ | refine st_nil0 ?_ | refine st_nil rfl ?_ | refine c_true ?_ | refine c_false ?_ | refine st_one ?_ | refine st_guard ?_ | refine s_call ?_ | refine s_cal ?_ | refine s_inv ?_ | refine s_op ?_ ?_ | refine q_run _ ?_ | refine q_tf ?_ | refine q_ft ?_ | refine q_undef ?_ | exact True.intro)
          | ((with_reducible first | refine dw_reg0 ?_ | refine dw_regB ?_); (conv => arg 3; whnf))
          | ((with_reducible first | refine c_splitP (fun hq he => ?_) (fun hq he => ?_) | refine c_splitE (fun hq he => ?_) (fun hq he => ?_) | refine c_splitN (fun hq he => ?_) (fun hq he => ?_) | refine c_splitQ (fun hq he => ?_) (fun hq he => ?_) | refine q_splitPt (fun hq he => ?_) (fun hq he => ?_) | refine q_splitPf (fun hq he => ?_) (fun hq he => ?_) | refine q_splitEt (fun hq he => ?_) (fun hq he => ?_) | refine q_splitEf (fun hq he => ?_) (fun hq he => ?_) | refine q_splitNt (fun hq he => ?_) (fun hq he => ?_) | refine q_splitNf (fun hq he => ?_) (fun hq he => ?_)) <;> first | (exfalso; clear hq; omega) | ((try (first | (conv => arg 8; simp only [hq]) | (conv => arg 4; simp only [hq]))); clear hq))
          | ((with_reducible first | refine c_split (fun hq => ?_) (fun hq => ?_) | refine q_split (fun hq => ?_) (fun hq => ?_)) <;> (try (first | (conv => arg 8; simp only [hq]) | (conv => arg 4; simp only [hq]))))
          | (with_reducible refine fin_0 ?_ (by first | rfl | (conv => lhs; simp only [go_sem, bytesD, beq_self_eq_true, bne_self_eq_false, hnn])) ?_)
          | exact Sub.refl _
          | omega)
        refine c_doesE (h3) ?_ ?_ ?_
        · ((try (conv => rhs; simp (disch := omega) only [go_sem, Nat.reduceEqDiff, Nat.reduceAdd, Nat.reduceMul, Nat.reduceSub, Nat.reduceLT, Nat.reduceLeDiff, ↓reduceIte, reduceCtorEq, Int.reduceToNat, bytesD, beq_self_eq_true, bne_self_eq_false, hnn])); try rfl)
        · first | rfl | (conv => lhs; simp only [go_sem, bytesD, beq_self_eq_true, bne_self_eq_false, hnn])
        repeat' (first
          | with_reducible refine acc_none ?_
          | (conv in hold _ => simp (disch := omega) only [go_sem, Nat.reduceEqDiff, Nat.reduceAdd, Nat.reduceMul, Nat.reduceSub, Nat.reduceLT, Nat.reduceLeDiff, ↓reduceIte, reduceCtorEq, Int.reduceToNat, bytesD, beq_self_eq_true, bne_self_eq_false, hnn])
          | (with_reducible first | refine dw_seq ?_ | refine dw_block ?_ | refine dw_skip ?_ | refine dw_ret ?_ | refine dw_exit ?_ | refine it_pos rfl ?_ | refine it_neg (by decide) ?_ | refine dw_cond ?_ | refine st_nil0 ?_ | refine st_nil rfl ?_ | refine c_true ?_ | refine c_false ?_ | refine st_one ?_ | refine st_guard ?_ | refine s_call ?_ | refine s_cal ?_ | refine s_inv ?_ | refine s_op ?_ ?_ | refine q_run _ ?_ | refine q_tf ?_ | refine q_ft ?_ | refine q_undef ?_ | exact True.intro)
          | ((with_reducible first | refine dw_reg0 ?_ | refine dw_regB ?_); (conv => arg 3; whnf))
          | ((with_reducible first | refine c_splitP (fun hq he => ?_) (fun hq he => ?_) | refine c_splitE (fun hq he => ?_) (fun hq he => ?_) | refine c_splitN (fun hq he => ?_) (fun hq he => ?_) | refine c_splitQ (fun hq he => ?_) (fun hq he => ?_) | refine q_splitPt (fun hq he => ?_) (fun hq he => ?_) | refine q_splitPf (fun hq he => ?_) (fun hq he => ?_) | refine q_splitEt (fun hq he => ?_) (fun hq he => ?_) | refine q_splitEf (fun hq he => ?_) (fun hq he => ?_) | refine q_splitNt (fun hq he => ?_) (fun hq he => ?_) | refine q_splitNf (fun hq he => ?_) (fun hq he => ?_)) <;> first | (exfalso; clear hq; omega) | ((try (first | (conv => arg 8; simp only [hq]) | (conv => arg 4; simp only [hq]))); clear hq))
          | ((with_reducible first | refine c_split (fun hq => ?_) (fun hq => ?_) | refine q_split (fun hq => ?_) (fun hq => ?_)) <;> (try (first | (conv => arg 8; simp only [hq]) | (conv => arg 4; simp only [hq]))))
          | (with_reducible refine fin_0 ?_ (by first | rfl | (conv => lhs; simp only [go_sem, bytesD, beq_self_eq_true, bne_self_eq_false, hnn])) ?_)
          | exact Sub.refl _
          | omega)
      · have h5 := impl_f (by omega) hx
        refine does0 c_laws_FnPlusMinus mixed (Nat.le_of_ble_eq_true rfl) ?_
        conv => arg 3; whnf
        repeat' (first
          | with_reducible refine acc_none ?_
          | (conv in hold _ => simp (disch := omega) only [go_sem, Nat.reduceEqDiff, Nat.reduceAdd, Nat.reduceMul, Nat.reduceSub, Nat.reduceLT, Nat.reduceLeDiff, ↓reduceIte, reduceCtorEq, Int.reduceToNat, bytesD, beq_self_eq_true, bne_self_eq_false, hnn])
          | (with_reducible first | refine dw_seq ?_ | refine dw_block ?_ | refine dw_skip ?_ | refine dw_ret ?_ | refine dw_exit ?_ | refine it_pos rfl ?_ | refine it_neg (by decide) ?_ | refine dw_cond ?_ | refine st_nil0 ?_ | refine st_nil rfl ?_ | refine c_true ?_ | refine c_false ?_ | refine st_one ?_ | refine st_guard ?_ | refine s_call ?_ | refine s_cal ?_ | refine s_inv ?_ | refine s_op ?_ ?_ | refine q_run _ ?_ | refine q_tf ?_ | refine q_ft ?_ | refine q_undef ?_ | exact True.intro)
          | ((with_reducible first | refine dw_reg0 ?_ | refine dw_regB ?_); (conv => arg 3; whnf))
          | ((with_reducible first | refine c_splitP (fun hq he => ?_) (fun hq he => ?_) | refine c_splitE (fun hq he => ?_) (fun hq he => ?_) | refine c_splitN (fun hq he => ?_) (fun hq he => ?_) | refine c_splitQ (fun hq he => ?_) (fun hq he => ?_) | refine q_splitPt (fun hq he => ?_) (fun hq he => ?_) | refine q_splitPf (fun hq he => ?_) (fun hq he => ?_) | refine q_splitEt (fun hq he => ?_) (fun hq he => ?_) | refine q_splitEf (fun hq he => ?_) (fun hq he => ?_) | refine q_splitNt (fun hq he => ?_) (fun hq he => ?_) | refine q_splitNf (fun hq he => ?_) (fun hq he => ?_)) <;> first | (exfalso; clear hq; omega) | ((try (first | (conv => arg 8; simp only [hq]) | (conv => arg 4; simp only [hq]))); clear hq))
          | ((with_reducible first | refine c_split (fun hq => ?_) (fun hq => ?_) | refine q_split (fun hq => ?_) (fun hq => ?_)) <;> (try (first | (conv => arg 8; simp only [hq]) | (conv => arg 4; simp only [hq]))))
          | (with_reducible refine fin_0 ?_ (by first | rfl | (conv => lhs; simp only [go_sem, bytesD, beq_self_eq_true, bne_self_eq_false, hnn])) ?_)
          | exact Sub.refl _
          | omega)
        refine c_doesE (hdr) ?_ ?_ ?_
        · ((try (conv => rhs; simp (disch := omega) only [go_sem, Nat.reduceEqDiff, Nat.reduceAdd, Nat.reduceMul, Nat.reduceSub, Nat.reduceLT, Nat.reduceLeDiff, ↓reduceIte, reduceCtorEq, Int.reduceToNat, bytesD, beq_self_eq_true, bne_self_eq_false, hnn])); try rfl)
        · first | rfl | (conv => lhs; simp only [go_sem, bytesD, beq_self_eq_true, bne_self_eq_false, hnn])
        repeat' (first
          | with_reducible refine acc_none ?_
          | (conv in hold _ => simp (disch := omega) only [go_sem, Nat.reduceEqDiff, Nat.reduceAdd, Nat.reduceMul, Nat.reduceSub, Nat.reduceLT, Nat.reduceLeDiff, ↓reduceIte, reduceCtorEq, Int.reduceToNat, bytesD, beq_self_eq_true, bne_self_eq_false, hnn])
          | (with_reducible first | refine dw_seq ?_ | refine dw_block ?_ | refine dw_skip ?_ | refine dw_ret ?_ | refine dw_exit ?_ | refine it_pos rfl ?_ | refine it_neg (by decide) ?_ | refine dw_cond ?_ | refine st_nil0 ?_ | refine st_nil rfl ?_ | refine c_true ?_ | refine c_false ?_ | refine st_one ?_ | refine st_guard ?_ | refine s_call ?_ | refine s_cal ?_ | refine s_inv ?_ | refine s_op ?_ ?_ | refine q_run _ ?_ | refine q_tf ?_ | refine q_ft ?_ | refine q_undef ?_ | exact True.intro)
          | ((with_reducible first | refine dw_reg0 ?_ | refine dw_regB ?_); (conv => arg 3; whnf))
          | ((with_reducible first | refine c_splitP (fun hq he => ?_) (fun hq he => ?_) | refine c_splitE (fun hq he => ?_) (fun hq he => ?_) | refine c_splitN (fun hq he => ?_) (fun hq he => ?_) | refine c_splitQ (fun hq he => ?_) (fun hq he => ?_) | refine q_splitPt (fun hq he => ?_) (fun hq he => ?_) | refine q_splitPf (fun hq he => ?_) (fun hq he => ?_) | refine q_splitEt (fun hq he => ?_) (fun hq he => ?_) | refine q_splitEf (fun hq he => ?_) (fun hq he => ?_) | refine q_splitNt (fun hq he => ?_) (fun hq he => ?_) | refine q_splitNf (fun hq he => ?_) (fun hq he => ?_)) <;> first | (exfalso; clear hq; omega) | ((try (first | (conv => arg 8; simp only [hq]) | (conv => arg 4; simp only [hq]))); clear hq))
          | ((with_reducible first | refine c_split (fun hq => ?_) (fun hq => ?_) | refine q_split (fun hq => ?_) (fun hq => ?_)) <;> (try (first | (conv => arg 8; simp only [hq]) | (conv => arg 4; simp only [hq]))))
          | (with_reducible refine fin_0 ?_ (by first | rfl | (conv => lhs; simp only [go_sem, bytesD, beq_self_eq_true, bne_self_eq_false, hnn])) ?_)
          | exact Sub.refl _
          | omega)
        refine c_doesE (h1) ?_ ?_ ?_
        · ((try (conv => rhs; simp (disch := omega) only [go_sem, Nat.reduceEqDiff, Nat.reduceAdd, Nat.reduceMul, Nat.reduceSub, Nat.reduceLT, Nat.reduceLeDiff, ↓reduceIte, reduceCtorEq, Int.reduceToNat, bytesD, beq_self_eq_true, bne_self_eq_false, hnn])); try rfl)
        · first | rfl | (conv => lhs; simp only [go_sem, bytesD, beq_self_eq_true, bne_self_eq_false, hnn])
        repeat' (first
          | with_reducible refine acc_none ?_
          | (conv in hold _ => simp (disch := omega) only [go_sem, Nat.reduceEqDiff, Nat.reduceAdd, Nat.reduceMul, Nat.reduceSub, Nat.reduceLT, Nat.reduceLeDiff, ↓reduceIte, reduceCtorEq, Int.reduceToNat, bytesD, beq_self_eq_true, bne_self_eq_false, hnn])
          | (with_reducible first | refine dw_seq ?_ | refine dw_block ?_ | refine dw_skip ?_ | refine dw_ret ?_ | refine dw_exit ?_ | refine it_pos rfl ?_ | refine it_neg (by decide) ?_ | refine dw_cond ?_ | refine st_nil0 ?_ | refine st_nil rfl ?_ | refine c_true ?_ | refine c_false ?_ | refine st_one ?_ | refine st_guard ?_ | refine s_call ?_ | refine s_cal ?_ | refine s_inv ?_ | refine s_op ?_ ?_ | refine q_run _ ?_ | refine q_tf ?_ | refine q_ft ?_ | refine q_undef ?_ | exact True.intro)
          | ((with_reducible first | refine dw_reg0 ?_ | refine dw_regB ?_); (conv => arg 3; whnf))
          | ((with_reducible first | refine c_splitP (fun hq he => ?_) (fun hq he => ?_) | refine c_splitE (fun hq he => ?_) (fun hq he => ?_) | refine c_splitN (fun hq he => ?_) (fun hq he => ?_) | refine c_splitQ (fun hq he => ?_) (fun hq he => ?_) | refine q_splitPt (fun hq he => ?_) (fun hq he => ?_) | refine q_splitPf (fun hq he => ?_) (fun hq he => ?_) | refine q_splitEt (fun hq he => ?_) (fun hq he => ?_) | refine q_splitEf (fun hq he => ?_) (fun hq he => ?_) | refine q_splitNt (fun hq he => ?_) (fun hq he => ?_) | refine q_splitNf (fun hq he => ?_) (fun hq he => ?_)) <;> first | (exfalso; clear hq; omega) | ((try (first | (conv => arg 8; simp only [hq]) | (conv => arg 4; simp only [hq]))); clear hq))
          | ((with_reducible first | refine c_split (fun hq => ?_) (fun hq => ?_) | refine q_split (fun hq => ?_) (fun hq => ?_)) <;> (try (first | (conv => arg 8; simp only [hq]) | (conv => arg 4; simp only [hq]))))
          | (with_reducible refine fin_0 ?_ (by first | rfl | (conv => lhs; simp only [go_sem, bytesD, beq_self_eq_true, bne_self_eq_false, hnn])) ?_)
          | exact Sub.refl _
          | omega)
        refine c_doesE (h2) ?_ ?_ ?_
        · ((try (conv => rhs; simp (disch := omega) only [go_sem, Nat.reduceEqDiff, Nat.reduceAdd, Nat.reduceMul, Nat.reduceSub, Nat.reduceLT, Nat.reduceLeDiff, ↓reduceIte, reduceCtorEq, Int.reduceToNat, bytesD, beq_self_eq_true, bne_self_eq_false, hnn])); try rfl)
        · first | rfl | (conv => lhs; simp only [go_sem, bytesD, beq_self_eq_true, bne_self_eq_false, hnn])
        repeat' (first
          | with_reducible refine acc_none ?_
          | (conv in hold _ => simp (disch := omega) only [go_sem, Nat.reduceEqDiff, Nat.reduceAdd, Nat.reduceMul, Nat.reduceSub, Nat.reduceLT, Nat.reduceLeDiff, ↓reduceIte, reduceCtorEq, Int.reduceToNat, bytesD, beq_self_eq_true, bne_self_eq_false, hnn])
          | (with_reducible first | refine dw_seq ?_ | refine dw_block ?_ | refine dw_skip ?_ | refine dw_ret ?_ | refine dw_exit ?_ | refine it_pos rfl ?_ | refine it_neg (by decide) ?_ | refine dw_cond ?_ | refine st_nil0 ?_ | refine st_nil rfl ?_ | refine c_true ?_ | refine c_false ?_ | refine st_one ?_ | refine st_guard ?_ | refine s_call ?_ | refine s_cal ?_ | refine s_inv ?_ | refine s_op ?_ ?_ | refine q_run _ ?_ | refine q_tf ?_ | refine q_ft ?_ | refine q_undef ?_ | exact True.intro)
          | ((with_reducible first | refine dw_reg0 ?_ | refine dw_regB ?_); (conv => arg 3; whnf))
          | ((with_reducible first | refine c_splitP (fun hq he => ?_) (fun hq he => ?_) | refine c_splitE (fun hq he => ?_) (fun hq he => ?_) | refine c_splitN (fun hq he => ?_) (fun hq he => ?_) | refine c_splitQ (fun hq he => ?_) (fun hq he => ?_) | refine q_splitPt (fun hq he => ?_) (fun hq he => ?_) | refine q_splitPf (fun hq he => ?_) (fun hq he => ?_) | refine q_splitEt (fun hq he => ?_) (fun hq he => ?_) | refine q_splitEf (fun hq he => ?_) (fun hq he => ?_) | refine q_splitNt (fun hq he => ?_) (fun hq he => ?_) | refine q_splitNf (fun hq he => ?_) (fun hq he => ?_)) <;> first | (exfalso; clear hq; omega) | ((try (first | (conv => arg 8; simp only [hq]) | (conv => arg 4; simp only [hq]))); clear hq))
          | ((with_reducible first | refine c_split (fun hq => ?_) (fun hq => ?_) | refine q_split (fun hq => ?_) (fun hq => ?_)) <;> (try (first | (conv => arg 8; simp only [hq]) | (conv => arg 4; simp only [hq]))))
          | (with_reducible refine fin_0 ?_ (by first | rfl | (conv => lhs; simp only [go_sem, bytesD, beq_self_eq_true, bne_self_eq_false, hnn])) ?_)
          | exact Sub.refl _
          | omega)
        refine c_doesE (h4) ?_ ?_ ?_
        · ((try (conv => rhs; simp (disch := omega) only [go_sem, Nat.reduceEqDiff, Nat.reduceAdd, Nat.reduceMul, Nat.reduceSub, Nat.reduceLT, Nat.reduceLeDiff, ↓reduceIte, reduceCtorEq, Int.reduceToNat, bytesD, beq_self_eq_true, bne_self_eq_false, hnn])); try rfl)
        · first | rfl | (conv => lhs; simp only [go_sem, bytesD, beq_self_eq_true, bne_self_eq_false, hnn])
        repeat' (first
          | with_reducible refine acc_none ?_
          | (conv in hold _ => simp (disch := omega) only [go_sem, Nat.reduceEqDiff, Nat.reduceAdd, Nat.reduceMul, Nat.reduceSub, Nat.reduceLT, Nat.reduceLeDiff, ↓reduceIte, reduceCtorEq, Int.reduceToNat, bytesD, beq_self_eq_true, bne_self_eq_false, hnn])
          | (with_reducible first | refine dw_seq ?_ | refine dw_block ?_ | refine dw_skip ?_ | refine dw_ret ?_ | refine dw_exit ?_ | refine it_pos rfl ?_ | refine it_neg (by decide) ?_ | refine dw_cond ?_ | refine st_nil0 ?_ | refine st_nil rfl ?_ | refine c_true ?_ | refine c_false ?_ | refine st_one ?_ | refine st_guard ?_ | refine s_call ?_ | refine s_cal ?_ | refine s_inv ?_ | refine s_op ?_ ?_ | refine q_run _ ?_ | refine q_tf ?_ | refine q_ft ?_ | refine q_undef ?_ | exact True.intro)
          | ((with_reducible first | refine dw_reg0 ?_ | refine dw_regB ?_); (conv => arg 3; whnf))
          | ((with_reducible first | refine c_splitP (fun hq he => ?_) (fun hq he => ?_) | refine c_splitE (fun hq he => ?_) (fun hq he => ?_) | refine c_splitN (fun hq he => ?_) (fun hq he => ?_) | refine c_splitQ (fun hq he => ?_) (fun hq he => ?_) | refine q_splitPt (fun hq he => ?_) (fun hq he => ?_) | refine q_splitPf (fun hq he => ?_) (fun hq he => ?_) | refine q_splitEt (fun hq he => ?_) (fun hq he => ?_) | refine q_splitEf (fun hq he => ?_) (fun hq he => ?_) | refine q_splitNt (fun hq he => ?_) (fun hq he => ?_) | refine q_splitNf (fun hq he => ?_) (fun hq he => ?_)) <;> first | (exfalso; clear hq; omega) | ((try (first | (conv => arg 8; simp only [hq]) | (conv => arg 4; simp only [hq]))); clear hq))
          | ((with_reducible first | refine c_split (fun hq => ?_) (fun hq => ?_) | refine q_split (fun hq => ?_) (fun hq => ?_)) <;> (try (first | (conv => arg 8; simp only [hq]) | (conv => arg 4; simp only [hq]))))
          | (with_reducible refine fin_0 ?_ (by first | rfl | (conv => lhs; simp only [go_sem, bytesD, beq_self_eq_true, bne_self_eq_false, hnn])) ?_)
          | exact Sub.refl _
          | omega)
        refine c_doesE (h5) ?_ ?_ ?_
        · ((try (conv => rhs; simp (disch := omega) only [go_sem, Nat.reduceEqDiff, Nat.reduceAdd, Nat.reduceMul, Nat.reduceSub, Nat.reduceLT, Nat.reduceLeDiff, ↓reduceIte, reduceCtorEq, Int.reduceToNat, bytesD, beq_self_eq_true, bne_self_eq_false, hnn])); try rfl)
        · first | rfl | (conv => lhs; simp only [go_sem, bytesD, beq_self_eq_true, bne_self_eq_false, hnn])
        repeat' (first
          | with_reducible refine acc_none ?_
          | (conv in hold _ => simp (disch := omega) only [go_sem, Nat.reduceEqDiff, Nat.reduceAdd, Nat.reduceMul, Nat.reduceSub, Nat.reduceLT, Nat.reduceLeDiff, ↓reduceIte, reduceCtorEq, Int.reduceToNat, bytesD, beq_self_eq_true, bne_self_eq_false, hnn])
          | (with_reducible first | refine dw_seq ?_ | refine dw_block ?_ | refine dw_skip ?_ | refine dw_ret ?_ | refine dw_exit ?_ | refine it_pos rfl ?_ | refine it_neg (by decide) ?_ | refine dw_cond ?_ | refine st_nil0 ?_ | refine st_nil rfl ?_ | refine c_true ?_ | refine c_false ?_ | refine st_one ?_ | refine st_guard ?_ | refine s_call ?_ | refine s_cal ?_ | refine s_inv ?_ | refine s_op ?_ ?_ | refine q_run _ ?_ | refine q_tf ?_ | refine q_ft ?_ | refine q_undef ?_ | exact True.intro)
          | ((with_reducible first | refine dw_reg0 ?_ | refine dw_regB ?_); (conv => arg 3; whnf))
          | ((with_reducible first | refine c_splitP (fun hq he => ?_) (fun hq he => ?_) | refine c_splitE (fun hq he => ?_) (fun hq he => ?_) | refine c_splitN (fun hq he => ?_) (fun hq he => ?_) | refine c_splitQ (fun hq he => ?_) (fun hq he => ?_) | refine q_splitPt (fun hq he => ?_) (fun hq he => ?_) | refine q_splitPf (fun hq he => ?_) (fun hq he => ?_) | refine q_splitEt (fun hq he => ?_) (fun hq he => ?_) | refine q_splitEf (fun hq he => ?_) (fun hq he => ?_) | refine q_splitNt (fun hq he => ?_) (fun hq he => ?_) | refine q_splitNf (fun hq he => ?_) (fun hq he => ?_)) <;> first | (exfalso; clear hq; omega) | ((try (first | (conv => arg 8; simp only [hq]) | (conv => arg 4; simp only [hq]))); clear hq))
          | ((with_reducible first | refine c_split (fun hq => ?_) (fun hq => ?_) | refine q_split (fun hq => ?_) (fun hq => ?_)) <;> (try (first | (conv => arg 8; simp only [hq]) | (conv => arg 4; simp only [hq]))))
          | (with_reducible refine fin_0 ?_ (by first | rfl | (conv => lhs; simp only [go_sem, bytesD, beq_self_eq_true, bne_self_eq_false, hnn])) ?_)
          | exact Sub.refl _
          | omega)
        refine c_doesE (h3) ?_ ?_ ?_
        · ((try (conv => rhs; simp (disch := omega) only [go_sem, Nat.reduceEqDiff, Nat.reduceAdd, Nat.reduceMul, Nat.reduceSub, Nat.reduceLT, Nat.reduceLeDiff, ↓reduceIte, reduceCtorEq, Int.reduceToNat, bytesD, beq_self_eq_true, bne_self_eq_false, hnn])); try rfl)
        · first | rfl | (conv => lhs; simp only [go_sem, bytesD, beq_self_eq_true, bne_self_eq_false, hnn])
        repeat' (first
          | with_reducible refine acc_none ?_
          | (conv in hold _ => simp (disch := omega) only [go_sem, Nat.reduceEqDiff, Nat.reduceAdd, Nat.reduceMul, Nat.reduceSub, Nat.reduceLT, Nat.reduceLeDiff, ↓reduceIte, reduceCtorEq, Int.reduceToNat, bytesD, beq_self_eq_true, bne_self_eq_false, hnn])
          | (with_reducible first | refine dw_seq ?_ | refine dw_block ?_ | refine dw_skip ?_ | refine dw_ret ?_ | refine dw_exit ?_ | refine it_pos rfl ?_ | refine it_neg (by decide) ?_ | refine dw_cond ?_ | refine st_nil0 ?_ | refine st_nil rfl ?_ | refine c_true ?_ | refine c_false ?_ | refine st_one ?_ | refine st_guard ?_ | refine s_call ?_ | refine s_cal ?_ | refine s_inv ?_ | refine s_op ?_ ?_ | refine q_run _ ?_ | refine q_tf ?_ | refine q_ft ?_ | refine q_undef ?_ | exact True.intro)
          | ((with_reducible first | refine dw_reg0 ?_ | refine dw_regB ?_); (conv => arg 3; whnf))
          | ((with_reducible first | refine c_splitP (fun hq he => ?_) (fun hq he => ?_) | refine c_splitE (fun hq he => ?_) (fun hq he => ?_) | refine c_splitN (fun hq he => ?_) (fun hq he => ?_) | refine c_splitQ (fun hq he => ?_) (fun hq he => ?_) | refine q_splitPt (fun hq he => ?_) (fun hq he => ?_) | refine q_splitPf (fun hq he => ?_) (fun hq he => ?_) | refine q_splitEt (fun hq he => ?_) (fun hq he => ?_) | refine q_splitEf (fun hq he => ?_) (fun hq he => ?_) | refine q_splitNt (fun hq he => ?_) (fun hq he => ?_) | refine q_splitNf (fun hq he => ?_) (fun hq he => ?_)) <;> first | (exfalso; clear hq; omega) | ((try (first | (conv => arg 8; simp only [hq]) | (conv => arg 4; simp only [hq]))); clear hq))
          | ((with_reducible first | refine c_split (fun hq => ?_) (fun hq => ?_) | refine q_split (fun hq => ?_) (fun hq => ?_)) <;> (try (first | (conv => arg 8; simp only [hq]) | (conv => arg 4; simp only [hq]))))
          | (with_reducible refine fin_0 ?_ (by first | rfl | (conv => lhs; simp only [go_sem, bytesD, beq_self_eq_true, bne_self_eq_false, hnn])) ?_)
          | exact Sub.refl _
          | omega)
    · refine does0 c_laws_FnPlusMinus mixed (Nat.le_of_ble_eq_true rfl) ?_
      conv => arg 3; whnf
      repeat' (first
        | with_reducible refine acc_none ?_
        | (conv in hold _ => simp (disch := omega) only [go_sem, Nat.reduceEqDiff, Nat.reduceAdd, Nat.reduceMul, Nat.reduceSub, Nat.reduceLT, Nat.reduceLeDiff, ↓reduceIte, reduceCtorEq, Int.reduceToNat, bytesD, beq_self_eq_true, bne_self_eq_false])
        | (with_reducible first | refine dw_seq ?_ | refine dw_block ?_ | refine dw_skip ?_ | refine dw_ret ?_ | refine dw_exit ?_ | refine it_pos rfl ?_ | refine it_neg (by decide) ?_ | refine dw_cond ?_ | refine st_nil0 ?_ | refine st_nil rfl ?_ | refine c_true ?_ | refine c_false ?_ | refine st_one ?_ | refine st_guard ?_ | refine s_call ?_ | refine s_cal ?_ | refine s_inv ?_ | refine s_op ?_ ?_ | refine q_run _ ?_ | refine q_tf ?_ | refine q_ft ?_ | refine q_undef ?_ | exact True.intro)
        | ((with_reducible first | refine dw_reg0 ?_ | refine dw_regB ?_); (conv => arg 3; whnf))
        | ((with_reducible first | refine c_splitP (fun hq he => ?_) (fun hq he => ?_) | refine c_splitE (fun hq he => ?_) (fun hq he => ?_) | refine c_splitN (fun hq he => ?_) (fun hq he => ?_) | refine c_splitQ (fun hq he => ?_) (fun hq he => ?_) | refine q_splitPt (fun hq he => ?_) (fun hq he => ?_) | refine q_splitPf (fun hq he => ?_) (fun hq he => ?_) | refine q_splitEt (fun hq he => ?_) (fun hq he => ?_) | refine q_splitEf (fun hq he => ?_) (fun hq he => ?_) | refine q_splitNt (fun hq he => ?_) (fun hq he => ?_) | refine q_splitNf (fun hq he => ?_) (fun hq he => ?_)) <;> first | (exfalso; clear hq; omega) | ((try (first | (conv => arg 8; simp only [hq]) | (conv => arg 4; simp only [hq]))); clear hq))
        | ((with_reducible first | refine c_split (fun hq => ?_) (fun hq => ?_) | refine q_split (fun hq => ?_) (fun hq => ?_)) <;> (try (first | (conv => arg 8; simp only [hq]) | (conv => arg 4; simp only [hq]))))
        | (with_reducible refine fin_0 ?_ (by first | rfl | (conv => lhs; simp only [go_sem, bytesD, beq_self_eq_true, bne_self_eq_false])) ?_)
        | exact Sub.refl _
        | omega)
      refine c_doesE (hdr) ?_ ?_ ?_
      · ((try (conv => rhs; simp (disch := omega) only [go_sem, Nat.reduceEqDiff, Nat.reduceAdd, Nat.reduceMul, Nat.reduceSub, Nat.reduceLT, Nat.reduceLeDiff, ↓reduceIte, reduceCtorEq, Int.reduceToNat, bytesD, beq_self_eq_true, bne_self_eq_false])); try rfl)
      · first | rfl | (conv => lhs; simp only [go_sem, bytesD, beq_self_eq_true, bne_self_eq_false])
      repeat' (first
        | with_reducible refine acc_none ?_
        | (conv in hold _ => simp (disch := omega) only [go_sem, Nat.reduceEqDiff, Nat.reduceAdd, Nat.reduceMul, Nat.reduceSub, Nat.reduceLT, Nat.reduceLeDiff, ↓reduceIte, reduceCtorEq, Int.reduceToNat, bytesD, beq_self_eq_true, bne_self_eq_false])
        | (with_reducible first | refine dw_seq ?_ | refine dw_block ?_ | refine dw_skip ?_ | refine dw_ret ?_ | refine dw_exit ?_ | refine it_pos rfl ?_ | refine it_neg (by decide) ?_ | refine dw_cond ?_ | refine st_nil0 ?_ | refine st_nil rfl ?_ | refine c_true ?_ | refine c_false ?_ | refine st_one ?_ | refine st_guard ?_ | refine s_call ?_ | refine s_cal ?_ | refine s_inv ?_ | refine s_op ?_ ?_ | refine q_run _ ?_ | refine q_tf ?_ | refine q_ft ?_ | refine q_undef ?_ | exact True.intro)
        | ((with_reducible first | refine dw_reg0 ?_ | refine dw_regB ?_); (conv => arg 3; whnf))
        | ((with_reducible first | refine c_splitP (fun hq he => ?_) (fun hq he => ?_) | refine c_splitE (fun hq he => ?_) (fun hq he => ?_) | refine c_splitN (fun hq he => ?_) (fun hq he => ?_) | refine c_splitQ (fun hq he => ?_) (fun hq he => ?_) | refine q_splitPt (fun hq he => ?_) (fun hq he => ?_) | refine q_splitPf (fun hq he => ?_) (fun hq he => ?_) | refine q_splitEt (fun hq he => ?_) (fun hq he => ?_) | refine q_splitEf (fun hq he => ?_) (fun hq he => ?_) | refine q_splitNt (fun hq he => ?_) (fun hq he => ?_) | refine q_splitNf (fun hq he => ?_) (fun hq he => ?_)) <;> first | (exfalso; clear hq; omega) | ((try (first | (conv => arg 8; simp only [hq]) | (conv => arg 4; simp only [hq]))); clear hq))
        | ((with_reducible first | refine c_split (fun hq => ?_) (fun hq => ?_) | refine q_split (fun hq => ?_) (fun hq => ?_)) <;> (try (first | (conv => arg 8; simp only [hq]) | (conv => arg 4; simp only [hq]))))
        | (with_reducible refine fin_0 ?_ (by first | rfl | (conv => lhs; simp only [go_sem, bytesD, beq_self_eq_true, bne_self_eq_false])) ?_)
        | exact Sub.refl _
        | omega)
      refine c_doesE (h1) ?_ ?_ ?_
      · ((try (conv => rhs; simp (disch := omega) only [go_sem, Nat.reduceEqDiff, Nat.reduceAdd, Nat.reduceMul, Nat.reduceSub, Nat.reduceLT, Nat.reduceLeDiff, ↓reduceIte, reduceCtorEq, Int.reduceToNat, bytesD, beq_self_eq_true, bne_self_eq_false])); try rfl)
      · first | rfl | (conv => lhs; simp only [go_sem, bytesD, beq_self_eq_true, bne_self_eq_false])
      repeat' (first
        | with_reducible refine acc_none ?_
        | (conv in hold _ => simp (disch := omega) only [go_sem, Nat.reduceEqDiff, Nat.reduceAdd, Nat.reduceMul, Nat.reduceSub, Nat.reduceLT, Nat.reduceLeDiff, ↓reduceIte, reduceCtorEq, Int.reduceToNat, bytesD, beq_self_eq_true, bne_self_eq_false])
        | (with_reducible first | refine dw_seq ?_ | refine dw_block ?_ | refine dw_skip ?_ | refine dw_ret ?_ | refine dw_exit ?_ | refine it_pos rfl ?_ | refine it_neg (by decide) ?_ | refine dw_cond ?_ | refine st_nil0 ?_ | refine st_nil rfl ?_ | refine c_true ?_ | refine c_false ?_ | refine st_one ?_ | refine st_guard ?_ | refine s_call ?_ | refine s_cal ?_ | refine s_inv ?_ | refine s_op ?_ ?_ | refine q_run _ ?_ | refine q_tf ?_ | refine q_ft ?_ | refine q_undef ?_ | exact True.intro)
        | ((with_reducible first | refine dw_reg0 ?_ | refine dw_regB ?_); (conv => arg 3; whnf))
        | ((with_reducible first | refine c_splitP (fun hq he => ?_) (fun hq he => ?_) | refine c_splitE (fun hq he => ?_) (fun hq he => ?_) | refine c_splitN (fun hq he => ?_) (fun hq he => ?_) | refine c_splitQ (fun hq he => ?_) (fun hq he => ?_) | refine q_splitPt (fun hq he => ?_) (fun hq he => ?_) | refine q_splitPf (fun hq he => ?_) (fun hq he => ?_) | refine q_splitEt (fun hq he => ?_) (fun hq he => ?_) | refine q_splitEf (fun hq he => ?_) (fun hq he => ?_) | refine q_splitNt (fun hq he => ?_) (fun hq he => ?_) | refine q_splitNf (fun hq he => ?_) (fun hq he => ?_)) <;> first | (exfalso; clear hq; omega) | ((try (first | (conv => arg 8; simp only [hq]) | (conv => arg 4; simp only [hq]))); clear hq))
        | ((with_reducible first | refine c_split (fun hq => ?_) (fun hq => ?_) | refine q_split (fun hq => ?_) (fun hq => ?_)) <;> (try (first | (conv => arg 8; simp only [hq]) | (conv => arg 4; simp only [hq]))))
        | (with_reducible refine fin_0 ?_ (by first | rfl | (conv => lhs; simp only [go_sem, bytesD, beq_self_eq_true, bne_self_eq_false])) ?_)
        | exact Sub.refl _
        | omega)
      refine c_doesE (h2) ?_ ?_ ?_
      · ((try (conv => rhs; simp (disch := omega) only [go_sem, Nat.reduceEqDiff, Nat.reduceAdd, Nat.reduceMul, Nat.reduceSub, Nat.reduceLT, Nat.reduceLeDiff, ↓reduceIte, reduceCtorEq, Int.reduceToNat, bytesD, beq_self_eq_true, bne_self_eq_false])); try rfl)
      · first | rfl | (conv => lhs; simp only [go_sem, bytesD, beq_self_eq_true, bne_self_eq_false])
      repeat' (first
        | with_reducible refine acc_none ?_
        | (conv in hold _ => simp (disch := omega) only [go_sem, Nat.reduceEqDiff, Nat.reduceAdd, Nat.reduceMul, Nat.reduceSub, Nat.reduceLT, Nat.reduceLeDiff, ↓reduceIte, reduceCtorEq, Int.reduceToNat, bytesD, beq_self_eq_true, bne_self_eq_false])
        | (with_reducible first | refine dw_seq ?_ | refine dw_block ?_ | refine dw_skip ?_ | refine dw_ret ?_ | refine dw_exit ?_ | refine it_pos rfl ?_ | refine it_neg (by decide) ?_ | refine dw_cond ?_ | refine st_nil0 ?_ | refine st_nil rfl ?_ | refine c_true ?_ | refine c_false ?_ | refine st_one ?_ | refine st_guard ?_ | refine s_call ?_ | refine s_cal ?_ | refine s_inv ?_ | refine s_op ?_ ?_ | refine q_run _ ?_ | refine q_tf ?_ | refine q_ft ?_ | refine q_undef ?_ | exact True.intro)
        | ((with_reducible first | refine dw_reg0 ?_ | refine dw_regB ?_); (conv => arg 3; whnf))
        | ((with_reducible first | refine c_splitP (fun hq he => ?_) (fun hq he => ?_) | refine c_splitE (fun hq he => ?_) (fun hq he => ?_) | refine c_splitN (fun hq he => ?_) (fun hq he => ?_) | refine c_splitQ (fun hq he => ?_) (fun hq he => ?_) | refine q_splitPt (fun hq he => ?_) (fun hq he => ?_) | refine q_splitPf (fun hq he => ?_) (fun hq he => ?_) | refine q_splitEt (fun hq he => ?_) (fun hq he => ?_) | refine q_splitEf (fun hq he => ?_) (fun hq he => ?_) | refine q_splitNt (fun hq he => ?_) (fun hq he => ?_) | refine q_splitNf (fun hq he => ?_) (fun hq he => ?_)) <;> first | (exfalso; clear hq; omega) | ((try (first | (conv => arg 8; simp only [hq]) | (conv => arg 4; simp only [hq]))); clear hq))
        | ((with_reducible first | refine c_split (fun hq => ?_) (fun hq => ?_) | refine q_split (fun hq => ?_) (fun hq => ?_)) <;> (try (first | (conv => arg 8; simp only [hq]) | (conv => arg 4; simp only [hq]))))
        | (with_reducible refine fin_0 ?_ (by first | rfl | (conv => lhs; simp only [go_sem, bytesD, beq_self_eq_true, bne_self_eq_false])) ?_)
        | exact Sub.refl _
        | omega)
      all_goals exact absurd ⟨he, hq⟩ hk
  · have h1 := impl_f (by omega) hv
    have h2 := spec_f (by omega) hv
    refine does0 c_laws_FnPlusMinus mixed (Nat.le_of_ble_eq_true rfl) ?_
    conv => arg 3; whnf
    repeat' (first
      | with_reducible refine acc_none ?_
      | (conv in hold _ => simp (disch := omega) only [go_sem, Nat.reduceEqDiff, Nat.reduceAdd, Nat.reduceMul, Nat.reduceSub, Nat.reduceLT, Nat.reduceLeDiff, ↓reduceIte, reduceCtorEq, Int.reduceToNat, bytesD, beq_self_eq_true, bne_self_eq_false])
      | (with_reducible first | refine dw_seq ?_ | refine dw_block ?_ | refine dw_skip ?_ | refine dw_ret ?_ | refine dw_exit ?_ | refine it_pos rfl ?_ | refine it_neg (by decide) ?_ | refine dw_cond ?_ | refine st_nil0 ?_ | refine st_nil rfl ?_ | refine c_true ?_ | refine c_false ?_ | refine st_one ?_ | refine st_guard ?_ | refine s_call ?_ | refine s_cal ?_ | refine s_inv ?_ | refine s_op ?_ ?_ | refine q_run _ ?_ | refine q_tf ?_ | refine q_ft ?_ | refine q_undef ?_ | exact True.intro)
      | ((with_reducible first | refine dw_reg0 ?_ | refine dw_regB ?_); (conv => arg 3; whnf))
      | ((with_reducible first | refine c_splitP (fun hq he => ?_) (fun hq he => ?_) | refine c_splitE (fun hq he => ?_) (fun hq he => ?_) | refine c_splitN (fun hq he => ?_) (fun hq he => ?_) | refine c_splitQ (fun hq he => ?_) (fun hq he => ?_) | refine q_splitPt (fun hq he => ?_) (fun hq he => ?_) | refine q_splitPf (fun hq he => ?_) (fun hq he => ?_) | refine q_splitEt (fun hq he => ?_) (fun hq he => ?_) | refine q_splitEf (fun hq he => ?_) (fun hq he => ?_) | refine q_splitNt (fun hq he => ?_) (fun hq he => ?_) | refine q_splitNf (fun hq he => ?_) (fun hq he => ?_)) <;> first | (exfalso; clear hq; omega) | ((try (first | (conv => arg 8; simp only [hq]) | (conv => arg 4; simp only [hq]))); clear hq))
      | ((with_reducible first | refine c_split (fun hq => ?_) (fun hq => ?_) | refine q_split (fun hq => ?_) (fun hq => ?_)) <;> (try (first | (conv => arg 8; simp only [hq]) | (conv => arg 4; simp only [hq]))))
      | (with_reducible refine fin_0 ?_ (by first | rfl | (conv => lhs; simp only [go_sem, bytesD, beq_self_eq_true, bne_self_eq_false])) ?_)
      | exact Sub.refl _
      | omega)
    refine c_doesE (hdr) ?_ ?_ ?_
    · ((try (conv => rhs; simp (disch := omega) only [go_sem, Nat.reduceEqDiff, Nat.reduceAdd, Nat.reduceMul, Nat.reduceSub, Nat.reduceLT, Nat.reduceLeDiff, ↓reduceIte, reduceCtorEq, Int.reduceToNat, bytesD, beq_self_eq_true, bne_self_eq_false])); try rfl)
    · first | rfl | (conv => lhs; simp only [go_sem, bytesD, beq_self_eq_true, bne_self_eq_false])
    repeat' (first
      | with_reducible refine acc_none ?_
      | (conv in hold _ => simp (disch := omega) only [go_sem, Nat.reduceEqDiff, Nat.reduceAdd, Nat.reduceMul, Nat.reduceSub, Nat.reduceLT, Nat.reduceLeDiff, ↓reduceIte, reduceCtorEq, Int.reduceToNat, bytesD, beq_self_eq_true, bne_self_eq_false])
      | (with_reducible first | refine dw_seq ?_ | refine dw_block ?_ | refine dw_skip ?_ | refine dw_ret ?_ | refine dw_exit ?_ | refine it_pos rfl ?_ | refine it_neg (by decide) ?_ | refine dw_cond ?_ | refine st_nil0 ?_ | refine st_nil rfl ?_ | refine c_true ?_ | refine c_false ?_ | refine st_one ?_ | refine st_guard ?_ | refine s_call ?_ | refine s_cal ?_ | refine s_inv ?_ | refine s_op ?_ ?_ | refine q_run _ ?_ | refine q_tf ?_ | refine q_ft ?_ | refine q_undef ?_ | exact True.intro)
      | ((with_reducible first | refine dw_reg0 ?_ | refine dw_regB ?_); (conv => arg 3; whnf))
      | ((with_reducible first | refine c_splitP (fun hq he => ?_) (fun hq he => ?_) | refine c_splitE (fun hq he => ?_) (fun hq he => ?_) | refine c_splitN (fun hq he => ?_) (fun hq he => ?_) | refine c_splitQ (fun hq he => ?_) (fun hq he => ?_) | refine q_splitPt (fun hq he => ?_) (fun hq he => ?_) | refine q_splitPf (fun hq he => ?_) (fun hq he => ?_) | refine q_splitEt (fun hq he => ?_) (fun hq he => ?_) | refine q_splitEf (fun hq he => ?_) (fun hq he => ?_) | refine q_splitNt (fun hq he => ?_) (fun hq he => ?_) | refine q_splitNf (fun hq he => ?_) (fun hq he => ?_)) <;> first | (exfalso; clear hq; omega) | ((try (first | (conv => arg 8; simp only [hq]) | (conv => arg 4; simp only [hq]))); clear hq))
      | ((with_reducible first | refine c_split (fun hq => ?_) (fun hq => ?_) | refine q_split (fun hq => ?_) (fun hq => ?_)) <;> (try (first | (conv => arg 8; simp only [hq]) | (conv => arg 4; simp only [hq]))))
      | (with_reducible refine fin_0 ?_ (by first | rfl | (conv => lhs; simp only [go_sem, bytesD, beq_self_eq_true, bne_self_eq_false])) ?_)
      | exact Sub.refl _
      | omega)
    refine c_doesE (h1) ?_ ?_ ?_
    · ((try (conv => rhs; simp (disch := omega) only [go_sem, Nat.reduceEqDiff, Nat.reduceAdd, Nat.reduceMul, Nat.reduceSub, Nat.reduceLT, Nat.reduceLeDiff, ↓reduceIte, reduceCtorEq, Int.reduceToNat, bytesD, beq_self_eq_true, bne_self_eq_false])); try rfl)
    · first | rfl | (conv => lhs; simp only [go_sem, bytesD, beq_self_eq_true, bne_self_eq_false])
    repeat' (first
      | with_reducible refine acc_none ?_
      | (conv in hold _ => simp (disch := omega) only [go_sem, Nat.reduceEqDiff, Nat.reduceAdd, Nat.reduceMul, Nat.reduceSub, Nat.reduceLT, Nat.reduceLeDiff, ↓reduceIte, reduceCtorEq, Int.reduceToNat, bytesD, beq_self_eq_true, bne_self_eq_false])
      | (with_reducible first | refine dw_seq ?_ | refine dw_block ?_ | refine dw_skip ?_ | refine dw_ret ?_ | refine dw_exit ?_ | refine it_pos rfl ?_ | refine it_neg (by decide) ?_ | refine dw_cond ?_ | refine st_nil0 ?_ | refine st_nil rfl ?_ | refine c_true ?_ | refine c_false ?_ | refine st_one ?_ | refine st_guard ?_ | refine s_call ?_ | refine s_cal ?_ | refine s_inv ?_ | refine s_op ?_ ?_ | refine q_run _ ?_ | refine q_tf ?_ | refine q_ft ?_ | refine q_undef ?_ | exact True.intro)
      | ((with_reducible first | refine dw_reg0 ?_ | refine dw_regB ?_); (conv => arg 3; whnf))
      | ((with_reducible first | refine c_splitP (fun hq he => ?_) (fun hq he => ?_) | refine c_splitE (fun hq he => ?_) (fun hq he => ?_) | refine c_splitN (fun hq he => ?_) (fun hq he => ?_) | refine c_splitQ (fun hq he => ?_) (fun hq he => ?_) | refine q_splitPt (fun hq he => ?_) (fun hq he => ?_) | refine q_splitPf (fun hq he => ?_) (fun hq he => ?_) | refine q_splitEt (fun hq he => ?_) (fun hq he => ?_) | refine q_splitEf (fun hq he => ?_) (fun hq he => ?_) | refine q_splitNt (fun hq he => ?_) (fun hq he => ?_) | refine q_splitNf (fun hq he => ?_) (fun hq he => ?_)) <;> first | (exfalso; clear hq; omega) | ((try (first | (conv => arg 8; simp only [hq]) | (conv => arg 4; simp only [hq]))); clear hq))
      | ((with_reducible first | refine c_split (fun hq => ?_) (fun hq => ?_) | refine q_split (fun hq => ?_) (fun hq => ?_)) <;> (try (first | (conv => arg 8; simp only [hq]) | (conv => arg 4; simp only [hq]))))
      | (with_reducible refine fin_0 ?_ (by first | rfl | (conv => lhs; simp only [go_sem, bytesD, beq_self_eq_true, bne_self_eq_false])) ?_)
      | exact Sub.refl _
      | omega)
    refine c_doesE (h2) ?_ ?_ ?_
    · ((try (conv => rhs; simp (disch := omega) only [go_sem, Nat.reduceEqDiff, Nat.reduceAdd, Nat.reduceMul, Nat.reduceSub, Nat.reduceLT, Nat.reduceLeDiff, ↓reduceIte, reduceCtorEq, Int.reduceToNat, bytesD, beq_self_eq_true, bne_self_eq_false])); try rfl)
    · first | rfl | (conv => lhs; simp only [go_sem, bytesD, beq_self_eq_true, bne_self_eq_false])
    repeat' (first
      | with_reducible refine acc_none ?_
      | (conv in hold _ => simp (disch := omega) only [go_sem, Nat.reduceEqDiff, Nat.reduceAdd, Nat.reduceMul, Nat.reduceSub, Nat.reduceLT, Nat.reduceLeDiff, ↓reduceIte, reduceCtorEq, Int.reduceToNat, bytesD, beq_self_eq_true, bne_self_eq_false])
      | (with_reducible first | refine dw_seq ?_ | refine dw_block ?_ | refine dw_skip ?_ | refine dw_ret ?_ | refine dw_exit ?_ | refine it_pos rfl ?_ | refine it_neg (by decide) ?_ | refine dw_cond ?_ | refine st_nil0 ?_ | refine st_nil rfl ?_ | refine c_true ?_ | refine c_false ?_ | refine st_one ?_ | refine st_guard ?_ | refine s_call ?_ | refine s_cal ?_ | refine s_inv ?_ | refine s_op ?_ ?_ | refine q_run _ ?_ | refine q_tf ?_ | refine q_ft ?_ | refine q_undef ?_ | exact True.intro)
      | ((with_reducible first | refine dw_reg0 ?_ | refine dw_regB ?_); (conv => arg 3; whnf))
      | ((with_reducible first | refine c_splitP (fun hq he => ?_) (fun hq he => ?_) | refine c_splitE (fun hq he => ?_) (fun hq he => ?_) | refine c_splitN (fun hq he => ?_) (fun hq he => ?_) | refine c_splitQ (fun hq he => ?_) (fun hq he => ?_) | refine q_splitPt (fun hq he => ?_) (fun hq he => ?_) | refine q_splitPf (fun hq he => ?_) (fun hq he => ?_) | refine q_splitEt (fun hq he => ?_) (fun hq he => ?_) | refine q_splitEf (fun hq he => ?_) (fun hq he => ?_) | refine q_splitNt (fun hq he => ?_) (fun hq he => ?_) | refine q_splitNf (fun hq he => ?_) (fun hq he => ?_)) <;> first | (exfalso; clear hq; omega) | ((try (first | (conv => arg 8; simp only [hq]) | (conv => arg 4; simp only [hq]))); clear hq))
      | ((with_reducible first | refine c_split (fun hq => ?_) (fun hq => ?_) | refine q_split (fun hq => ?_) (fun hq => ?_)) <;> (try (first | (conv => arg 8; simp only [hq]) | (conv => arg 4; simp only [hq]))))
      | (with_reducible refine fin_0 ?_ (by first | rfl | (conv => lhs; simp only [go_sem, bytesD, beq_self_eq_true, bne_self_eq_false])) ?_)
      | exact Sub.refl _
      | omega)
theorem walk_FnPlusMinus (a : Option Addr) (len cap : Nat) (zs : List Int) (w : World) (h : IsRow .u8 w a len cap zs) :
    Calls Try.prog 9 #[.slice a len cap] w fun e W' => e = .returned (.bool true) ∧ Below w.heap.size w W' := walk_of does_FnPlusMinus a len cap zs w h
end Go.Proofs.Ytgfojbajbmcpbaa
