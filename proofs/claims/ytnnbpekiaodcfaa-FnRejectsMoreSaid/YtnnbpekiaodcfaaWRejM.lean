/-
  The law that more nulls are rejected as well. No condition.
-/
import Derived.Test.YtnnbpekiaodcfaaDcWRejM
import Derived.Test.YtnnbpekiaodcfaaDca
import Derived.Test.YtnnbpekiaodcfaaVDrawR
import Derived.Test.YtnnbpekiaodcfaaVRejE
import Derived.Test.YtnnbpekiaodcfaaVOcM
import Derived.Test.YtnnbpekiaodcfaaVLaw
set_option maxHeartbeats 4000000
set_option maxRecDepth 100000
set_option linter.unusedVariables false
set_option linter.unusedSimpArgs false
namespace Go.Proofs.Ytnnbpekiaodcfaa
open Go.RowKit

theorem t_top : all8 (fun a => sub7 a 7) = true := by kernel_rfl
theorem t_few : all8 (fun a => all8 fun b => imp (sub7 a b) (imp (intBit .and .i64 b 2 == 0) (intBit .and .i64 a 2 == 0))) = true := by kernel_rfl
theorem t_44 : sub7 4 4 = true := by kernel_rfl
/-- More nulls are rejected. -/
theorem more {e : E} {w : Nat} {ns ns' : List Int} (hv : rjOk e w) (hsub : ∀ v, v ∈ ns → v ∈ ns') (h : intBit .and .i64 (oc e (stL ns w)) 2 = 0) : intBit .and .i64 (oc e (stL ns' w)) 2 = 0 := by
  have hl := stL_len ns w
  have hl' := stL_len ns' w
  have hm := oc_mono (ss := stL ns' w) (tt := stL ns w) (stL_ok ns' w) (stL_ok ns w) (by rw [hl, hl']) (fun j s t hs ht => by
    have hj := (List.getElem?_eq_some_iff.1 hs).1
    rw [stL_get ns' (by omega)] at hs
    rw [stL_get ns (by omega)] at ht
    cases hs
    cases ht
    unfold stN
    by_cases h1 : (j : Int) ∈ ns
    · rw [if_pos h1, if_pos (hsub _ h1)]
      exact t_44
    · rw [if_neg h1]
      refine all8_at t_top (a := if (j : Int) ∈ ns' then 4 else 7) ?_
      split <;> decide) e 8 (by rw [hl']; exact hv.2)
  have r1 := oc_range (stL_ok ns w) e 8 (by rw [hl]; exact hv.2)
  have r2 := oc_range (stL_ok ns' w) e 8 (by rw [hl']; exact hv.2)
  exact beq_iff_eq.1 (imp_at (imp_at (all8_at (all8_at t_few r2) r1) hm) (beq_iff_eq.2 h))
theorem rj_more {e : E} {w : Nat} {ns ns' : List Int} (hl : ns'.length ≤ 1048576) (hv : rjOk e w) (hsub : ∀ v, v ∈ ns → v ∈ ns') (h : intBit .and .i64 (oc e (stL ns w)) 2 = 0) : Does Try.prog 14 [] [eD e, I w, intsD ns'] (Bo true) [] := by
  obtain ⟨b, _, h2, h3, _⟩ := RejectsNulls_ok e w ns' hl
  have := h3 hv
  rw [show ((w : Int)).toNat = w by omega, more hv hsub h] at this
  rw [this] at h2
  exact h2
def allL (w : Nat) : List Int := (List.range w).map fun (i : Nat) => (i : Int)
theorem allL_len (w : Nat) : (allL w).length = w := by unfold allL; rw [List.length_map, List.length_range]
theorem allL_get {w i : Nat} (h : i < w) : (allL w)[i]? = some (i : Int) := by unfold allL; rw [List.getElem?_map, List.getElem?_range h]; rfl
theorem stL_all {ns : List Int} {w : Nat} (e : E) (hv : rjOk e w) (h : intBit .and .i64 (oc e (stL ns w)) 2 = 0) : intBit .and .i64 (oc e (stL (ns ++ allL w) w)) 2 = 0 := more hv (fun v hv => List.mem_append_left _ hv) h
theorem stL_same (ns : List Int) (w : Nat) : stL (ns ++ allL w) w = stL (allL w) w := by
  unfold stL
  refine List.map_congr_left (fun i hi => ?_)
  have hm : (i : Int) ∈ allL w := List.mem_map.2 ⟨i, hi, rfl⟩
  unfold stN
  rw [if_pos hm, if_pos (List.mem_append_right _ hm)]
theorem does_FnRejectsMore (cs : List Nat) (hc : ∀ b, b ∈ cs → b < 256) (cs' : List Nat) (hc' : ∀ b, b ∈ cs' → b < 256) : Does Try.prog 6 [] [bytesD cs, bytesD cs'] (Bo true) [] := by
  obtain ⟨e, w, ns, hdr, hw1, hw3, hnl⟩ := DrawRejectsNulls_ok cs hc
  obtain ⟨b, h1, h2, h3, h4⟩ := RejectsNulls_ok e w ns (by omega)
  by_cases hcl : cs.length ≤ 1048576 ∧ cs'.length ≤ 1048576
  · obtain ⟨hcl, hcl'⟩ := hcl
    cases b with
    | false =>
      refine does0 c_laws_FnRejectsMore mixed (Nat.le_of_ble_eq_true rfl) ?_
      conv => arg 3; whnf
      repeat' (first | with_reducible refine acc_none ?_ | (conv in hold _ => simp (disch := omega) only [go_sem, bytesD, beq_self_eq_true, bne_self_eq_false]) | refine Stp.go ?_ | (with_reducible first | refine it_pos rfl ?_ | refine it_neg (by decide) ?_ | refine st_nil rfl ?_ | refine s_op ?_ ?_ | exact True.intro) | ((with_reducible first | refine dw_reg0 ?_ | refine dw_regB ?_); (conv => arg 3; whnf)) | (refine Spl.go (fun hq he => ?_) (fun hq he => ?_) <;> first | (exfalso; clear hq; omega) | ((try (first | (conv => arg 8; simp only [hq]) | (conv => arg 4; simp only [hq]))); clear hq)) | ((with_reducible first | refine c_split (fun hq => ?_) (fun hq => ?_) | refine q_split (fun hq => ?_) (fun hq => ?_)) <;> (try (first | (conv => arg 8; simp only [hq]) | (conv => arg 4; simp only [hq])))) | (with_reducible refine fin_0 ?_ (by first | rfl | (conv => lhs; simp only [go_sem, bytesD, beq_self_eq_true, bne_self_eq_false])) ?_) | exact Sub.refl _ | omega)
      refine c_doesE (hdr) ?_ ?_ ?_
      · ((try (conv => rhs; simp (disch := omega) only [go_sem, bytesD, beq_self_eq_true, bne_self_eq_false])); try rfl)
      · first | rfl | (conv => lhs; simp only [go_sem, bytesD, beq_self_eq_true, bne_self_eq_false])
      repeat' (first | with_reducible refine acc_none ?_ | (conv in hold _ => simp (disch := omega) only [go_sem, bytesD, beq_self_eq_true, bne_self_eq_false]) | refine Stp.go ?_ | (with_reducible first | refine it_pos rfl ?_ | refine it_neg (by decide) ?_ | refine st_nil rfl ?_ | refine s_op ?_ ?_ | exact True.intro) | ((with_reducible first | refine dw_reg0 ?_ | refine dw_regB ?_); (conv => arg 3; whnf)) | (refine Spl.go (fun hq he => ?_) (fun hq he => ?_) <;> first | (exfalso; clear hq; omega) | ((try (first | (conv => arg 8; simp only [hq]) | (conv => arg 4; simp only [hq]))); clear hq)) | ((with_reducible first | refine c_split (fun hq => ?_) (fun hq => ?_) | refine q_split (fun hq => ?_) (fun hq => ?_)) <;> (try (first | (conv => arg 8; simp only [hq]) | (conv => arg 4; simp only [hq])))) | (with_reducible refine fin_0 ?_ (by first | rfl | (conv => lhs; simp only [go_sem, bytesD, beq_self_eq_true, bne_self_eq_false])) ?_) | exact Sub.refl _ | omega)
      refine c_doesE (h2) ?_ ?_ ?_
      · ((try (conv => rhs; simp (disch := omega) only [go_sem, bytesD, beq_self_eq_true, bne_self_eq_false])); try rfl)
      · first | rfl | (conv => lhs; simp only [go_sem, bytesD, beq_self_eq_true, bne_self_eq_false])
      repeat' (first | with_reducible refine acc_none ?_ | (conv in hold _ => simp (disch := omega) only [go_sem, bytesD, beq_self_eq_true, bne_self_eq_false]) | refine Stp.go ?_ | (with_reducible first | refine it_pos rfl ?_ | refine it_neg (by decide) ?_ | refine st_nil rfl ?_ | refine s_op ?_ ?_ | exact True.intro) | ((with_reducible first | refine dw_reg0 ?_ | refine dw_regB ?_); (conv => arg 3; whnf)) | (refine Spl.go (fun hq he => ?_) (fun hq he => ?_) <;> first | (exfalso; clear hq; omega) | ((try (first | (conv => arg 8; simp only [hq]) | (conv => arg 4; simp only [hq]))); clear hq)) | ((with_reducible first | refine c_split (fun hq => ?_) (fun hq => ?_) | refine q_split (fun hq => ?_) (fun hq => ?_)) <;> (try (first | (conv => arg 8; simp only [hq]) | (conv => arg 4; simp only [hq])))) | (with_reducible refine fin_0 ?_ (by first | rfl | (conv => lhs; simp only [go_sem, bytesD, beq_self_eq_true, bne_self_eq_false])) ?_) | exact Sub.refl _ | omega)
      refine c_doesE (h1) ?_ ?_ ?_
      · ((try (conv => rhs; simp (disch := omega) only [go_sem, bytesD, beq_self_eq_true, bne_self_eq_false])); try rfl)
      · first | rfl | (conv => lhs; simp only [go_sem, bytesD, beq_self_eq_true, bne_self_eq_false])
      repeat' (first | with_reducible refine acc_none ?_ | (conv in hold _ => simp (disch := omega) only [go_sem, bytesD, beq_self_eq_true, bne_self_eq_false]) | refine Stp.go ?_ | (with_reducible first | refine it_pos rfl ?_ | refine it_neg (by decide) ?_ | refine st_nil rfl ?_ | refine s_op ?_ ?_ | exact True.intro) | ((with_reducible first | refine dw_reg0 ?_ | refine dw_regB ?_); (conv => arg 3; whnf)) | (refine Spl.go (fun hq he => ?_) (fun hq he => ?_) <;> first | (exfalso; clear hq; omega) | ((try (first | (conv => arg 8; simp only [hq]) | (conv => arg 4; simp only [hq]))); clear hq)) | ((with_reducible first | refine c_split (fun hq => ?_) (fun hq => ?_) | refine q_split (fun hq => ?_) (fun hq => ?_)) <;> (try (first | (conv => arg 8; simp only [hq]) | (conv => arg 4; simp only [hq])))) | (with_reducible refine fin_0 ?_ (by first | rfl | (conv => lhs; simp only [go_sem, bytesD, beq_self_eq_true, bne_self_eq_false])) ?_) | exact Sub.refl _ | omega)
      all_goals
        refine c_doesE (h1) ?_ ?_ ?_
        · ((try (conv => rhs; simp (disch := omega) only [go_sem, bytesD, beq_self_eq_true, bne_self_eq_false])); try rfl)
        · first | rfl | (conv => lhs; simp only [go_sem, bytesD, beq_self_eq_true, bne_self_eq_false])
        repeat' (first | with_reducible refine acc_none ?_ | (conv in hold _ => simp (disch := omega) only [go_sem, bytesD, beq_self_eq_true, bne_self_eq_false]) | refine Stp.go ?_ | (with_reducible first | refine it_pos rfl ?_ | refine it_neg (by decide) ?_ | refine st_nil rfl ?_ | refine s_op ?_ ?_ | exact True.intro) | ((with_reducible first | refine dw_reg0 ?_ | refine dw_regB ?_); (conv => arg 3; whnf)) | (refine Spl.go (fun hq he => ?_) (fun hq he => ?_) <;> first | (exfalso; clear hq; omega) | ((try (first | (conv => arg 8; simp only [hq]) | (conv => arg 4; simp only [hq]))); clear hq)) | ((with_reducible first | refine c_split (fun hq => ?_) (fun hq => ?_) | refine q_split (fun hq => ?_) (fun hq => ?_)) <;> (try (first | (conv => arg 8; simp only [hq]) | (conv => arg 4; simp only [hq])))) | (with_reducible refine fin_0 ?_ (by first | rfl | (conv => lhs; simp only [go_sem, bytesD, beq_self_eq_true, bne_self_eq_false])) ?_) | exact Sub.refl _ | omega)
    | true =>
      have hv : rjOk e w := Classical.byContradiction fun h => by cases h4 h
      have h5 := beq_iff_eq.1 (h3 hv).symm
      rw [show ((w : Int)).toNat = w by omega] at h5
      have hal := allL_len w
      have hk0 := Int.tmod_nonneg (w : Int) (show (0 : Int) ≤ (cs'.length : Int) by omega)
      have hk1 := Int.tmod_lt_of_pos (cs'.length : Int) (show (0 : Int) < (w : Int) by omega)
      have h6 := rj_more (ns' := ns ++ [(cs'.length : Int).tmod (w : Int)]) (by rw [List.length_append, List.length_singleton]; omega) hv (fun v hv => List.mem_append_left _ hv) h5
      have h7 : Does Try.prog 14 [] [eD e, I w, intsD (allL w)] (Bo true) [] := by
        obtain ⟨b, _, h2, h3, _⟩ := RejectsNulls_ok e w (allL w) (by omega)
        have := h3 hv
        rw [show ((w : Int)).toNat = w by omega, ← stL_same ns w, stL_all e hv h5] at this
        rw [this] at h2
        exact h2
      refine does0 c_laws_FnRejectsMore mixed (Nat.le_of_ble_eq_true rfl) ?_
      conv => arg 3; whnf
      repeat' (first | with_reducible refine acc_none ?_ | (conv in hold _ => simp (disch := omega) only [go_sem, bytesD, beq_self_eq_true, bne_self_eq_false]) | refine Stp.go ?_ | (with_reducible first | refine it_pos rfl ?_ | refine it_neg (by decide) ?_ | refine st_nil rfl ?_ | refine s_op ?_ ?_ | exact True.intro) | ((with_reducible first | refine dw_reg0 ?_ | refine dw_regB ?_); (conv => arg 3; whnf)) | (refine Spl.go (fun hq he => ?_) (fun hq he => ?_) <;> first | (exfalso; clear hq; omega) | ((try (first | (conv => arg 8; simp only [hq]) | (conv => arg 4; simp only [hq]))); clear hq)) | ((with_reducible first | refine c_split (fun hq => ?_) (fun hq => ?_) | refine q_split (fun hq => ?_) (fun hq => ?_)) <;> (try (first | (conv => arg 8; simp only [hq]) | (conv => arg 4; simp only [hq])))) | (with_reducible refine fin_0 ?_ (by first | rfl | (conv => lhs; simp only [go_sem, bytesD, beq_self_eq_true, bne_self_eq_false])) ?_) | exact Sub.refl _ | omega)
      refine c_doesE (hdr) ?_ ?_ ?_
      · ((try (conv => rhs; simp (disch := omega) only [go_sem, bytesD, beq_self_eq_true, bne_self_eq_false])); try rfl)
      · first | rfl | (conv => lhs; simp only [go_sem, bytesD, beq_self_eq_true, bne_self_eq_false])
      repeat' (first | with_reducible refine acc_none ?_ | (conv in hold _ => simp (disch := omega) only [go_sem, bytesD, beq_self_eq_true, bne_self_eq_false]) | refine Stp.go ?_ | (with_reducible first | refine it_pos rfl ?_ | refine it_neg (by decide) ?_ | refine st_nil rfl ?_ | refine s_op ?_ ?_ | exact True.intro) | ((with_reducible first | refine dw_reg0 ?_ | refine dw_regB ?_); (conv => arg 3; whnf)) | (refine Spl.go (fun hq he => ?_) (fun hq he => ?_) <;> first | (exfalso; clear hq; omega) | ((try (first | (conv => arg 8; simp only [hq]) | (conv => arg 4; simp only [hq]))); clear hq)) | ((with_reducible first | refine c_split (fun hq => ?_) (fun hq => ?_) | refine q_split (fun hq => ?_) (fun hq => ?_)) <;> (try (first | (conv => arg 8; simp only [hq]) | (conv => arg 4; simp only [hq])))) | (with_reducible refine fin_0 ?_ (by first | rfl | (conv => lhs; simp only [go_sem, bytesD, beq_self_eq_true, bne_self_eq_false])) ?_) | exact Sub.refl _ | omega)
      refine c_doesE (h2) ?_ ?_ ?_
      · ((try (conv => rhs; simp (disch := omega) only [go_sem, bytesD, beq_self_eq_true, bne_self_eq_false])); try rfl)
      · first | rfl | (conv => lhs; simp only [go_sem, bytesD, beq_self_eq_true, bne_self_eq_false])
      repeat' (first | with_reducible refine acc_none ?_ | (conv in hold _ => simp (disch := omega) only [go_sem, bytesD, beq_self_eq_true, bne_self_eq_false]) | refine Stp.go ?_ | (with_reducible first | refine it_pos rfl ?_ | refine it_neg (by decide) ?_ | refine st_nil rfl ?_ | refine s_op ?_ ?_ | exact True.intro) | ((with_reducible first | refine dw_reg0 ?_ | refine dw_regB ?_); (conv => arg 3; whnf)) | (refine Spl.go (fun hq he => ?_) (fun hq he => ?_) <;> first | (exfalso; clear hq; omega) | ((try (first | (conv => arg 8; simp only [hq]) | (conv => arg 4; simp only [hq]))); clear hq)) | ((with_reducible first | refine c_split (fun hq => ?_) (fun hq => ?_) | refine q_split (fun hq => ?_) (fun hq => ?_)) <;> (try (first | (conv => arg 8; simp only [hq]) | (conv => arg 4; simp only [hq])))) | (with_reducible refine fin_0 ?_ (by first | rfl | (conv => lhs; simp only [go_sem, bytesD, beq_self_eq_true, bne_self_eq_false])) ?_) | exact Sub.refl _ | omega)
      refine c_doesE (h1) ?_ ?_ ?_
      · ((try (conv => rhs; simp (disch := omega) only [go_sem, bytesD, beq_self_eq_true, bne_self_eq_false])); try rfl)
      · first | rfl | (conv => lhs; simp only [go_sem, bytesD, beq_self_eq_true, bne_self_eq_false])
      repeat' (first | with_reducible refine acc_none ?_ | (conv in hold _ => simp (disch := omega) only [go_sem, bytesD, beq_self_eq_true, bne_self_eq_false]) | refine Stp.go ?_ | (with_reducible first | refine it_pos rfl ?_ | refine it_neg (by decide) ?_ | refine st_nil rfl ?_ | refine s_op ?_ ?_ | exact True.intro) | ((with_reducible first | refine dw_reg0 ?_ | refine dw_regB ?_); (conv => arg 3; whnf)) | (refine Spl.go (fun hq he => ?_) (fun hq he => ?_) <;> first | (exfalso; clear hq; omega) | ((try (first | (conv => arg 8; simp only [hq]) | (conv => arg 4; simp only [hq]))); clear hq)) | ((with_reducible first | refine c_split (fun hq => ?_) (fun hq => ?_) | refine q_split (fun hq => ?_) (fun hq => ?_)) <;> (try (first | (conv => arg 8; simp only [hq]) | (conv => arg 4; simp only [hq])))) | (with_reducible refine fin_0 ?_ (by first | rfl | (conv => lhs; simp only [go_sem, bytesD, beq_self_eq_true, bne_self_eq_false])) ?_) | exact Sub.refl _ | omega)
      refine dw_for (c := 2) (l := fun i => [(1, bytesD cs'), (5, .ref 1000000 0), (6, I w), (7, intsD ns), (9, .own 1000001 1 i), (10, I i), (1000000, .obj [I e.k, I e.c, Bo e.v.b, I e.v.n, .sl 5 (e.ks.map eD)]), (1000001, .row 1 (((allL w).take i).map I))]) w (fun _ => True) 0 trivial ((wk_row 9 2000054 1 (by decide) (by decide) rfl rfl).trans (Wk.list [2000005, 2000054] rfl rfl ?_)) (fun i hi _ => ?_) (Nat.zero_le _)
      · repeat' (first | (conv in hold _ => simp (disch := omega) only [go_sem, bytesD, beq_self_eq_true, bne_self_eq_false]) | exact True.intro | exact Sub.refl _ | omega)
        exact rfl
      · have htl := take_len (vs := allL w) (i := i) (by omega)
        have hmk := take_map I (vs := allL w) (i := i) (by omega)
        by_cases hil : i < w
        · have hnx := take_next (allL_get hil)
          repeat' (first | with_reducible refine acc_none ?_ | (conv in hold _ => simp (disch := omega) only [go_sem, bytesD, beq_self_eq_true, bne_self_eq_false]) | refine Stp.go ?_ | (with_reducible first | refine it_pos rfl ?_ | refine it_neg (by decide) ?_ | refine st_nil rfl ?_ | refine s_op ?_ ?_ | exact True.intro) | ((with_reducible first | refine dw_reg0 ?_ | refine dw_regB ?_); (conv => arg 3; whnf)) | (refine Spl.go (fun hq he => ?_) (fun hq he => ?_) <;> first | (exfalso; clear hq; omega) | ((try (first | (conv => arg 8; simp only [hq]) | (conv => arg 4; simp only [hq]))); clear hq)) | ((with_reducible first | refine c_split (fun hq => ?_) (fun hq => ?_) | refine q_split (fun hq => ?_) (fun hq => ?_)) <;> (try (first | (conv => arg 8; simp only [hq]) | (conv => arg 4; simp only [hq])))) | (with_reducible refine fin_0 ?_ (by first | rfl | (conv => lhs; simp only [go_sem, bytesD, beq_self_eq_true, bne_self_eq_false])) ?_) | exact Sub.refl _ | omega)
          refine ⟨hil, trivial, Wk.list [1000000, 2000054] rfl rfl ?_⟩
          repeat' (first | (conv in hold _ => simp (disch := omega) only [go_sem, bytesD, beq_self_eq_true, bne_self_eq_false, List.length_map, htl]) | exact True.intro | exact Sub.refl _ | omega)
          rw [hnx, List.map_append, hmk]
          rfl
        · obtain rfl : i = w := by omega
          have e1 : (allL i).take i = allL i := List.take_of_length_le (by omega)
          have e2 : ((allL i).map I).take i = (allL i).map I := List.take_of_length_le (by rw [List.length_map]; omega)
          have e4 : ns.map I ++ [I ((cs'.length : Int).tmod (i : Int))] = (ns ++ [(cs'.length : Int).tmod (i : Int)]).map I := by rw [List.map_append]; rfl
          have e5 : (ns.map I ++ [I ((cs'.length : Int).tmod (i : Int))]).take (ns.length + 1) = (ns ++ [(cs'.length : Int).tmod (i : Int)]).map I := by
            rw [e4]
            exact List.take_of_length_le (by rw [List.length_map, List.length_append, List.length_singleton]; exact Nat.le_refl _)
          repeat' ((fail_if_success (with_reducible first | refine s_call ?_ | refine s_cal ?_ | refine s_inv ?_)); first | with_reducible refine acc_none ?_ | (conv in hold _ => simp (disch := omega) only [go_sem, bytesD, beq_self_eq_true, bne_self_eq_false, e1]) | refine Stp.go ?_ | (with_reducible first | refine it_pos rfl ?_ | refine it_neg (by decide) ?_ | refine st_nil rfl ?_ | refine s_op ?_ ?_ | exact True.intro) | ((with_reducible first | refine dw_reg0 ?_ | refine dw_regB ?_); (conv => arg 3; whnf)) | (refine Spl.go (fun hq he => ?_) (fun hq he => ?_) <;> first | (exfalso; clear hq; omega) | ((try (first | (conv => arg 8; simp only [hq]) | (conv => arg 4; simp only [hq]))); clear hq)) | ((with_reducible first | refine c_split (fun hq => ?_) (fun hq => ?_) | refine q_split (fun hq => ?_) (fun hq => ?_)) <;> (try (first | (conv => arg 8; simp only [hq]) | (conv => arg 4; simp only [hq])))) | (with_reducible refine fin_0 ?_ (by first | rfl | (conv => lhs; simp only [go_sem, bytesD, beq_self_eq_true, bne_self_eq_false, e1])) ?_) | exact Sub.refl _ | omega)
          refine s_pre (pre_frz (t := 65) (g := 2000065) (by decide) (by decide) rfl ?_) ?_
          rotate_left
          repeat' (first | with_reducible refine acc_none ?_ | (conv in hold _ => simp (disch := omega) only [go_sem, bytesD, beq_self_eq_true, bne_self_eq_false, e5]) | refine Stp.go ?_ | (with_reducible first | refine it_pos rfl ?_ | refine it_neg (by decide) ?_ | refine st_nil rfl ?_ | refine s_op ?_ ?_ | exact True.intro) | ((with_reducible first | refine dw_reg0 ?_ | refine dw_regB ?_); (conv => arg 3; whnf)) | (refine Spl.go (fun hq he => ?_) (fun hq he => ?_) <;> first | (exfalso; clear hq; omega) | ((try (first | (conv => arg 8; simp only [hq]) | (conv => arg 4; simp only [hq]))); clear hq)) | ((with_reducible first | refine c_split (fun hq => ?_) (fun hq => ?_) | refine q_split (fun hq => ?_) (fun hq => ?_)) <;> (try (first | (conv => arg 8; simp only [hq]) | (conv => arg 4; simp only [hq])))) | (with_reducible refine fin_0 ?_ (by first | rfl | (conv => lhs; simp only [go_sem, bytesD, beq_self_eq_true, bne_self_eq_false, e5])) ?_) | exact Sub.refl _ | omega)
          refine c_doesE (h6) ?_ ?_ ?_
          · ((try (conv => rhs; simp (disch := omega) only [go_sem, bytesD, beq_self_eq_true, bne_self_eq_false])); try rfl)
          · first | rfl | (conv => lhs; simp only [go_sem, bytesD, beq_self_eq_true, bne_self_eq_false])
          repeat' ((fail_if_success (with_reducible first | refine s_call ?_ | refine s_cal ?_ | refine s_inv ?_)); first | with_reducible refine acc_none ?_ | (conv in hold _ => simp (disch := omega) only [go_sem, bytesD, beq_self_eq_true, bne_self_eq_false]) | refine Stp.go ?_ | (with_reducible first | refine it_pos rfl ?_ | refine it_neg (by decide) ?_ | refine st_nil rfl ?_ | refine s_op ?_ ?_ | exact True.intro) | ((with_reducible first | refine dw_reg0 ?_ | refine dw_regB ?_); (conv => arg 3; whnf)) | (refine Spl.go (fun hq he => ?_) (fun hq he => ?_) <;> first | (exfalso; clear hq; omega) | ((try (first | (conv => arg 8; simp only [hq]) | (conv => arg 4; simp only [hq]))); clear hq)) | ((with_reducible first | refine c_split (fun hq => ?_) (fun hq => ?_) | refine q_split (fun hq => ?_) (fun hq => ?_)) <;> (try (first | (conv => arg 8; simp only [hq]) | (conv => arg 4; simp only [hq])))) | (with_reducible refine fin_0 ?_ (by first | rfl | (conv => lhs; simp only [go_sem, bytesD, beq_self_eq_true, bne_self_eq_false])) ?_) | exact Sub.refl _ | omega)
          refine s_pre (pre_frz (t := 70) (g := 1000001) (by decide) (by decide) rfl ?_) ?_
          rotate_left
          repeat' (first | with_reducible refine acc_none ?_ | (conv in hold _ => simp (disch := omega) only [go_sem, bytesD, beq_self_eq_true, bne_self_eq_false, e1, e2, hal, Nat.le_refl]) | refine Stp.go ?_ | (with_reducible first | refine it_pos rfl ?_ | refine it_neg (by decide) ?_ | refine st_nil rfl ?_ | refine s_op ?_ ?_ | exact True.intro) | ((with_reducible first | refine dw_reg0 ?_ | refine dw_regB ?_); (conv => arg 3; whnf)) | (refine Spl.go (fun hq he => ?_) (fun hq he => ?_) <;> first | (exfalso; clear hq; omega) | ((try (first | (conv => arg 8; simp only [hq]) | (conv => arg 4; simp only [hq]))); clear hq)) | ((with_reducible first | refine c_split (fun hq => ?_) (fun hq => ?_) | refine q_split (fun hq => ?_) (fun hq => ?_)) <;> (try (first | (conv => arg 8; simp only [hq]) | (conv => arg 4; simp only [hq])))) | (with_reducible refine fin_0 ?_ (by first | rfl | (conv => lhs; simp only [go_sem, bytesD, beq_self_eq_true, bne_self_eq_false, e1, e2, hal, Nat.le_refl])) ?_) | exact Sub.refl _ | omega)
          refine c_doesE (h7) ?_ ?_ ?_
          · ((try (conv => rhs; simp (disch := omega) only [go_sem, bytesD, beq_self_eq_true, bne_self_eq_false])); try rfl)
          · first | rfl | (conv => lhs; simp only [go_sem, bytesD, beq_self_eq_true, bne_self_eq_false])
          repeat' (first | with_reducible refine acc_none ?_ | (conv in hold _ => simp (disch := omega) only [go_sem, bytesD, beq_self_eq_true, bne_self_eq_false]) | refine Stp.go ?_ | (with_reducible first | refine it_pos rfl ?_ | refine it_neg (by decide) ?_ | refine st_nil rfl ?_ | refine s_op ?_ ?_ | exact True.intro) | ((with_reducible first | refine dw_reg0 ?_ | refine dw_regB ?_); (conv => arg 3; whnf)) | (refine Spl.go (fun hq he => ?_) (fun hq he => ?_) <;> first | (exfalso; clear hq; omega) | ((try (first | (conv => arg 8; simp only [hq]) | (conv => arg 4; simp only [hq]))); clear hq)) | ((with_reducible first | refine c_split (fun hq => ?_) (fun hq => ?_) | refine q_split (fun hq => ?_) (fun hq => ?_)) <;> (try (first | (conv => arg 8; simp only [hq]) | (conv => arg 4; simp only [hq])))) | (with_reducible refine fin_0 ?_ (by first | rfl | (conv => lhs; simp only [go_sem, bytesD, beq_self_eq_true, bne_self_eq_false])) ?_) | exact Sub.refl _ | omega)
          all_goals first
            | exact ints_pur _
            | (show D.purL (ns.map I ++ [I ((cs'.length : Int).tmod (i : Int))]) = true; rw [e4]; exact ints_pur _)
  · refine does0 c_laws_FnRejectsMore mixed (Nat.le_of_ble_eq_true rfl) ?_
    conv => arg 3; whnf
    repeat' (first | with_reducible refine acc_none ?_ | (conv in hold _ => simp (disch := omega) only [go_sem, bytesD, beq_self_eq_true, bne_self_eq_false]) | refine Stp.go ?_ | (with_reducible first | refine it_pos rfl ?_ | refine it_neg (by decide) ?_ | refine st_nil rfl ?_ | refine s_op ?_ ?_ | exact True.intro) | ((with_reducible first | refine dw_reg0 ?_ | refine dw_regB ?_); (conv => arg 3; whnf)) | (refine Spl.go (fun hq he => ?_) (fun hq he => ?_) <;> first | (exfalso; clear hq; omega) | ((try (first | (conv => arg 8; simp only [hq]) | (conv => arg 4; simp only [hq]))); clear hq)) | ((with_reducible first | refine c_split (fun hq => ?_) (fun hq => ?_) | refine q_split (fun hq => ?_) (fun hq => ?_)) <;> (try (first | (conv => arg 8; simp only [hq]) | (conv => arg 4; simp only [hq])))) | (with_reducible refine fin_0 ?_ (by first | rfl | (conv => lhs; simp only [go_sem, bytesD, beq_self_eq_true, bne_self_eq_false])) ?_) | exact Sub.refl _ | omega)
theorem walk_FnRejectsMore (a : Option Addr) (len cap : Nat) (zs : List Int) (a' : Option Addr) (len' cap' : Nat) (zs' : List Int) (w : World) (h : IsRow .u8 w a len cap zs) (h' : IsRow .u8 w a' len' cap' zs') :
    Calls Try.prog 6 #[.slice a len cap, .slice a' len' cap'] w fun e W' => e = .returned (.bool true) ∧ Below w.heap.size w W' := walk_of2 does_FnRejectsMore a len cap zs a' len' cap' zs' w h h'
end Go.Proofs.Ytnnbpekiaodcfaa
