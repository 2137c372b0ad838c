/-
  Drawn plans that may be invalid, with widths. No condition.
-/
import Derived.Test.YtpfedjaedlfdfaaKSDca
import Derived.Test.YtpfedjaedlfdfaaKSDce
import Derived.Test.YtpfedjaedlfdfaaKSVPlanD
set_option maxHeartbeats 4000000
set_option maxRecDepth 100000
set_option linter.unusedVariables false
set_option linter.unusedSimpArgs false
namespace Go.Proofs.Ytpfedjaedlfdfaa
open Go.RowKit
theorem es_pur (es : List E) : D.purL (es.map eD) = true := exprs_pur es
theorem take_allL {α : Type} (f : α → D) (l : List α) {n : Nat} (h : n = l.length) : (l.map f).take n = l.map f := List.take_of_length_le (by rw [List.length_map]; omega)
theorem anyPlan_ok {bs : List Nat} (hs : Src bs) {ws : List Int} (hw : wsOk ws) (p : Nat) (hp : p < 90000000) : ∃ (x : Pl) (q : Nat), Does Try.prog 52 [rdD bs p, wrD ws] [.ref 1000000 0, .own 1000001 1 ws.length] (pD x) [rdD bs q, wrD ws] ∧ p ≤ q ∧ q ≤ p + 23000 ∧ psz x ≤ 11100 := by
  obtain ⟨x, q, hx, hq0, hq1, hz⟩ := randomPlan_own hs hw p (by omega)
  obtain ⟨k, hk, k0, k1, _⟩ := pick_ok hs q (by omega) 18 (by omega)
  have t1 := take_allL eD x.es rfl
  have t2 := take_allL I x.cs rfl
  rw [psz_eq] at hz
  by_cases hk0 : k = 0
  · obtain ⟨v, hv, _⟩ := one_ok hs (q + 1) (by omega) [0, 9, 1, 4] (by decide) (by decide)
    refine ⟨.mk v x.t x.es x.cs x.ks, q + 2, ?_, by omega, by omega, by rw [psz_eq]; exact Nat.le_trans hz (by omega)⟩
    refine does c_spec_anyPlan mixed (Nat.le_of_ble_eq_true rfl) 2 rfl ?_
    conv => arg 3; whnf
    repeat' (first
      | with_reducible refine acc_none ?_ | (conv in hold _=>simp (disch:=omega) only [go_sem])|refine Stp.go ?_|(with_reducible first|refine it_pos rfl ?_|refine it_neg (by decide) ?_|refine st_nil rfl ?_|refine s_op ?_ ?_|exact trivial)|((with_reducible first|refine dw_reg0 ?_|refine dw_regB ?_);(conv=>arg 3;whnf))|(refine Spl.go (fun hq he=>?_) (fun hq he=>?_)<;>first|(exfalso;clear hq;omega)|((try first|(conv=>arg 8;simp only [hq])|(conv=>arg 4;simp only [hq]));clear hq))|((with_reducible first|refine c_split (fun hq=>?_) (fun hq=>?_)|refine q_split (fun hq=>?_) (fun hq=>?_))<;>(try first|(conv=>arg 8;simp only [hq])|(conv=>arg 4;simp only [hq])))
      | (with_reducible show evC _ _ _ _ _ _ _ _ _ _ _ _
         first
         | (refine c_doesR [1000000, 1000001, 3000001, 3000002] (hx) (callOK_of rfl (Nat.le_of_ble_eq_true rfl) rfl ?_ ?_) ?_ ?_
            iterate 2 · repeat' (first|(conv in hold _=>simp (disch:=omega) only [go_sem])|exact trivial|exact Sub.refl _|omega)
            · ((conv=>rhs;simp (disch:=omega) only [go_sem]); try rfl))
         | (refine c_doesR [1000000] (hk) (callOK_of rfl (Nat.le_of_ble_eq_true rfl) rfl ?_ ?_) ?_ ?_
            iterate 2 · repeat' (first|(conv in hold _=>simp (disch:=omega) only [go_sem])|exact trivial|exact Sub.refl _|omega)
            · ((conv=>rhs;simp (disch:=omega) only [go_sem]); try rfl))
         | (refine c_doesR [1000000] (hv) (callOK_of rfl (Nat.le_of_ble_eq_true rfl) rfl ?_ ?_) ?_ ?_
            iterate 2 · repeat' (first|(conv in hold _=>simp (disch:=omega) only [go_sem])|exact trivial|exact Sub.refl _|omega)
            · ((conv=>rhs;simp (disch:=omega) only [go_sem]); try rfl)))|exact Sub.refl _|omega)
    refine fin_wk (wk_frzO 2000004 3000001 (by decide) (by decide) rfl (by decide) rfl ?_) ?_
    rotate_left
    (conv in hold _=>simp (disch:=omega) only [go_sem, t1, Nat.le_refl])
    refine fin_wk (wk_frzO 2000004 3000002 (by decide) (by decide) rfl (by decide) rfl ?_) ?_
    rotate_left
    (conv in hold _=>simp (disch:=omega) only [go_sem, t2, Nat.le_refl])
    all_goals first
      | exact es_pur _
      | exact ints_pur _
      | skip
    refine fin_L [1000000, 1000001] ?_ ?_ rfl ?_
    repeat' (first|(conv in hold _=>simp (disch:=omega) only [go_sem])|exact trivial|exact Sub.refl _|omega)
  by_cases hk1 : k = 1
  · obtain ⟨v, hv, _⟩ := one_ok hs (q + 1) (by omega) [-1, 4, 1] (by decide) (by decide)
    refine ⟨.mk x.k v x.es x.cs x.ks, q + 2, ?_, by omega, by omega, by rw [psz_eq]; exact Nat.le_trans hz (by omega)⟩
    refine does c_spec_anyPlan mixed (Nat.le_of_ble_eq_true rfl) 2 rfl ?_
    conv => arg 3; whnf
    repeat' (first
      | with_reducible refine acc_none ?_ | (conv in hold _=>simp (disch:=omega) only [go_sem])|refine Stp.go ?_|(with_reducible first|refine it_pos rfl ?_|refine it_neg (by decide) ?_|refine st_nil rfl ?_|refine s_op ?_ ?_|exact trivial)|((with_reducible first|refine dw_reg0 ?_|refine dw_regB ?_);(conv=>arg 3;whnf))|(refine Spl.go (fun hq he=>?_) (fun hq he=>?_)<;>first|(exfalso;clear hq;omega)|((try first|(conv=>arg 8;simp only [hq])|(conv=>arg 4;simp only [hq]));clear hq))|((with_reducible first|refine c_split (fun hq=>?_) (fun hq=>?_)|refine q_split (fun hq=>?_) (fun hq=>?_))<;>(try first|(conv=>arg 8;simp only [hq])|(conv=>arg 4;simp only [hq])))
      | (with_reducible show evC _ _ _ _ _ _ _ _ _ _ _ _
         first
         | (refine c_doesR [1000000, 1000001, 3000001, 3000002] (hx) (callOK_of rfl (Nat.le_of_ble_eq_true rfl) rfl ?_ ?_) ?_ ?_
            iterate 2 · repeat' (first|(conv in hold _=>simp (disch:=omega) only [go_sem])|exact trivial|exact Sub.refl _|omega)
            · ((conv=>rhs;simp (disch:=omega) only [go_sem]); try rfl))
         | (refine c_doesR [1000000] (hk) (callOK_of rfl (Nat.le_of_ble_eq_true rfl) rfl ?_ ?_) ?_ ?_
            iterate 2 · repeat' (first|(conv in hold _=>simp (disch:=omega) only [go_sem])|exact trivial|exact Sub.refl _|omega)
            · ((conv=>rhs;simp (disch:=omega) only [go_sem]); try rfl))
         | (refine c_doesR [1000000] (hv) (callOK_of rfl (Nat.le_of_ble_eq_true rfl) rfl ?_ ?_) ?_ ?_
            iterate 2 · repeat' (first|(conv in hold _=>simp (disch:=omega) only [go_sem])|exact trivial|exact Sub.refl _|omega)
            · ((conv=>rhs;simp (disch:=omega) only [go_sem]); try rfl)))|exact Sub.refl _|omega)
    refine fin_wk (wk_frzO 2000004 3000001 (by decide) (by decide) rfl (by decide) rfl ?_) ?_
    rotate_left
    (conv in hold _=>simp (disch:=omega) only [go_sem, t1, Nat.le_refl])
    refine fin_wk (wk_frzO 2000004 3000002 (by decide) (by decide) rfl (by decide) rfl ?_) ?_
    rotate_left
    (conv in hold _=>simp (disch:=omega) only [go_sem, t2, Nat.le_refl])
    all_goals first
      | exact es_pur _
      | exact ints_pur _
      | skip
    refine fin_L [1000000, 1000001] ?_ ?_ rfl ?_
    repeat' (first|(conv in hold _=>simp (disch:=omega) only [go_sem])|exact trivial|exact Sub.refl _|omega)
  by_cases hk2 : k = 2
  · obtain ⟨v, hv, _⟩ := one_ok hs (q + 1) (by omega) [0, 9] (by decide) (by decide)
    have t4 : (x.cs.map I ++ [I v]) = (x.cs ++ [v]).map I := by rw [List.map_append]; rfl
    have t5 : ((x.cs ++ [v]).map I).take (x.cs.length + 1) = (x.cs ++ [v]).map I := take_allL I _ (by rw [List.length_append]; rfl)
    refine ⟨.mk x.k x.t x.es (x.cs ++ [v]) x.ks, q + 2, ?_, by omega, by omega, ?_⟩
    · refine does c_spec_anyPlan mixed (Nat.le_of_ble_eq_true rfl) 2 rfl ?_
      conv => arg 3; whnf
      repeat' (first
        | with_reducible refine acc_none ?_ | (conv in hold _=>simp (disch:=omega) only [go_sem, t2])|refine Stp.go ?_|(with_reducible first|refine it_pos rfl ?_|refine it_neg (by decide) ?_|refine st_nil rfl ?_|refine s_op ?_ ?_|exact trivial)|((with_reducible first|refine dw_reg0 ?_|refine dw_regB ?_);(conv=>arg 3;whnf))|(refine Spl.go (fun hq he=>?_) (fun hq he=>?_)<;>first|(exfalso;clear hq;omega)|((try first|(conv=>arg 8;simp only [hq])|(conv=>arg 4;simp only [hq]));clear hq))|((with_reducible first|refine c_split (fun hq=>?_) (fun hq=>?_)|refine q_split (fun hq=>?_) (fun hq=>?_))<;>(try first|(conv=>arg 8;simp only [hq])|(conv=>arg 4;simp only [hq])))
        | (with_reducible show evC _ _ _ _ _ _ _ _ _ _ _ _
           first
           | (refine c_doesR [1000000, 1000001, 3000001, 3000002] (hx) (callOK_of rfl (Nat.le_of_ble_eq_true rfl) rfl ?_ ?_) ?_ ?_
              iterate 2 · repeat' (first|(conv in hold _=>simp (disch:=omega) only [go_sem, t2])|exact trivial|exact Sub.refl _|omega)
              · ((conv=>rhs;simp (disch:=omega) only [go_sem, t2]); try rfl))
           | (refine c_doesR [1000000] (hk) (callOK_of rfl (Nat.le_of_ble_eq_true rfl) rfl ?_ ?_) ?_ ?_
              iterate 2 · repeat' (first|(conv in hold _=>simp (disch:=omega) only [go_sem, t2])|exact trivial|exact Sub.refl _|omega)
              · ((conv=>rhs;simp (disch:=omega) only [go_sem, t2]); try rfl))
           | (refine c_doesR [1000000] (hv) (callOK_of rfl (Nat.le_of_ble_eq_true rfl) rfl ?_ ?_) ?_ ?_
              iterate 2 · repeat' (first|(conv in hold _=>simp (disch:=omega) only [go_sem, t2])|exact trivial|exact Sub.refl _|omega)
              · ((conv=>rhs;simp (disch:=omega) only [go_sem, t2]); try rfl)))|exact Sub.refl _|omega)
      refine fin_wk (wk_frzO 2000004 3000001 (by decide) (by decide) rfl (by decide) rfl ?_) ?_
      rotate_left
      (conv in hold _=>simp (disch:=omega) only [go_sem, t1, Nat.le_refl])
      refine fin_wk (wk_frzO 2000004 2000031 (by decide) (by decide) rfl (by decide) rfl ?_) ?_
      rotate_left
      (conv in hold _=>simp (disch:=omega) only [go_sem, t2, t4, t5, Nat.le_refl])
      all_goals first
        | exact es_pur _
        | exact ints_pur _
        | (show D.purL (x.cs.map I ++ [I v]) = true; rw [t4]; exact ints_pur _)
        | skip
      refine fin_L [1000000, 1000001] ?_ ?_ rfl ?_
      repeat' (first|(conv in hold _=>simp (disch:=omega) only [go_sem])|exact trivial|exact Sub.refl _|omega)
    · rw [psz_eq]
      show eszL x.es + (x.cs ++ [v]).length + pszL x.ks ≤ _
      rw [List.length_append, List.length_singleton]
      omega
  by_cases hk3 : k = 3
  · have hel := eszL_len x.es
    obtain ⟨e, q2, hae, he0, he1, hez⟩ := anyExpr_ok hs 2 (by omega) (q + 1) (by omega)
    have t4 : (x.es.map eD ++ [.agg [I e.k, I e.c, Bo e.v.b, I e.v.n, .sl 5 (e.ks.map eD)]]) = (x.es ++ [e]).map eD := by rw [← eD_eq, List.map_append]; rfl
    have t5 : ((x.es ++ [e]).map eD).take (x.es.length + 1) = (x.es ++ [e]).map eD := take_allL eD _ (by rw [List.length_append]; rfl)
    refine ⟨.mk x.k x.t (x.es ++ [e]) x.cs x.ks, q2, ?_, by omega, by omega, ?_⟩
    · refine does c_spec_anyPlan mixed (Nat.le_of_ble_eq_true rfl) 2 rfl ?_
      conv => arg 3; whnf
      repeat' (first
        | with_reducible refine acc_none ?_ | (conv in hold _=>simp (disch:=omega) only [go_sem, t1])|refine Stp.go ?_|(with_reducible first|refine it_pos rfl ?_|refine it_neg (by decide) ?_|refine st_nil rfl ?_|refine s_op ?_ ?_|exact trivial)|((with_reducible first|refine dw_reg0 ?_|refine dw_regB ?_);(conv=>arg 3;whnf))|(refine Spl.go (fun hq he=>?_) (fun hq he=>?_)<;>first|(exfalso;clear hq;omega)|((try first|(conv=>arg 8;simp only [hq])|(conv=>arg 4;simp only [hq]));clear hq))|((with_reducible first|refine c_split (fun hq=>?_) (fun hq=>?_)|refine q_split (fun hq=>?_) (fun hq=>?_))<;>(try first|(conv=>arg 8;simp only [hq])|(conv=>arg 4;simp only [hq])))
        | (with_reducible show evC _ _ _ _ _ _ _ _ _ _ _ _
           first
           | (refine c_doesR [1000000, 1000001, 3000001, 3000002] (hx) (callOK_of rfl (Nat.le_of_ble_eq_true rfl) rfl ?_ ?_) ?_ ?_
              iterate 2 · repeat' (first|(conv in hold _=>simp (disch:=omega) only [go_sem, t1])|exact trivial|exact Sub.refl _|omega)
              · ((conv=>rhs;simp (disch:=omega) only [go_sem, t1]); try rfl))
           | (refine c_doesR [1000000] (hk) (callOK_of rfl (Nat.le_of_ble_eq_true rfl) rfl ?_ ?_) ?_ ?_
              iterate 2 · repeat' (first|(conv in hold _=>simp (disch:=omega) only [go_sem, t1])|exact trivial|exact Sub.refl _|omega)
              · ((conv=>rhs;simp (disch:=omega) only [go_sem, t1]); try rfl))
           | (refine c_doesR [1000000] (hae) (callOK_of rfl (Nat.le_of_ble_eq_true rfl) rfl ?_ ?_) ?_ ?_
              iterate 2 · repeat' (first|(conv in hold _=>simp (disch:=omega) only [go_sem, t1])|exact trivial|exact Sub.refl _|omega)
              · ((conv=>rhs;simp (disch:=omega) only [go_sem, t1]); try rfl)))|exact Sub.refl _|omega)
      refine fin_wk (wk_frzO 2000004 2000040 (by decide) (by decide) rfl (by decide) rfl ?_) ?_
      rotate_left
      (conv in hold _=>simp (disch:=omega) only [go_sem, t1, t4, t5, Nat.le_refl])
      refine fin_wk (wk_frzO 2000004 3000002 (by decide) (by decide) rfl (by decide) rfl ?_) ?_
      rotate_left
      (conv in hold _=>simp (disch:=omega) only [go_sem, t2, Nat.le_refl])
      all_goals first
        | exact es_pur _
        | exact ints_pur _
        | (rw [t4]; exact es_pur _)
        | skip
      refine fin_L [1000000, 1000001] ?_ ?_ rfl ?_
      repeat' (first|(conv in hold _=>simp (disch:=omega) only [go_sem])|exact trivial|exact Sub.refl _|omega)
    · rw [psz_eq]
      show eszL (x.es ++ [e]) + x.cs.length + pszL x.ks ≤ _
      rw [eszL_append, eszL_1]
      omega
  · refine ⟨x, q + 1, ?_, by omega, by omega, by rw [psz_eq]; omega⟩
    refine does c_spec_anyPlan mixed (Nat.le_of_ble_eq_true rfl) 2 rfl ?_
    conv => arg 3; whnf
    repeat' (first
      | with_reducible refine acc_none ?_ | (conv in hold _=>simp (disch:=omega) only [go_sem])|refine Stp.go ?_|(with_reducible first|refine it_pos rfl ?_|refine it_neg (by decide) ?_|refine st_nil rfl ?_|refine s_op ?_ ?_|exact trivial)|((with_reducible first|refine dw_reg0 ?_|refine dw_regB ?_);(conv=>arg 3;whnf))|(refine Spl.go (fun hq he=>?_) (fun hq he=>?_)<;>first|(exfalso;clear hq;omega)|((try first|(conv=>arg 8;simp only [hq])|(conv=>arg 4;simp only [hq]));clear hq))|((with_reducible first|refine c_split (fun hq=>?_) (fun hq=>?_)|refine q_split (fun hq=>?_) (fun hq=>?_))<;>(try first|(conv=>arg 8;simp only [hq])|(conv=>arg 4;simp only [hq])))
      | (with_reducible show evC _ _ _ _ _ _ _ _ _ _ _ _
         first
         | (refine c_doesR [1000000, 1000001, 3000001, 3000002] (hx) (callOK_of rfl (Nat.le_of_ble_eq_true rfl) rfl ?_ ?_) ?_ ?_
            iterate 2 · repeat' (first|(conv in hold _=>simp (disch:=omega) only [go_sem])|exact trivial|exact Sub.refl _|omega)
            · ((conv=>rhs;simp (disch:=omega) only [go_sem]); try rfl))
         | (refine c_doesR [1000000] (hk) (callOK_of rfl (Nat.le_of_ble_eq_true rfl) rfl ?_ ?_) ?_ ?_
            iterate 2 · repeat' (first|(conv in hold _=>simp (disch:=omega) only [go_sem])|exact trivial|exact Sub.refl _|omega)
            · ((conv=>rhs;simp (disch:=omega) only [go_sem]); try rfl)))|exact Sub.refl _|omega)
    refine fin_wk (wk_frzO 2000004 3000001 (by decide) (by decide) rfl (by decide) rfl ?_) ?_
    rotate_left
    (conv in hold _=>simp (disch:=omega) only [go_sem, t1, Nat.le_refl])
    refine fin_wk (wk_frzO 2000004 3000002 (by decide) (by decide) rfl (by decide) rfl ?_) ?_
    rotate_left
    (conv in hold _=>simp (disch:=omega) only [go_sem, t2, Nat.le_refl])
    all_goals first
      | exact es_pur _
      | exact ints_pur _
      | skip
    refine fin_L [1000000, 1000001] ?_ ?_ rfl ?_
    repeat' (first|(conv in hold _=>simp (disch:=omega) only [go_sem])|exact trivial|exact Sub.refl _|omega)
theorem planAndWidths_ok {bs : List Nat} (hs : Src bs) (p : Nat) (hp : p < 80000000) : ∃ (x : Pl) (ws : List Int) (q : Nat), Does Try.prog 30 [rdD bs p] [.ref 1000000 0] (.tup [pD x, intsD ws]) [rdD bs q] ∧ (2 ≤ ws.length ∧ ws.length ≤ 3) ∧ (∀ (i : Nat) (w : Int), ws[i]? = some w → 0 ≤ w ∧ w ≤ 7) ∧ psz x ≤ 11100 ∧ p ≤ q ∧ q ≤ p + 24000 := by
  obtain ⟨ws, q, ⟨hw, hl, hr⟩, hq0, hq1⟩ := randomWidths_own hs p (by omega)
  have hwo : wsOk ws := ⟨by omega, fun i w h => by have := hr i w h; omega⟩
  obtain ⟨x, q2, hx, hx0, hx1, hz⟩ := anyPlan_ok hs hwo q (by omega)
  obtain ⟨k, hk, k0, k1, _⟩ := pick_ok hs q2 (by omega) 18 (by omega)
  by_cases hk0 : k = 0
  · obtain ⟨v, hv, hm⟩ := one_ok hs (q2 + 1) (by omega) [0, 7, 1] (by decide) (by decide)
    simp only [List.mem_cons, List.not_mem_nil, or_false] at hm
    have hpos : (ws.map I)[0]? = some (I (ws[0]'(by omega))) := by
      rw [List.getElem?_map, List.getElem?_eq_getElem (by omega)]
      rfl
    have hsi : (ws.map I).set 0 (I v) = (ws.set 0 v).map I := by rw [List.map_set]
    have t3 : ((ws.set 0 v).map I).take ws.length = (ws.set 0 v).map I := take_allL I _ (by rw [List.length_set])
    refine ⟨x, ws.set 0 v, q2 + 2, ?_, by rw [List.length_set]; exact hl, fun i w hi => ?_, hz, by omega, by omega⟩
    · refine does c_spec_planAndWidths mixed (Nat.le_of_ble_eq_true rfl) 1 rfl ?_
      conv => arg 3; whnf
      repeat' (first
        | with_reducible refine acc_none ?_ | (conv in hold _=>simp (disch:=omega) only [go_sem, hpos])|refine Stp.go ?_|(with_reducible first|refine it_pos rfl ?_|refine it_neg (by decide) ?_|refine st_nil rfl ?_|refine s_op ?_ ?_|exact trivial)|((with_reducible first|refine dw_reg0 ?_|refine dw_regB ?_);(conv=>arg 3;whnf))|(refine Spl.go (fun hq he=>?_) (fun hq he=>?_)<;>first|(exfalso;clear hq;omega)|((try first|(conv=>arg 8;simp only [hq])|(conv=>arg 4;simp only [hq]));clear hq))|((with_reducible first|refine c_split (fun hq=>?_) (fun hq=>?_)|refine q_split (fun hq=>?_) (fun hq=>?_))<;>(try first|(conv=>arg 8;simp only [hq])|(conv=>arg 4;simp only [hq])))
        | (with_reducible show evC _ _ _ _ _ _ _ _ _ _ _ _
           first
           | (refine c_doesR [1000000, 3000001] (hw) (callOK_of rfl (Nat.le_of_ble_eq_true rfl) rfl ?_ ?_) ?_ ?_
              iterate 2 · repeat' (first|(conv in hold _=>simp (disch:=omega) only [go_sem, hpos])|exact trivial|exact Sub.refl _|omega)
              · ((conv=>rhs;simp (disch:=omega) only [go_sem, hpos]); try rfl))
           | (refine c_doesR [1000000, 3000001] (hx) (callOK_of rfl (Nat.le_of_ble_eq_true rfl) rfl ?_ ?_) ?_ ?_
              iterate 2 · repeat' (first|(conv in hold _=>simp (disch:=omega) only [go_sem, hpos])|exact trivial|exact Sub.refl _|omega)
              · ((conv=>rhs;simp (disch:=omega) only [go_sem, hpos]); try rfl))
           | (refine c_doesR [1000000] (hk) (callOK_of rfl (Nat.le_of_ble_eq_true rfl) rfl ?_ ?_) ?_ ?_
              iterate 2 · repeat' (first|(conv in hold _=>simp (disch:=omega) only [go_sem, hpos])|exact trivial|exact Sub.refl _|omega)
              · ((conv=>rhs;simp (disch:=omega) only [go_sem, hpos]); try rfl))
           | (refine c_doesR [1000000] (hv) (callOK_of rfl (Nat.le_of_ble_eq_true rfl) rfl ?_ ?_) ?_ ?_
              iterate 2 · repeat' (first|(conv in hold _=>simp (disch:=omega) only [go_sem, hpos])|exact trivial|exact Sub.refl _|omega)
              · ((conv=>rhs;simp (disch:=omega) only [go_sem, hpos]); try rfl)))|exact Sub.refl _|omega)
      refine fin_wk (wk_frz 3 3000001 (by decide) (by decide) rfl ?_) ?_
      rotate_left
      (conv in hold _=>simp (disch:=omega) only [go_sem, hsi, t3, List.length_set, Nat.le_refl])
      · refine fin_L [1000000] ?_ ?_ rfl ?_
        repeat' (first|(conv in hold _=>simp (disch:=omega) only [go_sem])|exact trivial|exact Sub.refl _|omega)
      · show D.purL ((ws.map I).set 0 (I v)) = true
        rw [hsi]
        exact ints_pur _
    · rcases List.mem_or_eq_of_mem_set (List.mem_of_getElem? hi) with h | h
      · obtain ⟨j, hj, he⟩ := List.getElem_of_mem h
        have := hr j w (by rw [List.getElem?_eq_getElem hj, he])
        omega
      · omega
  · have t3 := take_allL I ws rfl
    refine ⟨x, ws, q2 + 1, ?_, hl, fun i w hi => by have := hr i w hi; omega, hz, by omega, by omega⟩
    refine does c_spec_planAndWidths mixed (Nat.le_of_ble_eq_true rfl) 1 rfl ?_
    conv => arg 3; whnf
    repeat' (first
      | with_reducible refine acc_none ?_ | (conv in hold _=>simp (disch:=omega) only [go_sem])|refine Stp.go ?_|(with_reducible first|refine it_pos rfl ?_|refine it_neg (by decide) ?_|refine st_nil rfl ?_|refine s_op ?_ ?_|exact trivial)|((with_reducible first|refine dw_reg0 ?_|refine dw_regB ?_);(conv=>arg 3;whnf))|(refine Spl.go (fun hq he=>?_) (fun hq he=>?_)<;>first|(exfalso;clear hq;omega)|((try first|(conv=>arg 8;simp only [hq])|(conv=>arg 4;simp only [hq]));clear hq))|((with_reducible first|refine c_split (fun hq=>?_) (fun hq=>?_)|refine q_split (fun hq=>?_) (fun hq=>?_))<;>(try first|(conv=>arg 8;simp only [hq])|(conv=>arg 4;simp only [hq])))
      | (with_reducible show evC _ _ _ _ _ _ _ _ _ _ _ _
         first
         | (refine c_doesR [1000000, 3000001] (hw) (callOK_of rfl (Nat.le_of_ble_eq_true rfl) rfl ?_ ?_) ?_ ?_
            iterate 2 · repeat' (first|(conv in hold _=>simp (disch:=omega) only [go_sem])|exact trivial|exact Sub.refl _|omega)
            · ((conv=>rhs;simp (disch:=omega) only [go_sem]); try rfl))
         | (refine c_doesR [1000000, 3000001] (hx) (callOK_of rfl (Nat.le_of_ble_eq_true rfl) rfl ?_ ?_) ?_ ?_
            iterate 2 · repeat' (first|(conv in hold _=>simp (disch:=omega) only [go_sem])|exact trivial|exact Sub.refl _|omega)
            · ((conv=>rhs;simp (disch:=omega) only [go_sem]); try rfl))
         | (refine c_doesR [1000000] (hk) (callOK_of rfl (Nat.le_of_ble_eq_true rfl) rfl ?_ ?_) ?_ ?_
            iterate 2 · repeat' (first|(conv in hold _=>simp (disch:=omega) only [go_sem])|exact trivial|exact Sub.refl _|omega)
            · ((conv=>rhs;simp (disch:=omega) only [go_sem]); try rfl)))|exact Sub.refl _|omega)
    refine fin_wk (wk_frz 3 3000001 (by decide) (by decide) rfl ?_) ?_
    rotate_left
    (conv in hold _=>simp (disch:=omega) only [go_sem, t3, Nat.le_refl])
    · refine fin_L [1000000] ?_ ?_ rfl ?_
      repeat' (first|(conv in hold _=>simp (disch:=omega) only [go_sem])|exact trivial|exact Sub.refl _|omega)
    · exact ints_pur _
end Go.Proofs.Ytpfedjaedlfdfaa
