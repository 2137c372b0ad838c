/-
  Drawn plans that may be invalid, with widths. No condition.
-/
import Derived.Test.YtikfanemeglcoaaDca
import Derived.Test.YtikfanemeglcoaaDcd
import Derived.Test.YtikfanemeglcoaaJVPlanD
set_option maxHeartbeats 4000000
set_option maxRecDepth 100000
set_option linter.unusedVariables false
set_option linter.unusedSimpArgs false
namespace Go.Proofs.Ytikfanemeglcoaa
open Go.RowKit

theorem es_pur (es : List E) : D.purL (es.map eD) = true := exprs_pur es
theorem take_allL {α : Type} (f : α → D) (l : List α) {n : Nat} (h : n = l.length) : (l.map f).take n = l.map f := List.take_of_length_le (by rw [List.length_map]; omega)
theorem rb_kind {x : Pl} {v : Int} (hv : v ∈ [(0 : Int), 9, 1, 4]) (h : rb x ≤ 60) (h6 : x.k = 6 → x.es = []) (hf : fields (.mk v x.t x.es x.cs x.ks)) : rb (.mk v x.t x.es x.cs x.ks) ≤ 60 := by
  rw [rb_eq] at h ⊢
  show rbF v (rbL x.ks) ≤ 60
  obtain ⟨f1, f2, _, _, f5, _⟩ := hf
  change 1 ≤ v ∧ v ≤ 8 at f1
  change v = 1 → x.ks.length = 0 at f2
  change v = 2 ∨ v = 4 ∨ v = 5 → x.es.length = 1 at f5
  simp only [List.mem_cons, List.not_mem_nil, or_false] at hv
  rcases hv with rfl | rfl | rfl | rfl
  · omega
  · omega
  · rw [List.length_eq_zero_iff.1 (f2 rfl)]
    decide
  · have hk : x.k ≠ 6 := fun hk => by
      have := f5 (Or.inr (Or.inl rfl))
      rw [h6 hk] at this
      cases this
    generalize rbL x.ks = l at h ⊢
    match l with
    | [] => decide
    | [a] => exact h
    | a :: b :: _ =>
      have h' : (if x.k = 6 then a + b else a * (b + 1)) ≤ 60 := h
      rw [if_neg hk] at h'
      show (if (4 : Int) = 6 then a + b else a * (b + 1)) ≤ 60
      rw [if_neg (by decide)]
      exact h'
theorem anyPlan_ok {bs : List Nat} (hs : Src bs) {ws : List Int} (hw : wsOk ws) (p : Nat) (hp : p < 90000000) : ∃ (x : Pl) (q : Nat), Does Try.prog 30 [rdD bs p, wrD ws] [.ref 1000000 0, .own 1000001 1 ws.length] (pD x) [rdD bs q, wrD ws] ∧ p ≤ q ∧ q ≤ p + 23000 ∧ psz x ≤ 11100 ∧ (fields x → rb x ≤ 60) := by
  obtain ⟨x, q, hx, hq0, hq1, hz, hrb, h66⟩ := randomPlan_own hs hw p (by omega)
  obtain ⟨k, hk, k0, k1, _⟩ := pick_ok hs q (by omega) 18 (by omega)
  have t1 := take_allL eD x.es rfl
  have t2 := take_allL I x.cs rfl
  rw [psz_eq] at hz
  by_cases hk0 : k = 0
  · obtain ⟨v, hv, hvm⟩ := one_ok hs (q + 1) (by omega) [0, 9, 1, 4] (by decide) (by decide)
    refine ⟨.mk v x.t x.es x.cs x.ks, q + 2, ?_, by omega, by omega, by rw [psz_eq]; exact Nat.le_trans hz (by omega), fun hf => rb_kind hvm hrb h66 hf⟩
    refine does c_spec_anyPlan mixed (Nat.le_of_ble_eq_true rfl) 2 rfl ?_
    conv => arg 3; whnf
    repeat' (first
      | with_reducible refine acc_none ?_ | (conv in hold _ => simp (disch := omega) only [go_sem]) | refine Stp.go ?_ | (with_reducible first | refine it_pos rfl ?_ | refine it_neg (by decide) ?_ | refine st_nil rfl ?_ | refine s_op ?_ ?_ | exact True.intro) | ((with_reducible first | refine dw_reg0 ?_ | refine dw_regB ?_); (conv => arg 3; whnf)) | (refine Spl.go (fun hq he => ?_) (fun hq he => ?_) <;> first | (exfalso; clear hq; omega) | ((try (first | (conv => arg 8; simp only [hq]) | (conv => arg 4; simp only [hq]))); clear hq)) | ((with_reducible first | refine c_split (fun hq => ?_) (fun hq => ?_) | refine q_split (fun hq => ?_) (fun hq => ?_)) <;> (try (first | (conv => arg 8; simp only [hq]) | (conv => arg 4; simp only [hq]))))
      | (with_reducible show evC _ _ _ _ _ _ _ _ _ _ _ _
         first
         | (refine c_doesR [1000000, 1000001, 3000001, 3000002] (hx) (callOK_of rfl (Nat.le_of_ble_eq_true rfl) rfl ?_ ?_) ?_ ?_
            iterate 2 · repeat' (first | (conv in hold _ => simp (disch := omega) only [go_sem]) | exact True.intro | exact Sub.refl _ | omega)
            · ((conv => rhs; simp (disch := omega) only [go_sem]); try rfl))
         | (refine c_doesR [1000000] (hk) (callOK_of rfl (Nat.le_of_ble_eq_true rfl) rfl ?_ ?_) ?_ ?_
            iterate 2 · repeat' (first | (conv in hold _ => simp (disch := omega) only [go_sem]) | exact True.intro | exact Sub.refl _ | omega)
            · ((conv => rhs; simp (disch := omega) only [go_sem]); try rfl))
         | (refine c_doesR [1000000] (hv) (callOK_of rfl (Nat.le_of_ble_eq_true rfl) rfl ?_ ?_) ?_ ?_
            iterate 2 · repeat' (first | (conv in hold _ => simp (disch := omega) only [go_sem]) | exact True.intro | exact Sub.refl _ | omega)
            · ((conv => rhs; simp (disch := omega) only [go_sem]); try rfl)))
      | exact Sub.refl _ | omega)
    refine fin_wk (wk_frzO 2000004 3000001 (by decide) (by decide) rfl (by decide) rfl ?_) ?_
    rotate_left
    (conv in hold _ => simp (disch := omega) only [go_sem, t1, Nat.le_refl])
    refine fin_wk (wk_frzO 2000004 3000002 (by decide) (by decide) rfl (by decide) rfl ?_) ?_
    rotate_left
    (conv in hold _ => simp (disch := omega) only [go_sem, t2, Nat.le_refl])
    all_goals first
      | exact es_pur _
      | exact ints_pur _
      | skip
    refine fin_L [1000000, 1000001] ?_ ?_ rfl ?_
    repeat' (first | (conv in hold _ => simp (disch := omega) only [go_sem]) | exact True.intro | exact Sub.refl _ | omega)
  by_cases hk1 : k = 1
  · obtain ⟨v, hv, _⟩ := one_ok hs (q + 1) (by omega) [-1, 4, 1] (by decide) (by decide)
    refine ⟨.mk x.k v x.es x.cs x.ks, q + 2, ?_, by omega, by omega, by rw [psz_eq]; exact Nat.le_trans hz (by omega), fun _ => by rw [rb_eq] at hrb ⊢; exact hrb⟩
    refine does c_spec_anyPlan mixed (Nat.le_of_ble_eq_true rfl) 2 rfl ?_
    conv => arg 3; whnf
    repeat' (first
      | with_reducible refine acc_none ?_ | (conv in hold _ => simp (disch := omega) only [go_sem]) | refine Stp.go ?_ | (with_reducible first | refine it_pos rfl ?_ | refine it_neg (by decide) ?_ | refine st_nil rfl ?_ | refine s_op ?_ ?_ | exact True.intro) | ((with_reducible first | refine dw_reg0 ?_ | refine dw_regB ?_); (conv => arg 3; whnf)) | (refine Spl.go (fun hq he => ?_) (fun hq he => ?_) <;> first | (exfalso; clear hq; omega) | ((try (first | (conv => arg 8; simp only [hq]) | (conv => arg 4; simp only [hq]))); clear hq)) | ((with_reducible first | refine c_split (fun hq => ?_) (fun hq => ?_) | refine q_split (fun hq => ?_) (fun hq => ?_)) <;> (try (first | (conv => arg 8; simp only [hq]) | (conv => arg 4; simp only [hq]))))
      | (with_reducible show evC _ _ _ _ _ _ _ _ _ _ _ _
         first
         | (refine c_doesR [1000000, 1000001, 3000001, 3000002] (hx) (callOK_of rfl (Nat.le_of_ble_eq_true rfl) rfl ?_ ?_) ?_ ?_
            iterate 2 · repeat' (first | (conv in hold _ => simp (disch := omega) only [go_sem]) | exact True.intro | exact Sub.refl _ | omega)
            · ((conv => rhs; simp (disch := omega) only [go_sem]); try rfl))
         | (refine c_doesR [1000000] (hk) (callOK_of rfl (Nat.le_of_ble_eq_true rfl) rfl ?_ ?_) ?_ ?_
            iterate 2 · repeat' (first | (conv in hold _ => simp (disch := omega) only [go_sem]) | exact True.intro | exact Sub.refl _ | omega)
            · ((conv => rhs; simp (disch := omega) only [go_sem]); try rfl))
         | (refine c_doesR [1000000] (hv) (callOK_of rfl (Nat.le_of_ble_eq_true rfl) rfl ?_ ?_) ?_ ?_
            iterate 2 · repeat' (first | (conv in hold _ => simp (disch := omega) only [go_sem]) | exact True.intro | exact Sub.refl _ | omega)
            · ((conv => rhs; simp (disch := omega) only [go_sem]); try rfl)))
      | exact Sub.refl _ | omega)
    refine fin_wk (wk_frzO 2000004 3000001 (by decide) (by decide) rfl (by decide) rfl ?_) ?_
    rotate_left
    (conv in hold _ => simp (disch := omega) only [go_sem, t1, Nat.le_refl])
    refine fin_wk (wk_frzO 2000004 3000002 (by decide) (by decide) rfl (by decide) rfl ?_) ?_
    rotate_left
    (conv in hold _ => simp (disch := omega) only [go_sem, t2, Nat.le_refl])
    all_goals first
      | exact es_pur _
      | exact ints_pur _
      | skip
    refine fin_L [1000000, 1000001] ?_ ?_ rfl ?_
    repeat' (first | (conv in hold _ => simp (disch := omega) only [go_sem]) | exact True.intro | exact Sub.refl _ | omega)
  by_cases hk2 : k = 2
  · obtain ⟨v, hv, _⟩ := one_ok hs (q + 1) (by omega) [0, 9] (by decide) (by decide)
    have t4 : (x.cs.map I ++ [I v]) = (x.cs ++ [v]).map I := by rw [List.map_append]; rfl
    have t5 : ((x.cs ++ [v]).map I).take (x.cs.length + 1) = (x.cs ++ [v]).map I := take_allL I _ (by rw [List.length_append]; rfl)
    refine ⟨.mk x.k x.t x.es (x.cs ++ [v]) x.ks, q + 2, ?_, by omega, by omega, ?_, fun _ => by rw [rb_eq] at hrb ⊢; exact hrb⟩
    · refine does c_spec_anyPlan mixed (Nat.le_of_ble_eq_true rfl) 2 rfl ?_
      conv => arg 3; whnf
      repeat' (first
        | with_reducible refine acc_none ?_ | (conv in hold _ => simp (disch := omega) only [go_sem, t2]) | refine Stp.go ?_ | (with_reducible first | refine it_pos rfl ?_ | refine it_neg (by decide) ?_ | refine st_nil rfl ?_ | refine s_op ?_ ?_ | exact True.intro) | ((with_reducible first | refine dw_reg0 ?_ | refine dw_regB ?_); (conv => arg 3; whnf)) | (refine Spl.go (fun hq he => ?_) (fun hq he => ?_) <;> first | (exfalso; clear hq; omega) | ((try (first | (conv => arg 8; simp only [hq]) | (conv => arg 4; simp only [hq]))); clear hq)) | ((with_reducible first | refine c_split (fun hq => ?_) (fun hq => ?_) | refine q_split (fun hq => ?_) (fun hq => ?_)) <;> (try (first | (conv => arg 8; simp only [hq]) | (conv => arg 4; simp only [hq]))))
        | (with_reducible show evC _ _ _ _ _ _ _ _ _ _ _ _
           first
           | (refine c_doesR [1000000, 1000001, 3000001, 3000002] (hx) (callOK_of rfl (Nat.le_of_ble_eq_true rfl) rfl ?_ ?_) ?_ ?_
              iterate 2 · repeat' (first | (conv in hold _ => simp (disch := omega) only [go_sem, t2]) | exact True.intro | exact Sub.refl _ | omega)
              · ((conv => rhs; simp (disch := omega) only [go_sem, t2]); try rfl))
           | (refine c_doesR [1000000] (hk) (callOK_of rfl (Nat.le_of_ble_eq_true rfl) rfl ?_ ?_) ?_ ?_
              iterate 2 · repeat' (first | (conv in hold _ => simp (disch := omega) only [go_sem, t2]) | exact True.intro | exact Sub.refl _ | omega)
              · ((conv => rhs; simp (disch := omega) only [go_sem, t2]); try rfl))
           | (refine c_doesR [1000000] (hv) (callOK_of rfl (Nat.le_of_ble_eq_true rfl) rfl ?_ ?_) ?_ ?_
              iterate 2 · repeat' (first | (conv in hold _ => simp (disch := omega) only [go_sem, t2]) | exact True.intro | exact Sub.refl _ | omega)
              · ((conv => rhs; simp (disch := omega) only [go_sem, t2]); try rfl)))
        | exact Sub.refl _ | omega)
      refine fin_wk (wk_frzO 2000004 3000001 (by decide) (by decide) rfl (by decide) rfl ?_) ?_
      rotate_left
      (conv in hold _ => simp (disch := omega) only [go_sem, t1, Nat.le_refl])
      refine fin_wk (wk_frzO 2000004 2000031 (by decide) (by decide) rfl (by decide) rfl ?_) ?_
      rotate_left
      (conv in hold _ => simp (disch := omega) only [go_sem, t2, t4, t5, Nat.le_refl])
      all_goals first
        | exact es_pur _
        | exact ints_pur _
        | (show D.purL (x.cs.map I ++ [I v]) = true; rw [t4]; exact ints_pur _)
        | skip
      refine fin_L [1000000, 1000001] ?_ ?_ rfl ?_
      repeat' (first | (conv in hold _ => simp (disch := omega) only [go_sem]) | exact True.intro | exact Sub.refl _ | omega)
    · rw [psz_eq]
      show eszL x.es + (x.cs ++ [v]).length + pszL x.ks ≤ _
      rw [List.length_append, List.length_singleton]
      omega
  by_cases hk3 : k = 3
  · have hel := eszL_len x.es
    obtain ⟨e, q2, hae, he0, he1, hez⟩ := anyExpr_ok hs 2 (by omega) (q + 1) (by omega)
    have t4 : (x.es.map eD ++ [.agg [I e.k, I e.c, Bo e.v.b, I e.v.n, .sl 5 (e.ks.map eD)]]) = (x.es ++ [e]).map eD := by rw [← eD_eq, List.map_append]; rfl
    have t5 : ((x.es ++ [e]).map eD).take (x.es.length + 1) = (x.es ++ [e]).map eD := take_allL eD _ (by rw [List.length_append]; rfl)
    refine ⟨.mk x.k x.t (x.es ++ [e]) x.cs x.ks, q2, ?_, by omega, by omega, ?_, fun _ => by rw [rb_eq] at hrb ⊢; exact hrb⟩
    · refine does c_spec_anyPlan mixed (Nat.le_of_ble_eq_true rfl) 2 rfl ?_
      conv => arg 3; whnf
      repeat' (first
        | with_reducible refine acc_none ?_ | (conv in hold _ => simp (disch := omega) only [go_sem, t1]) | refine Stp.go ?_ | (with_reducible first | refine it_pos rfl ?_ | refine it_neg (by decide) ?_ | refine st_nil rfl ?_ | refine s_op ?_ ?_ | exact True.intro) | ((with_reducible first | refine dw_reg0 ?_ | refine dw_regB ?_); (conv => arg 3; whnf)) | (refine Spl.go (fun hq he => ?_) (fun hq he => ?_) <;> first | (exfalso; clear hq; omega) | ((try (first | (conv => arg 8; simp only [hq]) | (conv => arg 4; simp only [hq]))); clear hq)) | ((with_reducible first | refine c_split (fun hq => ?_) (fun hq => ?_) | refine q_split (fun hq => ?_) (fun hq => ?_)) <;> (try (first | (conv => arg 8; simp only [hq]) | (conv => arg 4; simp only [hq]))))
        | (with_reducible show evC _ _ _ _ _ _ _ _ _ _ _ _
           first
           | (refine c_doesR [1000000, 1000001, 3000001, 3000002] (hx) (callOK_of rfl (Nat.le_of_ble_eq_true rfl) rfl ?_ ?_) ?_ ?_
              iterate 2 · repeat' (first | (conv in hold _ => simp (disch := omega) only [go_sem, t1]) | exact True.intro | exact Sub.refl _ | omega)
              · ((conv => rhs; simp (disch := omega) only [go_sem, t1]); try rfl))
           | (refine c_doesR [1000000] (hk) (callOK_of rfl (Nat.le_of_ble_eq_true rfl) rfl ?_ ?_) ?_ ?_
              iterate 2 · repeat' (first | (conv in hold _ => simp (disch := omega) only [go_sem, t1]) | exact True.intro | exact Sub.refl _ | omega)
              · ((conv => rhs; simp (disch := omega) only [go_sem, t1]); try rfl))
           | (refine c_doesR [1000000] (hae) (callOK_of rfl (Nat.le_of_ble_eq_true rfl) rfl ?_ ?_) ?_ ?_
              iterate 2 · repeat' (first | (conv in hold _ => simp (disch := omega) only [go_sem, t1]) | exact True.intro | exact Sub.refl _ | omega)
              · ((conv => rhs; simp (disch := omega) only [go_sem, t1]); try rfl)))
        | exact Sub.refl _ | omega)
      refine fin_wk (wk_frzO 2000004 2000040 (by decide) (by decide) rfl (by decide) rfl ?_) ?_
      rotate_left
      (conv in hold _ => simp (disch := omega) only [go_sem, t1, t4, t5, Nat.le_refl])
      refine fin_wk (wk_frzO 2000004 3000002 (by decide) (by decide) rfl (by decide) rfl ?_) ?_
      rotate_left
      (conv in hold _ => simp (disch := omega) only [go_sem, t2, Nat.le_refl])
      all_goals first
        | exact es_pur _
        | exact ints_pur _
        | (rw [t4]; exact es_pur _)
        | skip
      refine fin_L [1000000, 1000001] ?_ ?_ rfl ?_
      repeat' (first | (conv in hold _ => simp (disch := omega) only [go_sem]) | exact True.intro | exact Sub.refl _ | omega)
    · rw [psz_eq]
      show eszL (x.es ++ [e]) + x.cs.length + pszL x.ks ≤ _
      rw [eszL_append, eszL_1]
      omega
  · refine ⟨x, q + 1, ?_, by omega, by omega, by rw [psz_eq]; omega, fun _ => hrb⟩
    refine does c_spec_anyPlan mixed (Nat.le_of_ble_eq_true rfl) 2 rfl ?_
    conv => arg 3; whnf
    repeat' (first
      | with_reducible refine acc_none ?_ | (conv in hold _ => simp (disch := omega) only [go_sem]) | refine Stp.go ?_ | (with_reducible first | refine it_pos rfl ?_ | refine it_neg (by decide) ?_ | refine st_nil rfl ?_ | refine s_op ?_ ?_ | exact True.intro) | ((with_reducible first | refine dw_reg0 ?_ | refine dw_regB ?_); (conv => arg 3; whnf)) | (refine Spl.go (fun hq he => ?_) (fun hq he => ?_) <;> first | (exfalso; clear hq; omega) | ((try (first | (conv => arg 8; simp only [hq]) | (conv => arg 4; simp only [hq]))); clear hq)) | ((with_reducible first | refine c_split (fun hq => ?_) (fun hq => ?_) | refine q_split (fun hq => ?_) (fun hq => ?_)) <;> (try (first | (conv => arg 8; simp only [hq]) | (conv => arg 4; simp only [hq]))))
      | (with_reducible show evC _ _ _ _ _ _ _ _ _ _ _ _
         first
         | (refine c_doesR [1000000, 1000001, 3000001, 3000002] (hx) (callOK_of rfl (Nat.le_of_ble_eq_true rfl) rfl ?_ ?_) ?_ ?_
            iterate 2 · repeat' (first | (conv in hold _ => simp (disch := omega) only [go_sem]) | exact True.intro | exact Sub.refl _ | omega)
            · ((conv => rhs; simp (disch := omega) only [go_sem]); try rfl))
         | (refine c_doesR [1000000] (hk) (callOK_of rfl (Nat.le_of_ble_eq_true rfl) rfl ?_ ?_) ?_ ?_
            iterate 2 · repeat' (first | (conv in hold _ => simp (disch := omega) only [go_sem]) | exact True.intro | exact Sub.refl _ | omega)
            · ((conv => rhs; simp (disch := omega) only [go_sem]); try rfl)))
      | exact Sub.refl _ | omega)
    refine fin_wk (wk_frzO 2000004 3000001 (by decide) (by decide) rfl (by decide) rfl ?_) ?_
    rotate_left
    (conv in hold _ => simp (disch := omega) only [go_sem, t1, Nat.le_refl])
    refine fin_wk (wk_frzO 2000004 3000002 (by decide) (by decide) rfl (by decide) rfl ?_) ?_
    rotate_left
    (conv in hold _ => simp (disch := omega) only [go_sem, t2, Nat.le_refl])
    all_goals first
      | exact es_pur _
      | exact ints_pur _
      | skip
    refine fin_L [1000000, 1000001] ?_ ?_ rfl ?_
    repeat' (first | (conv in hold _ => simp (disch := omega) only [go_sem]) | exact True.intro | exact Sub.refl _ | omega)
theorem planAndWidths_ok {bs : List Nat} (hs : Src bs) (p : Nat) (hp : p < 80000000) : ∃ (x : Pl) (ws : List Int) (q : Nat), Does Try.prog 15 [rdD bs p] [.ref 1000000 0] (.tup [pD x, intsD ws]) [rdD bs q] ∧ (2 ≤ ws.length ∧ ws.length ≤ 3) ∧ (∀ (i : Nat) (w : Int), ws[i]? = some w → 0 ≤ w ∧ w ≤ 7) ∧ psz x ≤ 11100 ∧ p ≤ q ∧ q ≤ p + 24000 := by
  obtain ⟨ws, q, ⟨hw, hl, hr⟩, hq0, hq1⟩ := randomWidths_own hs p (by omega)
  have hwo : wsOk ws := ⟨by omega, fun i w h => by have := hr i w h; omega⟩
  obtain ⟨x, q2, hx, hx0, hx1, hz, _⟩ := anyPlan_ok hs hwo q (by omega)
  obtain ⟨k, hk, k0, k1, _⟩ := pick_ok hs q2 (by omega) 18 (by omega)
  by_cases hk0 : k = 0
  · obtain ⟨v, hv, hm⟩ := one_ok hs (q2 + 1) (by omega) [0, 7, 1] (by decide) (by decide)
    simp only [List.mem_cons, List.not_mem_nil, or_false] at hm
    have hpos : (ws.map I)[0]? = some (I (ws[0]'(by omega))) := by
      rw [List.getElem?_map, List.getElem?_eq_getElem (by omega)]
      rfl
    have hsi : (ws.map I).set 0 (I v) = (ws.set 0 v).map I := by rw [List.map_set]
    have t3 : ((ws.set 0 v).map I).take ws.length = (ws.set 0 v).map I := take_allL I _ (by rw [List.length_set])
    refine ⟨x, ws.set 0 v, q2 + 2, ?_, by rw [List.length_set]; exact hl, fun i w hi => ?_, hz, by omega, by omega⟩
    · refine does c_spec_planAndWidths mixed (Nat.le_of_ble_eq_true rfl) 1 rfl ?_
      conv => arg 3; whnf
      repeat' (first
        | with_reducible refine acc_none ?_ | (conv in hold _ => simp (disch := omega) only [go_sem, hpos]) | refine Stp.go ?_ | (with_reducible first | refine it_pos rfl ?_ | refine it_neg (by decide) ?_ | refine st_nil rfl ?_ | refine s_op ?_ ?_ | exact True.intro) | ((with_reducible first | refine dw_reg0 ?_ | refine dw_regB ?_); (conv => arg 3; whnf)) | (refine Spl.go (fun hq he => ?_) (fun hq he => ?_) <;> first | (exfalso; clear hq; omega) | ((try (first | (conv => arg 8; simp only [hq]) | (conv => arg 4; simp only [hq]))); clear hq)) | ((with_reducible first | refine c_split (fun hq => ?_) (fun hq => ?_) | refine q_split (fun hq => ?_) (fun hq => ?_)) <;> (try (first | (conv => arg 8; simp only [hq]) | (conv => arg 4; simp only [hq]))))
        | (with_reducible show evC _ _ _ _ _ _ _ _ _ _ _ _
           first
           | (refine c_doesR [1000000, 3000001] (hw) (callOK_of rfl (Nat.le_of_ble_eq_true rfl) rfl ?_ ?_) ?_ ?_
              iterate 2 · repeat' (first | (conv in hold _ => simp (disch := omega) only [go_sem, hpos]) | exact True.intro | exact Sub.refl _ | omega)
              · ((conv => rhs; simp (disch := omega) only [go_sem, hpos]); try rfl))
           | (refine c_doesR [1000000, 3000001] (hx) (callOK_of rfl (Nat.le_of_ble_eq_true rfl) rfl ?_ ?_) ?_ ?_
              iterate 2 · repeat' (first | (conv in hold _ => simp (disch := omega) only [go_sem, hpos]) | exact True.intro | exact Sub.refl _ | omega)
              · ((conv => rhs; simp (disch := omega) only [go_sem, hpos]); try rfl))
           | (refine c_doesR [1000000] (hk) (callOK_of rfl (Nat.le_of_ble_eq_true rfl) rfl ?_ ?_) ?_ ?_
              iterate 2 · repeat' (first | (conv in hold _ => simp (disch := omega) only [go_sem, hpos]) | exact True.intro | exact Sub.refl _ | omega)
              · ((conv => rhs; simp (disch := omega) only [go_sem, hpos]); try rfl))
           | (refine c_doesR [1000000] (hv) (callOK_of rfl (Nat.le_of_ble_eq_true rfl) rfl ?_ ?_) ?_ ?_
              iterate 2 · repeat' (first | (conv in hold _ => simp (disch := omega) only [go_sem, hpos]) | exact True.intro | exact Sub.refl _ | omega)
              · ((conv => rhs; simp (disch := omega) only [go_sem, hpos]); try rfl)))
        | exact Sub.refl _ | omega)
      refine fin_wk (wk_frz 3 3000001 (by decide) (by decide) rfl ?_) ?_
      rotate_left
      (conv in hold _ => simp (disch := omega) only [go_sem, hsi, t3, List.length_set, Nat.le_refl])
      · refine fin_L [1000000] ?_ ?_ rfl ?_
        repeat' (first | (conv in hold _ => simp (disch := omega) only [go_sem]) | exact True.intro | exact Sub.refl _ | omega)
      · show D.purL ((ws.map I).set 0 (I v)) = true
        rw [hsi]
        exact ints_pur _
    · rcases List.mem_or_eq_of_mem_set (List.mem_of_getElem? hi) with h | h
      · obtain ⟨j, hj, he⟩ := List.getElem_of_mem h
        have := hr j w (by rw [List.getElem?_eq_getElem hj, he])
        omega
      · omega
  · have t3 := take_allL I ws rfl
    refine ⟨x, ws, q2 + 1, ?_, hl, fun i w hi => by have := hr i w hi; omega, hz, by omega, by omega⟩
    refine does c_spec_planAndWidths mixed (Nat.le_of_ble_eq_true rfl) 1 rfl ?_
    conv => arg 3; whnf
    repeat' (first
      | with_reducible refine acc_none ?_ | (conv in hold _ => simp (disch := omega) only [go_sem]) | refine Stp.go ?_ | (with_reducible first | refine it_pos rfl ?_ | refine it_neg (by decide) ?_ | refine st_nil rfl ?_ | refine s_op ?_ ?_ | exact True.intro) | ((with_reducible first | refine dw_reg0 ?_ | refine dw_regB ?_); (conv => arg 3; whnf)) | (refine Spl.go (fun hq he => ?_) (fun hq he => ?_) <;> first | (exfalso; clear hq; omega) | ((try (first | (conv => arg 8; simp only [hq]) | (conv => arg 4; simp only [hq]))); clear hq)) | ((with_reducible first | refine c_split (fun hq => ?_) (fun hq => ?_) | refine q_split (fun hq => ?_) (fun hq => ?_)) <;> (try (first | (conv => arg 8; simp only [hq]) | (conv => arg 4; simp only [hq]))))
      | (with_reducible show evC _ _ _ _ _ _ _ _ _ _ _ _
         first
         | (refine c_doesR [1000000, 3000001] (hw) (callOK_of rfl (Nat.le_of_ble_eq_true rfl) rfl ?_ ?_) ?_ ?_
            iterate 2 · repeat' (first | (conv in hold _ => simp (disch := omega) only [go_sem]) | exact True.intro | exact Sub.refl _ | omega)
            · ((conv => rhs; simp (disch := omega) only [go_sem]); try rfl))
         | (refine c_doesR [1000000, 3000001] (hx) (callOK_of rfl (Nat.le_of_ble_eq_true rfl) rfl ?_ ?_) ?_ ?_
            iterate 2 · repeat' (first | (conv in hold _ => simp (disch := omega) only [go_sem]) | exact True.intro | exact Sub.refl _ | omega)
            · ((conv => rhs; simp (disch := omega) only [go_sem]); try rfl))
         | (refine c_doesR [1000000] (hk) (callOK_of rfl (Nat.le_of_ble_eq_true rfl) rfl ?_ ?_) ?_ ?_
            iterate 2 · repeat' (first | (conv in hold _ => simp (disch := omega) only [go_sem]) | exact True.intro | exact Sub.refl _ | omega)
            · ((conv => rhs; simp (disch := omega) only [go_sem]); try rfl)))
      | exact Sub.refl _ | omega)
    refine fin_wk (wk_frz 3 3000001 (by decide) (by decide) rfl ?_) ?_
    rotate_left
    (conv in hold _ => simp (disch := omega) only [go_sem, t3, Nat.le_refl])
    · refine fin_L [1000000] ?_ ?_ rfl ?_
      repeat' (first | (conv in hold _ => simp (disch := omega) only [go_sem]) | exact True.intro | exact Sub.refl _ | omega)
    · exact ints_pur _
end Go.Proofs.Ytikfanemeglcoaa
set_option maxHeartbeats 4000000
set_option maxRecDepth 100000
set_option linter.unusedVariables false
set_option linter.unusedSimpArgs false
namespace Go.Proofs.Ytikfanemeglcoaa
open Go.RowKit

theorem I_sub1 (i n : Nat) : I ((n : Int) - i - 1) = I ((n : Int) - (i + 1)) := congrArg I (by omega)
theorem somePath_ok {bs : List Nat} (hs : Src bs) (p : Nat) (hp : p < 600000000) : ∃ (l : List Int) (q : Nat), Does Try.prog 16 [rdD bs p] [.ref 1000000 0] (intsD l) [rdD bs q] ∧ l.length ≤ 3 ∧ p ≤ q ∧ q ≤ p + 10 := by
  obtain ⟨k, hk, k0, k1, _⟩ := pick_ok hs p (by omega) 4 (by omega)
  have hk1 := k1 (by omega)
  obtain ⟨n, rfl⟩ := Int.eq_ofNat_of_zero_le k0
  obtain ⟨xs, ps, hl, h0, hd, hp0, hp1⟩ := draws (fun p (x : Int) q => q = p + 1 ∧ Does Try.prog 32 [rdD bs p] [.ref 1000000 0, .sl 1 ([0, 0, 0, 1, 2, -1].map I)] (I x) [rdD bs q]) 700000000 1 (fun p hp => by
    obtain ⟨x, hx, _⟩ := one_ok hs p (by omega) [0, 0, 0, 1, 2, -1] (by decide) (by decide)
    exact ⟨x, p + 1, ⟨rfl, hx⟩, by omega, by omega⟩) n (p + 1) (by omega)
  refine ⟨xs, ps n, ?_, by omega, by omega, by omega⟩
  refine does c_spec_somePath mixed (Nat.le_of_ble_eq_true rfl) 1 rfl ?_
  conv => arg 3; whnf
  repeat' (first | with_reducible refine acc_none ?_ | (conv in hold _ => simp (disch := omega) only [go_sem]) | refine Stp.go ?_ | (with_reducible first | refine it_pos rfl ?_ | refine it_neg (by decide) ?_ | refine st_nil rfl ?_ | refine s_op ?_ ?_ | exact True.intro) | ((with_reducible first | refine dw_reg0 ?_ | refine dw_regB ?_); (conv => arg 3; whnf)) | (refine Spl.go (fun hq he => ?_) (fun hq he => ?_) <;> first | (exfalso; clear hq; omega) | ((try (first | (conv => arg 8; simp only [hq]) | (conv => arg 4; simp only [hq]))); clear hq)) | ((with_reducible first | refine c_split (fun hq => ?_) (fun hq => ?_) | refine q_split (fun hq => ?_) (fun hq => ?_)) <;> (try (first | (conv => arg 8; simp only [hq]) | (conv => arg 4; simp only [hq])))) | (with_reducible refine fin_0 ?_ (by first | rfl | (conv => lhs; simp only [go_sem])) ?_) | exact Sub.refl _ | omega)
  refine c_doesR [1000000] (hk) (callOK_of rfl (Nat.le_of_ble_eq_true rfl) rfl ?_ ?_) ?_ ?_
  · repeat' (first | (conv in hold _ => simp (disch := omega) only [go_sem]) | exact True.intro | exact Sub.refl _ | omega)
  · repeat' (first | (conv in hold _ => simp (disch := omega) only [go_sem]) | exact True.intro | exact Sub.refl _ | omega)
  · ((conv => rhs; simp (disch := omega) only [go_sem]); try rfl)
  repeat' (first | with_reducible refine acc_none ?_ | (conv in hold _ => simp (disch := omega) only [go_sem]) | refine Stp.go ?_ | (with_reducible first | refine it_pos rfl ?_ | refine it_neg (by decide) ?_ | refine st_nil rfl ?_ | refine s_op ?_ ?_ | exact True.intro) | ((with_reducible first | refine dw_reg0 ?_ | refine dw_regB ?_); (conv => arg 3; whnf)) | (refine Spl.go (fun hq he => ?_) (fun hq he => ?_) <;> first | (exfalso; clear hq; omega) | ((try (first | (conv => arg 8; simp only [hq]) | (conv => arg 4; simp only [hq]))); clear hq)) | ((with_reducible first | refine c_split (fun hq => ?_) (fun hq => ?_) | refine q_split (fun hq => ?_) (fun hq => ?_)) <;> (try (first | (conv => arg 8; simp only [hq]) | (conv => arg 4; simp only [hq])))) | (with_reducible refine fin_0 ?_ (by first | rfl | (conv => lhs; simp only [go_sem])) ?_) | exact Sub.refl _ | omega)
  refine dw_for (c := 2) (l := fun i => [(0, .ref 1000000 0), (3, .own 1000001 1 i), (4, I ((n : Int) - i)), (1000000, rdD bs (ps i)), (1000001, .row 1 ((xs.take i).map I))]) n (fun _ => True) 0 trivial ((wk_row 3 2000017 1 (by decide) (by decide) rfl rfl).trans (Wk.list [1000000, 2000017] rfl rfl ?_)) (fun i hi _ => ?_) (Nat.zero_le _)
  · rw [h0]
    repeat' (first | (conv in hold _ => simp (disch := omega) only [go_sem]) | exact True.intro | exact Sub.refl _ | omega)
    (repeat' apply And.intro) <;> rfl
  · have htl : (xs.take i).length = i := by rw [List.length_take]; omega
    have hmt := take_map I (vs := xs) (i := i) (by omega)
    by_cases hil : i < n
    · obtain ⟨v, hv⟩ : ∃ v, xs[i]? = some v := ⟨_, List.getElem?_eq_getElem (by omega)⟩
      have hdi := hd i v hv
      have hnx := take_next hv
      repeat' (first | with_reducible refine acc_none ?_ | (conv in hold _ => simp (disch := omega) only [go_sem]) | refine Stp.go ?_ | (with_reducible first | refine it_pos rfl ?_ | refine it_neg (by decide) ?_ | refine st_nil rfl ?_ | refine s_op ?_ ?_ | exact True.intro) | ((with_reducible first | refine dw_reg0 ?_ | refine dw_regB ?_); (conv => arg 3; whnf)) | (refine Spl.go (fun hq he => ?_) (fun hq he => ?_) <;> first | (exfalso; clear hq; omega) | ((try (first | (conv => arg 8; simp only [hq]) | (conv => arg 4; simp only [hq]))); clear hq)) | ((with_reducible first | refine c_split (fun hq => ?_) (fun hq => ?_) | refine q_split (fun hq => ?_) (fun hq => ?_)) <;> (try (first | (conv => arg 8; simp only [hq]) | (conv => arg 4; simp only [hq])))) | (with_reducible refine fin_0 ?_ (by first | rfl | (conv => lhs; simp only [go_sem])) ?_) | exact Sub.refl _ | omega)
      refine c_doesR [1000000] (hdi.2) (callOK_of rfl (Nat.le_of_ble_eq_true rfl) rfl ?_ ?_) ?_ ?_
      · repeat' (first | (conv in hold _ => simp (disch := omega) only [go_sem]) | exact True.intro | exact Sub.refl _ | omega)
      · repeat' (first | (conv in hold _ => simp (disch := omega) only [go_sem]) | exact True.intro | exact Sub.refl _ | omega)
      · ((conv => rhs; simp (disch := omega) only [go_sem]); try rfl)
      repeat' (first | with_reducible refine acc_none ?_ | (conv in hold _ => simp (disch := omega) only [go_sem]) | refine Stp.go ?_ | (with_reducible first | refine it_pos rfl ?_ | refine it_neg (by decide) ?_ | refine st_nil rfl ?_ | refine s_op ?_ ?_ | exact True.intro) | ((with_reducible first | refine dw_reg0 ?_ | refine dw_regB ?_); (conv => arg 3; whnf)) | (refine Spl.go (fun hq he => ?_) (fun hq he => ?_) <;> first | (exfalso; clear hq; omega) | ((try (first | (conv => arg 8; simp only [hq]) | (conv => arg 4; simp only [hq]))); clear hq)) | ((with_reducible first | refine c_split (fun hq => ?_) (fun hq => ?_) | refine q_split (fun hq => ?_) (fun hq => ?_)) <;> (try (first | (conv => arg 8; simp only [hq]) | (conv => arg 4; simp only [hq])))) | (with_reducible refine fin_0 ?_ (by first | rfl | (conv => lhs; simp only [go_sem])) ?_) | exact Sub.refl _ | omega)
      refine ⟨hil, trivial, Wk.list [1000000, 2000017] rfl rfl ?_⟩
      repeat' (first | (conv in hold _ => simp (disch := omega) only [go_sem, List.length_map, htl]) | exact True.intro | exact Sub.refl _ | omega)
      exact ⟨I_sub1 i n, by rw [hmt, hnx, List.map_append]; rfl⟩
    · obtain rfl : i = n := by omega
      have e1 : xs.take i = xs := List.take_of_length_le (by omega)
      have e2 : (xs.map I).take i = xs.map I := List.take_of_length_le (by rw [List.length_map]; omega)
      have e0 : (i : Int) - (i : Int) = 0 := by omega
      have e4 : (xs.map I).length = i := by rw [List.length_map]; omega
      repeat' (first | with_reducible refine acc_none ?_ | (conv in hold _ => simp (disch := omega) only [go_sem, e1, e0]) | refine Stp.go ?_ | (with_reducible first | refine it_pos rfl ?_ | refine it_neg (by decide) ?_ | refine st_nil rfl ?_ | refine s_op ?_ ?_ | exact True.intro) | ((with_reducible first | refine dw_reg0 ?_ | refine dw_regB ?_); (conv => arg 3; whnf)) | (refine Spl.go (fun hq he => ?_) (fun hq he => ?_) <;> first | (exfalso; clear hq; omega) | ((try (first | (conv => arg 8; simp only [hq]) | (conv => arg 4; simp only [hq]))); clear hq)) | ((with_reducible first | refine c_split (fun hq => ?_) (fun hq => ?_) | refine q_split (fun hq => ?_) (fun hq => ?_)) <;> (try (first | (conv => arg 8; simp only [hq]) | (conv => arg 4; simp only [hq])))) | exact Sub.refl _ | omega)
      refine fin_wk (wk_frz 2 1000001 (by decide) (by decide) rfl ?_) ?_
      rotate_left
      (conv in hold _ => simp (disch := omega) only [go_sem, e2, e4, Nat.le_refl])
      · refine fin_L [1000000] ?_ ?_ rfl ?_
        repeat' (first | (conv in hold _ => simp (disch := omega) only [go_sem, intsD]) | exact True.intro | exact Sub.refl _ | omega)
      · exact ints_pur _
theorem DrawPlanAt_ok (cs : List Nat) (hc : ∀ b, b ∈ cs → b < 256) : ∃ (p : Pl) (l : List Int), Does Try.prog 5 [] [bytesD cs] (.tup [pD p, intsD l]) [] ∧ psz p ≤ 11100 ∧ l.length ≤ 3 := by
  have hs : Src (cs.take 2000) := ⟨fun b hb => hc b (List.mem_of_mem_take hb), by rw [List.length_take]; omega⟩
  have hr := newReader_ok cs
  obtain ⟨p, ws, q, hp, _, _, hz, hq0, hq1⟩ := planAndWidths_ok hs 0 (by decide)
  obtain ⟨l, q2, hl, hll, _, _⟩ := somePath_ok hs q (by omega)
  refine ⟨p, l, ?_, hz, hll⟩
  refine does0 c_spec_DrawPlanAt mixed (Nat.le_of_ble_eq_true rfl) ?_
  conv => arg 3; whnf
  repeat' (first | with_reducible refine acc_none ?_ | (conv in hold _ => simp (disch := omega) only [go_sem]) | refine Stp.go ?_ | (with_reducible first | refine it_pos rfl ?_ | refine it_neg (by decide) ?_ | refine st_nil rfl ?_ | refine s_op ?_ ?_ | exact True.intro) | ((with_reducible first | refine dw_reg0 ?_ | refine dw_regB ?_); (conv => arg 3; whnf)) | (refine Spl.go (fun hq he => ?_) (fun hq he => ?_) <;> first | (exfalso; clear hq; omega) | ((try (first | (conv => arg 8; simp only [hq]) | (conv => arg 4; simp only [hq]))); clear hq)) | ((with_reducible first | refine c_split (fun hq => ?_) (fun hq => ?_) | refine q_split (fun hq => ?_) (fun hq => ?_)) <;> (try (first | (conv => arg 8; simp only [hq]) | (conv => arg 4; simp only [hq])))) | (with_reducible refine fin_0 ?_ (by first | rfl | (conv => lhs; simp only [go_sem])) ?_) | exact Sub.refl _ | omega)
  refine c_doesR [3000001] (hr) (callOK_of rfl (Nat.le_of_ble_eq_true rfl) rfl ?_ ?_) ?_ ?_
  · repeat' (first | (conv in hold _ => simp (disch := omega) only [go_sem]) | exact True.intro | exact Sub.refl _ | omega)
  · repeat' (first | (conv in hold _ => simp (disch := omega) only [go_sem]) | exact True.intro | exact Sub.refl _ | omega)
  · ((conv => rhs; simp (disch := omega) only [go_sem]); try rfl)
  repeat' (first | with_reducible refine acc_none ?_ | (conv in hold _ => simp (disch := omega) only [go_sem]) | refine Stp.go ?_ | (with_reducible first | refine it_pos rfl ?_ | refine it_neg (by decide) ?_ | refine st_nil rfl ?_ | refine s_op ?_ ?_ | exact True.intro) | ((with_reducible first | refine dw_reg0 ?_ | refine dw_regB ?_); (conv => arg 3; whnf)) | (refine Spl.go (fun hq he => ?_) (fun hq he => ?_) <;> first | (exfalso; clear hq; omega) | ((try (first | (conv => arg 8; simp only [hq]) | (conv => arg 4; simp only [hq]))); clear hq)) | ((with_reducible first | refine c_split (fun hq => ?_) (fun hq => ?_) | refine q_split (fun hq => ?_) (fun hq => ?_)) <;> (try (first | (conv => arg 8; simp only [hq]) | (conv => arg 4; simp only [hq])))) | (with_reducible refine fin_0 ?_ (by first | rfl | (conv => lhs; simp only [go_sem])) ?_) | exact Sub.refl _ | omega)
  refine c_doesR [3000001] (hp) (callOK_of rfl (Nat.le_of_ble_eq_true rfl) rfl ?_ ?_) ?_ ?_
  · repeat' (first | (conv in hold _ => simp (disch := omega) only [go_sem]) | exact True.intro | exact Sub.refl _ | omega)
  · repeat' (first | (conv in hold _ => simp (disch := omega) only [go_sem]) | exact True.intro | exact Sub.refl _ | omega)
  · ((conv => rhs; simp (disch := omega) only [go_sem]); try rfl)
  repeat' (first | with_reducible refine acc_none ?_ | (conv in hold _ => simp (disch := omega) only [go_sem]) | refine Stp.go ?_ | (with_reducible first | refine it_pos rfl ?_ | refine it_neg (by decide) ?_ | refine st_nil rfl ?_ | refine s_op ?_ ?_ | exact True.intro) | ((with_reducible first | refine dw_reg0 ?_ | refine dw_regB ?_); (conv => arg 3; whnf)) | (refine Spl.go (fun hq he => ?_) (fun hq he => ?_) <;> first | (exfalso; clear hq; omega) | ((try (first | (conv => arg 8; simp only [hq]) | (conv => arg 4; simp only [hq]))); clear hq)) | ((with_reducible first | refine c_split (fun hq => ?_) (fun hq => ?_) | refine q_split (fun hq => ?_) (fun hq => ?_)) <;> (try (first | (conv => arg 8; simp only [hq]) | (conv => arg 4; simp only [hq])))) | (with_reducible refine fin_0 ?_ (by first | rfl | (conv => lhs; simp only [go_sem])) ?_) | exact Sub.refl _ | omega)
  refine c_doesR [3000001] (hl) (callOK_of rfl (Nat.le_of_ble_eq_true rfl) rfl ?_ ?_) ?_ ?_
  · repeat' (first | (conv in hold _ => simp (disch := omega) only [go_sem]) | exact True.intro | exact Sub.refl _ | omega)
  · repeat' (first | (conv in hold _ => simp (disch := omega) only [go_sem]) | exact True.intro | exact Sub.refl _ | omega)
  · ((conv => rhs; simp (disch := omega) only [go_sem]); try rfl)
  repeat' (first | with_reducible refine acc_none ?_ | (conv in hold _ => simp (disch := omega) only [go_sem]) | refine Stp.go ?_ | (with_reducible first | refine it_pos rfl ?_ | refine it_neg (by decide) ?_ | refine st_nil rfl ?_ | refine s_op ?_ ?_ | exact True.intro) | ((with_reducible first | refine dw_reg0 ?_ | refine dw_regB ?_); (conv => arg 3; whnf)) | (refine Spl.go (fun hq he => ?_) (fun hq he => ?_) <;> first | (exfalso; clear hq; omega) | ((try (first | (conv => arg 8; simp only [hq]) | (conv => arg 4; simp only [hq]))); clear hq)) | ((with_reducible first | refine c_split (fun hq => ?_) (fun hq => ?_) | refine q_split (fun hq => ?_) (fun hq => ?_)) <;> (try (first | (conv => arg 8; simp only [hq]) | (conv => arg 4; simp only [hq])))) | (with_reducible refine fin_0 ?_ (by first | rfl | (conv => lhs; simp only [go_sem])) ?_) | exact Sub.refl _ | omega)
end Go.Proofs.Ytikfanemeglcoaa
