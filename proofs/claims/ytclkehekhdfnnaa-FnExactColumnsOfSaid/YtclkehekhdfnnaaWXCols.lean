/-
  The exact law of ColumnsOf. No condition.
-/
import Derived.Test.YtclkehekhdfnnaaDcWXCols
import Derived.Test.YtclkehekhdfnnaaDca
import Derived.Test.YtclkehekhdfnnaaVMkX
set_option maxHeartbeats 4000000
set_option maxRecDepth 100000
set_option linter.unusedVariables false
set_option linter.unusedSimpArgs false
namespace Go.Proofs.Ytclkehekhdfnnaa
open Go.RowKit

theorem flatD_ints (l : List Int) : flatD (l.map I) := flatD_map I l (fun a c hc => ⟨_, List.mem_singleton.1 hc⟩)
theorem flatD_mkI (k : Int) (n : Nat) : flatD ((List.range n).map (mkI k)) := flatD_map (mkI k) _ (fun a c hc => ⟨_, List.mem_singleton.1 hc⟩)
theorem colsX_t {e : E} (h : eOk e 6 8) : (colsX e).map I = colsL (occ e) 6 := by
  unfold colsX colsL
  rw [if_pos h, List.map_map]
  rfl
theorem colsX_f {e : E} (h : ¬ eOk e 6 8) : colsX e = [] := by unfold colsX; rw [if_neg h]
theorem colsX_len (e : E) : (colsX e).length ≤ 6 := by
  unfold colsX
  split
  · rw [List.length_map]; exact marked_len _ _
  · exact Nat.zero_le _
theorem ColumnsOf_all (e : E) : Does Try.prog 11 [] [eD e] (.sl 1 ((colsX e).map I)) [] := by
  by_cases h : eOk e 6 8
  · rw [colsX_t h]; exact ColumnsOf_impl e h
  · rw [colsX_f h]; exact (ColumnsOf_none e h).weak ⟨Sub.refl _, trivial⟩ (Sub.nul 1)
theorem ColumnsOf_allS (e : E) : Does Try.prog 9 [] [eD e] (.sl 1 ((colsX e).map I)) [] := by
  by_cases h : eOk e 6 8
  · rw [colsX_t h]; exact ColumnsOf_spec e h
  · rw [colsX_f h]; exact (ColumnsOf_noneS e h).weak ⟨Sub.refl _, trivial⟩ (Sub.nul 1)
theorem ColumnsOf_rc (e : E) : RCalls Try.prog 11 [] [eD e] [⟨0, 1, (colsX e).map I⟩] 1 (kD 0 1 ((colsX e).map I)) := by
  have hds : D.purL [eD e] = true := by rw [D.purL, eD_pur]; rfl
  by_cases h0 : colsX e = []
  · have h := ColumnsOf_all e
    rw [h0] at h ⊢
    exact rcalls_nil h hds rfl (fun it hit => by obtain rfl := List.mem_singleton.1 hit; rfl)
  · have h : eOk e 6 8 := Classical.byContradiction fun h => h0 (colsX_f h)
    have hm0 : (colsX e).map I ≠ [] := fun h => h0 (List.map_eq_nil_iff.1 h)
    have ho := ColumnsOf_own e h
    rw [← colsX_t h] at ho
    have h2 := rcalls_ans ho hds hm0 (flatD_ints _)
    unfold kD
    rw [if_neg hm0]
    exact h2
theorem markIntS_rc (c : List Int) (hl : c.length ≤ 1048576) (k : Int) (hk : 0 ≤ k ∧ k ≤ 1048576) : RCalls Try.prog 15 [⟨0, 1, c.map I⟩] [kD 0 1 (c.map I), I k] [⟨0, 1, (List.range c.length).map (mkI k)⟩] 1 (I (k + c.length)) := by
  by_cases h0 : c = []
  · subst h0
    have h := rcalls_nilP (pre := [⟨0, 1, []⟩]) (post := [⟨0, 1, []⟩]) (markIntS_nil k) rfl rfl (fun it hit => by obtain rfl := List.mem_singleton.1 hit; rfl)
    rw [show k + (([] : List Int).length : Int) = k from Int.add_zero k]
    exact h
  · have hm0 : c.map I ≠ [] := fun h => h0 (List.map_eq_nil_iff.1 h)
    have hm := markIntS_ok c hl k hk
    have hlm : (c.map I).length = c.length := List.length_map ..
    rw [← hlm] at hm
    have h := rcalls_upd hm rfl hm0 (by rw [List.length_map, List.length_range]) (flatD_ints _) (flatD_mkI _ _) rfl
    unfold kD
    rw [if_neg hm0]
    rw [hlm] at h ⊢
    exact h
theorem kD_lenE {es es' : List D} (h : es'.length = es.length) (κ s : Nat) : kD κ s es = kD κ s es' := by
  unfold kD
  by_cases h0 : es = []
  · rw [if_pos h0, if_pos (List.length_eq_zero_iff.1 (by rw [h, h0]; rfl))]
  · rw [if_neg h0, if_neg (fun e => h0 (List.length_eq_zero_iff.1 (by rw [← h, e]; rfl))), h]
/-- How the trees of the law stand. -/
noncomputable def colsF (e : E) : Fm where
  top i := match i with | 0 => 0 | 1 => 1 | _ => 2
  its i := match i with
    | 0 => []
    | 1 => [⟨0, 5, e.ks.map eD⟩]
    | 2 => [⟨1, 1, (colsX e).map I⟩, ⟨0, 5, e.ks.map eD⟩]
    | 3 => [⟨0, 5, (mkEL e.ks 1).map eD⟩, ⟨1, 1, (colsX e).map I⟩]
    | _ => [⟨1, 1, (List.range (colsX e).length).map (mkI 1)⟩, ⟨0, 5, (mkEL e.ks 1).map eD⟩]
theorem rc_FnExactColumnsOf (e : E) (hf : eszL e.ks ≤ 1048576) (hz : Does Try.prog 8 [] [eD e, I 1048576] (I (1048576 - eszL e.ks)) []) : RCalls Try.prog 3 [] [eD e] [⟨1, 1, (List.range (colsX e).length).map (mkI 1)⟩, ⟨0, 5, (mkEL e.ks 1).map eD⟩] 2 (Bo true) := by
  have hsz : esz e ≤ 1048577 := by rw [esz_eq]; omega
  have h1 := toExpr_ok e hsz
  have h2 := ColumnsOf_allS e
  have h3 := ColumnsOf_all e
  have hx := (toExpr_rc e hsz).top (t' := 1) (by unfold nk; split <;> omega)
  have hg := ColumnsOf_rc e
  have hc6 := colsX_len e
  have heq := eqIntS_ok (colsX e) (by omega)
  have hex := eqExpr_ok e hsz
  have hmk := markExpr_rc e 1 (by omega) hf
  have hmi := markIntS_rc (colsX e) (by omega) 1 (by omega)
  have hhe := heldIntS_ok (colsX e).length (by omega) 1 (by omega)
  refine rcalls_of c_laws_FnExactColumnsOf mixed (colsF e) 0 4 (fun κ => if κ < 2 then κ else 2000000) (Nat.le_of_ble_eq_true rfl) rfl rfl (List.Perm.refl _) (List.Perm.refl _) (fun it hit _ => ?_) (fun κ h => absurd h (Nat.not_lt_zero κ)) (fun κ hκ => ?_) (Nat.zero_le _) (by omega) (fun m0 => ?_)
  · simp only [List.mem_cons, List.not_mem_nil, or_false] at hit
    rcases hit with rfl | rfl
    · show 1 < 2; omega
    · show 0 < 2; omega
  · show nb ≤ if κ < 2 then κ else 2000000
    rw [if_neg (by omega)]; decide
  · conv => arg 3; whnf
    repeat' ((fail_if_success (with_reducible first | refine s_call ?_ | refine s_cal ?_ | refine s_inv ?_)); first | with_reducible refine acc_none ?_ | (conv in hold _ => simp (disch := omega) only [go_sem, beq_self_eq_true, bne_self_eq_false]) | refine Stp.go ?_ | (with_reducible first | refine it_pos rfl ?_ | refine it_neg (by decide) ?_ | refine st_nil rfl ?_ | refine s_op ?_ ?_ | exact True.intro) | ((with_reducible first | refine dw_reg0 ?_ | refine dw_regB ?_); (conv => arg 3; whnf)) | (refine Spl.go (fun hq he => ?_) (fun hq he => ?_) <;> first | (exfalso; clear hq; omega) | ((try (first | (conv => arg 8; simp only [hq]) | (conv => arg 4; simp only [hq]))); clear hq)) | ((with_reducible first | refine c_split (fun hq => ?_) (fun hq => ?_) | refine q_split (fun hq => ?_) (fun hq => ?_)) <;> (try (first | (conv => arg 8; simp only [hq]) | (conv => arg 4; simp only [hq])))) | (with_reducible refine fin_0 ?_ (by first | rfl | (conv => lhs; simp only [go_sem, beq_self_eq_true, bne_self_eq_false])) ?_) | exact Sub.refl _ | omega)
    refine s_call ?_
    refine c_doesE (hz) ?_ ?_ ?_
    · ((try (conv => rhs; simp (disch := omega) only [go_sem, beq_self_eq_true, bne_self_eq_false])); try rfl)
    · first | rfl | (conv => lhs; simp only [go_sem, beq_self_eq_true, bne_self_eq_false])
    repeat' ((fail_if_success (with_reducible first | refine s_call ?_ | refine s_cal ?_ | refine s_inv ?_)); first | with_reducible refine acc_none ?_ | (conv in hold _ => simp (disch := omega) only [go_sem, beq_self_eq_true, bne_self_eq_false]) | refine Stp.go ?_ | (with_reducible first | refine it_pos rfl ?_ | refine it_neg (by decide) ?_ | refine st_nil rfl ?_ | refine s_op ?_ ?_ | exact True.intro) | ((with_reducible first | refine dw_reg0 ?_ | refine dw_regB ?_); (conv => arg 3; whnf)) | (refine Spl.go (fun hq he => ?_) (fun hq he => ?_) <;> first | (exfalso; clear hq; omega) | ((try (first | (conv => arg 8; simp only [hq]) | (conv => arg 4; simp only [hq]))); clear hq)) | ((with_reducible first | refine c_split (fun hq => ?_) (fun hq => ?_) | refine q_split (fun hq => ?_) (fun hq => ?_)) <;> (try (first | (conv => arg 8; simp only [hq]) | (conv => arg 4; simp only [hq])))) | (with_reducible refine fin_0 ?_ (by first | rfl | (conv => lhs; simp only [go_sem, beq_self_eq_true, bne_self_eq_false])) ?_) | exact Sub.refl _ | omega)
    refine s_call ?_
    refine c_doesE (h1) ?_ ?_ ?_
    · ((try (conv => rhs; simp (disch := omega) only [go_sem, beq_self_eq_true, bne_self_eq_false])); try rfl)
    · first | rfl | (conv => lhs; simp only [go_sem, beq_self_eq_true, bne_self_eq_false])
    repeat' ((fail_if_success (with_reducible first | refine s_call ?_ | refine s_cal ?_ | refine s_inv ?_)); first | with_reducible refine acc_none ?_ | (conv in hold _ => simp (disch := omega) only [go_sem, beq_self_eq_true, bne_self_eq_false]) | refine Stp.go ?_ | (with_reducible first | refine it_pos rfl ?_ | refine it_neg (by decide) ?_ | refine st_nil rfl ?_ | refine s_op ?_ ?_ | exact True.intro) | ((with_reducible first | refine dw_reg0 ?_ | refine dw_regB ?_); (conv => arg 3; whnf)) | (refine Spl.go (fun hq he => ?_) (fun hq he => ?_) <;> first | (exfalso; clear hq; omega) | ((try (first | (conv => arg 8; simp only [hq]) | (conv => arg 4; simp only [hq]))); clear hq)) | ((with_reducible first | refine c_split (fun hq => ?_) (fun hq => ?_) | refine q_split (fun hq => ?_) (fun hq => ?_)) <;> (try (first | (conv => arg 8; simp only [hq]) | (conv => arg 4; simp only [hq])))) | (with_reducible refine fin_0 ?_ (by first | rfl | (conv => lhs; simp only [go_sem, beq_self_eq_true, bne_self_eq_false])) ?_) | exact Sub.refl _ | omega)
    refine s_call ?_
    refine c_doesE (h2) ?_ ?_ ?_
    · ((try (conv => rhs; simp (disch := omega) only [go_sem, beq_self_eq_true, bne_self_eq_false])); try rfl)
    · first | rfl | (conv => lhs; simp only [go_sem, beq_self_eq_true, bne_self_eq_false])
    repeat' ((fail_if_success (with_reducible first | refine s_call ?_ | refine s_cal ?_ | refine s_inv ?_)); first | with_reducible refine acc_none ?_ | (conv in hold _ => simp (disch := omega) only [go_sem, beq_self_eq_true, bne_self_eq_false]) | refine Stp.go ?_ | (with_reducible first | refine it_pos rfl ?_ | refine it_neg (by decide) ?_ | refine st_nil rfl ?_ | refine s_op ?_ ?_ | exact True.intro) | ((with_reducible first | refine dw_reg0 ?_ | refine dw_regB ?_); (conv => arg 3; whnf)) | (refine Spl.go (fun hq he => ?_) (fun hq he => ?_) <;> first | (exfalso; clear hq; omega) | ((try (first | (conv => arg 8; simp only [hq]) | (conv => arg 4; simp only [hq]))); clear hq)) | ((with_reducible first | refine c_split (fun hq => ?_) (fun hq => ?_) | refine q_split (fun hq => ?_) (fun hq => ?_)) <;> (try (first | (conv => arg 8; simp only [hq]) | (conv => arg 4; simp only [hq])))) | (with_reducible refine fin_0 ?_ (by first | rfl | (conv => lhs; simp only [go_sem, beq_self_eq_true, bne_self_eq_false])) ?_) | exact Sub.refl _ | omega)
    refine s_rcall (fm := colsF e) (p := 0) (m0 := m0) (k := 0) 1 [] [] hx (by ((conv => lhs; simp (disch := omega) only [go_sem, beq_self_eq_true, bne_self_eq_false]); try rfl)) (by ((conv => lhs; simp (disch := omega) only [go_sem, beq_self_eq_true, bne_self_eq_false]); try rfl)) (by rw [← eD_eq]; exact congrArg (fun d => [d]) (rk_pur _ _ (eD_pur e)).symm) (rr := D.agg [I e.k, I e.c, Bo e.v.b, I e.v.n, kD 0 5 (e.ks.map eD)]) (eK_rk _ 0 e) (by rw [D.lowL, D.lowL, eD_eq]; rfl) (eK_low 0 e) rfl (fun κ h => (by cases h)) (Nat.zero_le _) (List.Perm.refl _) (List.Perm.refl _) (fun it hit _ => (by cases hit)) (fun it hit _ => ?_) (fun it hit _ => (by cases hit)) (Nat.zero_le _) rfl (show 1 ≤ 900000 by omega) (Nat.zero_le _) ?_
    · obtain rfl := List.mem_singleton.1 hit
      exact Nat.zero_lt_one
    have hag : ∀ its, (⟨0, 5, e.ks.map eD⟩ : It) ∈ its → LentK its (.agg [I e.k, I e.c, Bo e.v.b, I e.v.n, kD 0 5 (e.ks.map eD)]) (.agg [I e.k, I e.c, Bo e.v.b, I e.v.n, .sl 5 (e.ks.map eD)]) := fun its h => LentK.aggL ⟨.same _ rfl, .same _ rfl, .same _ rfl, .same _ rfl, LentK.kD h, trivial⟩
    have hkm : kD 1 1 ((colsX e).map I) = kD 1 1 ((List.range (colsX e).length).map (mkI 1)) := kD_lenE (by rw [List.length_map, List.length_range, List.length_map]) 1 1
    repeat' ((fail_if_success (with_reducible first | refine s_call ?_ | refine s_cal ?_ | refine s_inv ?_)); first | with_reducible refine acc_none ?_ | (conv in hold _ => simp (disch := omega) only [go_sem, beq_self_eq_true, bne_self_eq_false]) | refine Stp.go ?_ | (with_reducible first | refine it_pos rfl ?_ | refine it_neg (by decide) ?_ | refine st_nil rfl ?_ | refine s_op ?_ ?_ | exact True.intro) | ((with_reducible first | refine dw_reg0 ?_ | refine dw_regB ?_); (conv => arg 3; whnf)) | (refine Spl.go (fun hq he => ?_) (fun hq he => ?_) <;> first | (exfalso; clear hq; omega) | ((try (first | (conv => arg 8; simp only [hq]) | (conv => arg 4; simp only [hq]))); clear hq)) | ((with_reducible first | refine c_split (fun hq => ?_) (fun hq => ?_) | refine q_split (fun hq => ?_) (fun hq => ?_)) <;> (try (first | (conv => arg 8; simp only [hq]) | (conv => arg 4; simp only [hq])))) | (with_reducible refine fin_0 ?_ (by first | rfl | (conv => lhs; simp only [go_sem, beq_self_eq_true, bne_self_eq_false])) ?_) | exact Sub.refl _ | omega)
    refine s_rlendR (fm := colsF e) (p := 0) (m0 := m0) (k := 1) 2 hg (by ((conv => lhs; simp (disch := omega) only [go_sem, beq_self_eq_true, bne_self_eq_false]); try rfl)) (by ((conv => lhs; simp (disch := omega) only [go_sem, beq_self_eq_true, bne_self_eq_false]); try rfl)) (by rw [eD_eq]; exact ⟨hag _ (List.mem_cons_self ..), trivial⟩) (rr := kD 1 1 ((colsX e).map I)) (kD_rk _ _ _ _) (kD_scalK _ _ _) (Nat.zero_le _) (List.Perm.refl _) (fun it hit _ => ?_) (fun it hit _ => ?_) rfl (show 2 ≤ 900000 by omega) ?_
    · obtain rfl := List.mem_singleton.1 hit
      exact Nat.zero_lt_one
    · obtain rfl := List.mem_singleton.1 hit
      exact Nat.zero_lt_one
    repeat' ((fail_if_success (with_reducible first | refine s_call ?_ | refine s_cal ?_ | refine s_inv ?_)); first | with_reducible refine acc_none ?_ | (conv in hold _ => simp (disch := omega) only [go_sem, beq_self_eq_true, bne_self_eq_false]) | refine Stp.go ?_ | (with_reducible first | refine it_pos rfl ?_ | refine it_neg (by decide) ?_ | refine st_nil rfl ?_ | refine s_op ?_ ?_ | exact True.intro) | ((with_reducible first | refine dw_reg0 ?_ | refine dw_regB ?_); (conv => arg 3; whnf)) | (refine Spl.go (fun hq he => ?_) (fun hq he => ?_) <;> first | (exfalso; clear hq; omega) | ((try (first | (conv => arg 8; simp only [hq]) | (conv => arg 4; simp only [hq]))); clear hq)) | ((with_reducible first | refine c_split (fun hq => ?_) (fun hq => ?_) | refine q_split (fun hq => ?_) (fun hq => ?_)) <;> (try (first | (conv => arg 8; simp only [hq]) | (conv => arg 4; simp only [hq])))) | (with_reducible refine fin_0 ?_ (by first | rfl | (conv => lhs; simp only [go_sem, beq_self_eq_true, bne_self_eq_false])) ?_) | exact Sub.refl _ | omega)
    refine s_rlend (fm := colsF e) (p := 0) (m0 := m0) (k := 2) heq (by ((conv => lhs; simp (disch := omega) only [go_sem, beq_self_eq_true, bne_self_eq_false]); try rfl)) (by ((conv => lhs; simp (disch := omega) only [go_sem, beq_self_eq_true, bne_self_eq_false]); try rfl)) (by exact ⟨LentK.kD (List.mem_cons_self ..), .same _ rfl, trivial⟩) rfl ?_
    repeat' ((fail_if_success (with_reducible first | refine s_call ?_ | refine s_cal ?_ | refine s_inv ?_)); first | with_reducible refine acc_none ?_ | (conv in hold _ => simp (disch := omega) only [go_sem, beq_self_eq_true, bne_self_eq_false]) | refine Stp.go ?_ | (with_reducible first | refine it_pos rfl ?_ | refine it_neg (by decide) ?_ | refine st_nil rfl ?_ | refine s_op ?_ ?_ | exact True.intro) | ((with_reducible first | refine dw_reg0 ?_ | refine dw_regB ?_); (conv => arg 3; whnf)) | (refine Spl.go (fun hq he => ?_) (fun hq he => ?_) <;> first | (exfalso; clear hq; omega) | ((try (first | (conv => arg 8; simp only [hq]) | (conv => arg 4; simp only [hq]))); clear hq)) | ((with_reducible first | refine c_split (fun hq => ?_) (fun hq => ?_) | refine q_split (fun hq => ?_) (fun hq => ?_)) <;> (try (first | (conv => arg 8; simp only [hq]) | (conv => arg 4; simp only [hq])))) | (with_reducible refine fin_0 ?_ (by first | rfl | (conv => lhs; simp only [go_sem, beq_self_eq_true, bne_self_eq_false])) ?_) | exact Sub.refl _ | omega)
    refine s_call ?_
    refine c_doesE (h1) ?_ ?_ ?_
    · ((try (conv => rhs; simp (disch := omega) only [go_sem, beq_self_eq_true, bne_self_eq_false])); try rfl)
    · first | rfl | (conv => lhs; simp only [go_sem, beq_self_eq_true, bne_self_eq_false])
    repeat' ((fail_if_success (with_reducible first | refine s_call ?_ | refine s_cal ?_ | refine s_inv ?_)); first | with_reducible refine acc_none ?_ | (conv in hold _ => simp (disch := omega) only [go_sem, beq_self_eq_true, bne_self_eq_false]) | refine Stp.go ?_ | (with_reducible first | refine it_pos rfl ?_ | refine it_neg (by decide) ?_ | refine st_nil rfl ?_ | refine s_op ?_ ?_ | exact True.intro) | ((with_reducible first | refine dw_reg0 ?_ | refine dw_regB ?_); (conv => arg 3; whnf)) | (refine Spl.go (fun hq he => ?_) (fun hq he => ?_) <;> first | (exfalso; clear hq; omega) | ((try (first | (conv => arg 8; simp only [hq]) | (conv => arg 4; simp only [hq]))); clear hq)) | ((with_reducible first | refine c_split (fun hq => ?_) (fun hq => ?_) | refine q_split (fun hq => ?_) (fun hq => ?_)) <;> (try (first | (conv => arg 8; simp only [hq]) | (conv => arg 4; simp only [hq])))) | (with_reducible refine fin_0 ?_ (by first | rfl | (conv => lhs; simp only [go_sem, beq_self_eq_true, bne_self_eq_false])) ?_) | exact Sub.refl _ | omega)
    refine s_rlend (fm := colsF e) (p := 0) (m0 := m0) (k := 2) hex (by ((conv => lhs; simp (disch := omega) only [go_sem, beq_self_eq_true, bne_self_eq_false]); try rfl)) (by ((conv => lhs; simp (disch := omega) only [go_sem, beq_self_eq_true, bne_self_eq_false]); try rfl)) (by rw [eD_eq]; exact ⟨hag _ (List.mem_cons_of_mem _ (List.mem_cons_self ..)), .same _ rfl, trivial⟩) rfl ?_
    repeat' ((fail_if_success (with_reducible first | refine s_call ?_ | refine s_cal ?_ | refine s_inv ?_)); first | with_reducible refine acc_none ?_ | (conv in hold _ => simp (disch := omega) only [go_sem, beq_self_eq_true, bne_self_eq_false]) | refine Stp.go ?_ | (with_reducible first | refine it_pos rfl ?_ | refine it_neg (by decide) ?_ | refine st_nil rfl ?_ | refine s_op ?_ ?_ | exact True.intro) | ((with_reducible first | refine dw_reg0 ?_ | refine dw_regB ?_); (conv => arg 3; whnf)) | (refine Spl.go (fun hq he => ?_) (fun hq he => ?_) <;> first | (exfalso; clear hq; omega) | ((try (first | (conv => arg 8; simp only [hq]) | (conv => arg 4; simp only [hq]))); clear hq)) | ((with_reducible first | refine c_split (fun hq => ?_) (fun hq => ?_) | refine q_split (fun hq => ?_) (fun hq => ?_)) <;> (try (first | (conv => arg 8; simp only [hq]) | (conv => arg 4; simp only [hq])))) | (with_reducible refine fin_0 ?_ (by first | rfl | (conv => lhs; simp only [go_sem, beq_self_eq_true, bne_self_eq_false])) ?_) | exact Sub.refl _ | omega)
    refine s_rcall (fm := colsF e) (p := 0) (m0 := m0) (k := 2) 3 [0] [⟨1, 1, (colsX e).map I⟩] hmk (by ((conv => lhs; simp (disch := omega) only [go_sem, beq_self_eq_true, bne_self_eq_false]); try rfl)) (by ((conv => lhs; simp (disch := omega) only [go_sem, beq_self_eq_true, bne_self_eq_false]); try rfl)) (show _ = [(eK 0 e).rk _, _] by rw [eK_rk]; rfl) (rr := I (1 + 4 * eszL e.ks)) rfl (by rw [D.lowL, eK_low]; rfl) rfl rfl (fun κ h => ?_) (Nat.zero_le _) (List.Perm.swap _ _ _) (List.Perm.refl _) (fun it hit _ => ?_) (fun it hit _ => ?_) (fun it hit _ => ?_) (Nat.le_refl _) rfl (show 2 ≤ 900000 by omega) (show 1 ≤ 900000 by omega) ?_
    · obtain rfl := List.mem_singleton.1 h
      show 0 < 2; omega
    · obtain rfl := List.mem_singleton.1 hit
      exact Nat.zero_lt_one
    · obtain rfl := List.mem_singleton.1 hit
      exact Nat.zero_lt_one
    · obtain rfl := List.mem_singleton.1 hit
      show 1 < 2; omega
    repeat' ((fail_if_success (with_reducible first | refine s_call ?_ | refine s_cal ?_ | refine s_inv ?_)); first | with_reducible refine acc_none ?_ | (conv in hold _ => simp (disch := omega) only [go_sem, beq_self_eq_true, bne_self_eq_false]) | refine Stp.go ?_ | (with_reducible first | refine it_pos rfl ?_ | refine it_neg (by decide) ?_ | refine st_nil rfl ?_ | refine s_op ?_ ?_ | exact True.intro) | ((with_reducible first | refine dw_reg0 ?_ | refine dw_regB ?_); (conv => arg 3; whnf)) | (refine Spl.go (fun hq he => ?_) (fun hq he => ?_) <;> first | (exfalso; clear hq; omega) | ((try (first | (conv => arg 8; simp only [hq]) | (conv => arg 4; simp only [hq]))); clear hq)) | ((with_reducible first | refine c_split (fun hq => ?_) (fun hq => ?_) | refine q_split (fun hq => ?_) (fun hq => ?_)) <;> (try (first | (conv => arg 8; simp only [hq]) | (conv => arg 4; simp only [hq])))) | (with_reducible refine fin_0 ?_ (by first | rfl | (conv => lhs; simp only [go_sem, beq_self_eq_true, bne_self_eq_false])) ?_) | exact Sub.refl _ | omega)
    refine s_rlend (fm := colsF e) (p := 0) (m0 := m0) (k := 3) heq (by ((conv => lhs; simp (disch := omega) only [go_sem, beq_self_eq_true, bne_self_eq_false]); try rfl)) (by ((conv => lhs; simp (disch := omega) only [go_sem, beq_self_eq_true, bne_self_eq_false]); try rfl)) (by exact ⟨LentK.kD (List.mem_cons_of_mem _ (List.mem_cons_self ..)), .same _ rfl, trivial⟩) rfl ?_
    repeat' ((fail_if_success (with_reducible first | refine s_call ?_ | refine s_cal ?_ | refine s_inv ?_)); first | with_reducible refine acc_none ?_ | (conv in hold _ => simp (disch := omega) only [go_sem, beq_self_eq_true, bne_self_eq_false]) | refine Stp.go ?_ | (with_reducible first | refine it_pos rfl ?_ | refine it_neg (by decide) ?_ | refine st_nil rfl ?_ | refine s_op ?_ ?_ | exact True.intro) | ((with_reducible first | refine dw_reg0 ?_ | refine dw_regB ?_); (conv => arg 3; whnf)) | (refine Spl.go (fun hq he => ?_) (fun hq he => ?_) <;> first | (exfalso; clear hq; omega) | ((try (first | (conv => arg 8; simp only [hq]) | (conv => arg 4; simp only [hq]))); clear hq)) | ((with_reducible first | refine c_split (fun hq => ?_) (fun hq => ?_) | refine q_split (fun hq => ?_) (fun hq => ?_)) <;> (try (first | (conv => arg 8; simp only [hq]) | (conv => arg 4; simp only [hq])))) | (with_reducible refine fin_0 ?_ (by first | rfl | (conv => lhs; simp only [go_sem, beq_self_eq_true, bne_self_eq_false])) ?_) | exact Sub.refl _ | omega)
    refine s_rcall (fm := colsF e) (p := 0) (m0 := m0) (k := 3) 4 [1] [⟨0, 5, (mkEL e.ks 1).map eD⟩] hmi (by ((conv => lhs; simp (disch := omega) only [go_sem, beq_self_eq_true, bne_self_eq_false]); try rfl)) (by ((conv => lhs; simp (disch := omega) only [go_sem, beq_self_eq_true, bne_self_eq_false]); try rfl)) (show _ = [(kD 0 1 ((colsX e).map I)).rk _, _] by rw [kD_rk]; rfl) (rr := I (1 + (colsX e).length)) rfl (by rw [D.lowL, kD_low]; rfl) rfl rfl (fun κ h => ?_) (Nat.zero_le _) (List.Perm.swap _ _ _) (List.Perm.refl _) (fun it hit _ => ?_) (fun it hit _ => ?_) (fun it hit _ => ?_) (Nat.le_refl _) rfl (show 2 ≤ 900000 by omega) (show 1 ≤ 900000 by omega) ?_
    · obtain rfl := List.mem_singleton.1 h
      show 1 < 2; omega
    · obtain rfl := List.mem_singleton.1 hit
      exact Nat.zero_lt_one
    · obtain rfl := List.mem_singleton.1 hit
      exact Nat.zero_lt_one
    · obtain rfl := List.mem_singleton.1 hit
      show 0 < 2; omega
    repeat' ((fail_if_success (with_reducible first | refine s_call ?_ | refine s_cal ?_ | refine s_inv ?_)); first | with_reducible refine acc_none ?_ | (conv in hold _ => simp (disch := omega) only [go_sem, beq_self_eq_true, bne_self_eq_false]) | refine Stp.go ?_ | (with_reducible first | refine it_pos rfl ?_ | refine it_neg (by decide) ?_ | refine st_nil rfl ?_ | refine s_op ?_ ?_ | exact True.intro) | ((with_reducible first | refine dw_reg0 ?_ | refine dw_regB ?_); (conv => arg 3; whnf)) | (refine Spl.go (fun hq he => ?_) (fun hq he => ?_) <;> first | (exfalso; clear hq; omega) | ((try (first | (conv => arg 8; simp only [hq]) | (conv => arg 4; simp only [hq]))); clear hq)) | ((with_reducible first | refine c_split (fun hq => ?_) (fun hq => ?_) | refine q_split (fun hq => ?_) (fun hq => ?_)) <;> (try (first | (conv => arg 8; simp only [hq]) | (conv => arg 4; simp only [hq])))) | (with_reducible refine fin_0 ?_ (by first | rfl | (conv => lhs; simp only [go_sem, beq_self_eq_true, bne_self_eq_false])) ?_) | exact Sub.refl _ | omega)
    refine s_rlend (fm := colsF e) (p := 0) (m0 := m0) (k := 4) hhe (by ((conv => lhs; simp (disch := omega) only [go_sem, beq_self_eq_true, bne_self_eq_false]); try rfl)) (by ((conv => lhs; simp (disch := omega) only [go_sem, beq_self_eq_true, bne_self_eq_false]); try rfl)) (by rw [hkm]; exact ⟨LentK.kD (List.mem_cons_self ..), .same _ rfl, trivial⟩) rfl ?_
    repeat' ((fail_if_success (with_reducible first | refine s_call ?_ | refine s_cal ?_ | refine s_inv ?_)); first | with_reducible refine acc_none ?_ | (conv in hold _ => simp (disch := omega) only [go_sem, beq_self_eq_true, bne_self_eq_false]) | refine Stp.go ?_ | (with_reducible first | refine it_pos rfl ?_ | refine it_neg (by decide) ?_ | refine st_nil rfl ?_ | refine s_op ?_ ?_ | exact True.intro) | ((with_reducible first | refine dw_reg0 ?_ | refine dw_regB ?_); (conv => arg 3; whnf)) | (refine Spl.go (fun hq he => ?_) (fun hq he => ?_) <;> first | (exfalso; clear hq; omega) | ((try (first | (conv => arg 8; simp only [hq]) | (conv => arg 4; simp only [hq]))); clear hq)) | ((with_reducible first | refine c_split (fun hq => ?_) (fun hq => ?_) | refine q_split (fun hq => ?_) (fun hq => ?_)) <;> (try (first | (conv => arg 8; simp only [hq]) | (conv => arg 4; simp only [hq])))) | (with_reducible refine fin_0 ?_ (by first | rfl | (conv => lhs; simp only [go_sem, beq_self_eq_true, bne_self_eq_false])) ?_) | exact Sub.refl _ | omega)
    refine s_call ?_
    refine c_doesE (h1) ?_ ?_ ?_
    · ((try (conv => rhs; simp (disch := omega) only [go_sem, beq_self_eq_true, bne_self_eq_false])); try rfl)
    · first | rfl | (conv => lhs; simp only [go_sem, beq_self_eq_true, bne_self_eq_false])
    repeat' ((fail_if_success (with_reducible first | refine s_call ?_ | refine s_cal ?_ | refine s_inv ?_)); first | with_reducible refine acc_none ?_ | (conv in hold _ => simp (disch := omega) only [go_sem, beq_self_eq_true, bne_self_eq_false]) | refine Stp.go ?_ | (with_reducible first | refine it_pos rfl ?_ | refine it_neg (by decide) ?_ | refine st_nil rfl ?_ | refine s_op ?_ ?_ | exact True.intro) | ((with_reducible first | refine dw_reg0 ?_ | refine dw_regB ?_); (conv => arg 3; whnf)) | (refine Spl.go (fun hq he => ?_) (fun hq he => ?_) <;> first | (exfalso; clear hq; omega) | ((try (first | (conv => arg 8; simp only [hq]) | (conv => arg 4; simp only [hq]))); clear hq)) | ((with_reducible first | refine c_split (fun hq => ?_) (fun hq => ?_) | refine q_split (fun hq => ?_) (fun hq => ?_)) <;> (try (first | (conv => arg 8; simp only [hq]) | (conv => arg 4; simp only [hq])))) | (with_reducible refine fin_0 ?_ (by first | rfl | (conv => lhs; simp only [go_sem, beq_self_eq_true, bne_self_eq_false])) ?_) | exact Sub.refl _ | omega)
    refine s_call ?_
    refine c_doesE (h3) ?_ ?_ ?_
    · ((try (conv => rhs; simp (disch := omega) only [go_sem, beq_self_eq_true, bne_self_eq_false])); try rfl)
    · first | rfl | (conv => lhs; simp only [go_sem, beq_self_eq_true, bne_self_eq_false])
    repeat' ((fail_if_success (with_reducible first | refine s_call ?_ | refine s_cal ?_ | refine s_inv ?_)); first | with_reducible refine acc_none ?_ | (conv in hold _ => simp (disch := omega) only [go_sem, beq_self_eq_true, bne_self_eq_false]) | refine Stp.go ?_ | (with_reducible first | refine it_pos rfl ?_ | refine it_neg (by decide) ?_ | refine st_nil rfl ?_ | refine s_op ?_ ?_ | exact True.intro) | ((with_reducible first | refine dw_reg0 ?_ | refine dw_regB ?_); (conv => arg 3; whnf)) | (refine Spl.go (fun hq he => ?_) (fun hq he => ?_) <;> first | (exfalso; clear hq; omega) | ((try (first | (conv => arg 8; simp only [hq]) | (conv => arg 4; simp only [hq]))); clear hq)) | ((with_reducible first | refine c_split (fun hq => ?_) (fun hq => ?_) | refine q_split (fun hq => ?_) (fun hq => ?_)) <;> (try (first | (conv => arg 8; simp only [hq]) | (conv => arg 4; simp only [hq])))) | (with_reducible refine fin_0 ?_ (by first | rfl | (conv => lhs; simp only [go_sem, beq_self_eq_true, bne_self_eq_false])) ?_) | exact Sub.refl _ | omega)
    refine s_call ?_
    refine c_doesE (heq) ?_ ?_ ?_
    · ((try (conv => rhs; simp (disch := omega) only [go_sem, beq_self_eq_true, bne_self_eq_false])); try rfl)
    · first | rfl | (conv => lhs; simp only [go_sem, beq_self_eq_true, bne_self_eq_false])
    repeat' ((fail_if_success (with_reducible first | refine s_call ?_ | refine s_cal ?_ | refine s_inv ?_)); first | with_reducible refine acc_none ?_ | (conv in hold _ => simp (disch := omega) only [go_sem, beq_self_eq_true, bne_self_eq_false]) | refine Stp.go ?_ | (with_reducible first | refine it_pos rfl ?_ | refine it_neg (by decide) ?_ | refine st_nil rfl ?_ | refine s_op ?_ ?_ | exact True.intro) | ((with_reducible first | refine dw_reg0 ?_ | refine dw_regB ?_); (conv => arg 3; whnf)) | (refine Spl.go (fun hq he => ?_) (fun hq he => ?_) <;> first | (exfalso; clear hq; omega) | ((try (first | (conv => arg 8; simp only [hq]) | (conv => arg 4; simp only [hq]))); clear hq)) | ((with_reducible first | refine c_split (fun hq => ?_) (fun hq => ?_) | refine q_split (fun hq => ?_) (fun hq => ?_)) <;> (try (first | (conv => arg 8; simp only [hq]) | (conv => arg 4; simp only [hq])))) | (with_reducible refine fin_0 ?_ (by first | rfl | (conv => lhs; simp only [go_sem, beq_self_eq_true, bne_self_eq_false])) ?_) | exact Sub.refl _ | omega)
    refine s_rlend (fm := colsF e) (p := 0) (m0 := m0) (k := 4) hhe (by ((conv => lhs; simp (disch := omega) only [go_sem, beq_self_eq_true, bne_self_eq_false]); try rfl)) (by ((conv => lhs; simp (disch := omega) only [go_sem, beq_self_eq_true, bne_self_eq_false]); try rfl)) (by rw [hkm]; exact ⟨LentK.kD (List.mem_cons_self ..), .same _ rfl, trivial⟩) rfl ?_
    repeat' ((fail_if_success (with_reducible first | refine s_call ?_ | refine s_cal ?_ | refine s_inv ?_)); first | with_reducible refine acc_none ?_ | (conv in hold _ => simp (disch := omega) only [go_sem, beq_self_eq_true, bne_self_eq_false]) | refine Stp.go ?_ | (with_reducible first | refine it_pos rfl ?_ | refine it_neg (by decide) ?_ | refine st_nil rfl ?_ | refine s_op ?_ ?_ | exact True.intro) | ((with_reducible first | refine dw_reg0 ?_ | refine dw_regB ?_); (conv => arg 3; whnf)) | (refine Spl.go (fun hq he => ?_) (fun hq he => ?_) <;> first | (exfalso; clear hq; omega) | ((try (first | (conv => arg 8; simp only [hq]) | (conv => arg 4; simp only [hq]))); clear hq)) | ((with_reducible first | refine c_split (fun hq => ?_) (fun hq => ?_) | refine q_split (fun hq => ?_) (fun hq => ?_)) <;> (try (first | (conv => arg 8; simp only [hq]) | (conv => arg 4; simp only [hq])))) | (with_reducible refine fin_0 ?_ (by first | rfl | (conv => lhs; simp only [go_sem, beq_self_eq_true, bne_self_eq_false])) ?_) | exact Sub.refl _ | omega)
    refine fin_RC (by ((conv => lhs; simp (disch := omega) only [go_sem, beq_self_eq_true, bne_self_eq_false]); try rfl)) ?_ (by ((conv => lhs; simp (disch := omega) only [go_sem, beq_self_eq_true, bne_self_eq_false]); try rfl))
    repeat' (first | (conv in hold _ => simp (disch := omega) only [go_sem, beq_self_eq_true, bne_self_eq_false]) | exact True.intro | exact Sub.refl _ | omega)
theorem does_FnExactColumnsOf (e : E) (hm : Most e) : Does Try.prog 3 [] [eD e] (Bo true) [] := by
  have hz := szExpr_ok e hm 1048576 (by decide) (by decide)
  by_cases hf : (eszL e.ks : Int) ≤ 1048576
  · rw [szV_t hf] at hz
    exact (rc_FnExactColumnsOf e (by omega) hz).does rfl
  · rw [szV_f hf] at hz
    refine does0 c_laws_FnExactColumnsOf mixed (Nat.le_of_ble_eq_true rfl) ?_
    conv => arg 3; whnf
    repeat' (first | with_reducible refine acc_none ?_ | (conv in hold _ => simp (disch := omega) only [go_sem, beq_self_eq_true, bne_self_eq_false]) | refine Stp.go ?_ | (with_reducible first | refine it_pos rfl ?_ | refine it_neg (by decide) ?_ | refine st_nil rfl ?_ | refine s_op ?_ ?_ | exact True.intro) | ((with_reducible first | refine dw_reg0 ?_ | refine dw_regB ?_); (conv => arg 3; whnf)) | (refine Spl.go (fun hq he => ?_) (fun hq he => ?_) <;> first | (exfalso; clear hq; omega) | ((try (first | (conv => arg 8; simp only [hq]) | (conv => arg 4; simp only [hq]))); clear hq)) | ((with_reducible first | refine c_split (fun hq => ?_) (fun hq => ?_) | refine q_split (fun hq => ?_) (fun hq => ?_)) <;> (try (first | (conv => arg 8; simp only [hq]) | (conv => arg 4; simp only [hq])))) | (with_reducible refine fin_0 ?_ (by first | rfl | (conv => lhs; simp only [go_sem, beq_self_eq_true, bne_self_eq_false])) ?_) | exact Sub.refl _ | omega)
    refine c_doesE (hz) ?_ ?_ ?_
    · ((try (conv => rhs; simp (disch := omega) only [go_sem, beq_self_eq_true, bne_self_eq_false])); try rfl)
    · first | rfl | (conv => lhs; simp only [go_sem, beq_self_eq_true, bne_self_eq_false])
    repeat' (first | with_reducible refine acc_none ?_ | (conv in hold _ => simp (disch := omega) only [go_sem, beq_self_eq_true, bne_self_eq_false]) | refine Stp.go ?_ | (with_reducible first | refine it_pos rfl ?_ | refine it_neg (by decide) ?_ | refine st_nil rfl ?_ | refine s_op ?_ ?_ | exact True.intro) | ((with_reducible first | refine dw_reg0 ?_ | refine dw_regB ?_); (conv => arg 3; whnf)) | (refine Spl.go (fun hq he => ?_) (fun hq he => ?_) <;> first | (exfalso; clear hq; omega) | ((try (first | (conv => arg 8; simp only [hq]) | (conv => arg 4; simp only [hq]))); clear hq)) | ((with_reducible first | refine c_split (fun hq => ?_) (fun hq => ?_) | refine q_split (fun hq => ?_) (fun hq => ?_)) <;> (try (first | (conv => arg 8; simp only [hq]) | (conv => arg 4; simp only [hq])))) | (with_reducible refine fin_0 ?_ (by first | rfl | (conv => lhs; simp only [go_sem, beq_self_eq_true, bne_self_eq_false])) ?_) | exact Sub.refl _ | omega)
theorem walk_FnExactColumnsOf (v : Value) (e : E) (w : World) (h : IsE w v e) :
    Calls Try.prog 3 #[v] w fun e W' => e = .returned (.bool true) ∧ Below w.heap.size w W' := calls_1 (does_FnExactColumnsOf e h.1) h.2
end Go.Proofs.Ytclkehekhdfnnaa
