/-
  Drawn plans: the planner's other steps. No condition.
-/
import Derived.Test.YtikfanemeglcoaaDca
import Derived.Test.YtikfanemeglcoaaDcc
import Derived.Test.YtikfanemeglcoaaJVPlan
set_option maxHeartbeats 4000000
set_option maxRecDepth 100000
set_option linter.unusedVariables false
set_option linter.unusedSimpArgs false
namespace Go.Proofs.Ytikfanemeglcoaa
open Go.RowKit

variable {bs : List Nat} {ws : List Int} {p j u d : Nat} {x : Pl} {t k6 c n : Int} {q j1 u1 : Nat}
theorem plan_dist (h : Pre bs ws p j u d x t k6 c n q j1 u1) (hc : c = 8) : DPlan bs ws p j u ((d + 1 : Nat) : Int) (.mk 7 0 [] [] [x]) (q + 1) j1 u1 := by
  obtain ⟨hl, hd, h1, h2, h6, hk, hw, hn, h3, hj, hu⟩ := h
  subst hc
  have hs : Sub (.agg [I 7, I 0, .nul, .nul, .sl 5 [pD x]]) (pD (.mk 7 0 [] [] [x])) := plS (Sub.nul 5) (Sub.nul 1) (Sub.refl _)
  simp only [go_sem] at hs
  refine does c_spec_pplanner_plan mixed (Nat.le_of_ble_eq_true rfl) 3 rfl ?_
  conv => arg 3; whnf
  repeat' (first
    | with_reducible refine acc_none ?_ | (conv in hold _ => simp (disch := omega) only [go_sem]) | refine Stp.go ?_ | (with_reducible first | refine it_pos rfl ?_ | refine it_neg (by decide) ?_ | refine st_nil rfl ?_ | refine s_op ?_ ?_ | exact True.intro) | ((with_reducible first | refine dw_reg0 ?_ | refine dw_regB ?_); (conv => arg 3; whnf)) | (refine Spl.go (fun hq he => ?_) (fun hq he => ?_) <;> first | (exfalso; clear hq; omega) | ((try (first | (conv => arg 8; simp only [hq]) | (conv => arg 4; simp only [hq]))); clear hq)) | ((with_reducible first | refine c_split (fun hq => ?_) (fun hq => ?_) | refine q_split (fun hq => ?_) (fun hq => ?_)) <;> (try (first | (conv => arg 8; simp only [hq]) | (conv => arg 4; simp only [hq])))) | (with_reducible refine fin_0 ?_ (by first | rfl | (conv => lhs; simp only [go_sem])) ?_)
    | (with_reducible show evC _ _ _ _ _ _ _ _ _ _ _ _
       first
       | (refine c_doesR [1000001] (h1) (callOK_of rfl (Nat.le_of_ble_eq_true rfl) rfl ?_ ?_) ?_ ?_
          iterate 2 · repeat' (first | (conv in hold _ => simp (disch := omega) only [go_sem]) | exact True.intro | exact Sub.refl _ | omega)
          · ((conv => rhs; simp (disch := omega) only [go_sem]); try rfl))
       | (refine c_doesR [1000001] (h2) (callOK_of rfl (Nat.le_of_ble_eq_true rfl) rfl ?_ ?_) ?_ ?_
          iterate 2 · repeat' (first | (conv in hold _ => simp (disch := omega) only [go_sem]) | exact True.intro | exact Sub.refl _ | omega)
          · ((conv => rhs; simp (disch := omega) only [go_sem]); try rfl))
       | (refine c_doesR [1000000, 1000001, 1000002] (hk) (callOK_of rfl (Nat.le_of_ble_eq_true rfl) rfl ?_ ?_) ?_ ?_
          iterate 2 · repeat' (first | (conv in hold _ => simp (disch := omega) only [go_sem]) | exact True.intro | exact Sub.refl _ | omega)
          · ((conv => rhs; simp (disch := omega) only [go_sem]); try rfl))
       | (refine c_doesR [1000002] (hw) (callOK_of rfl (Nat.le_of_ble_eq_true rfl) rfl ?_ ?_) ?_ ?_
          iterate 2 · repeat' (first | (conv in hold _ => simp (disch := omega) only [go_sem]) | exact True.intro | exact Sub.refl _ | omega)
          · ((conv => rhs; simp (disch := omega) only [go_sem]); try rfl))
       | (refine c_doesR [1000001] (h3) (callOK_of rfl (Nat.le_of_ble_eq_true rfl) rfl ?_ ?_) ?_ ?_
          iterate 2 · repeat' (first | (conv in hold _ => simp (disch := omega) only [go_sem]) | exact True.intro | exact Sub.refl _ | omega)
          · ((conv => rhs; simp (disch := omega) only [go_sem]); try rfl)))
    | exact Sub.refl _ | omega)
  refine fin_L [1000000, 1000001, 1000002] ?_ ?_ rfl ?_
  repeat' (first | (conv in hold _ => simp (disch := omega) only [go_sem]) | exact True.intro | exact Sub.refl _ | omega)
  all_goals exact hs
theorem plan_grp (h : Pre bs ws p j u d x t k6 c n q j1 u1) (hc : c = 9) (hn1 : ¬ 1 < n) : DPlan bs ws p j u ((d + 1 : Nat) : Int) (.mk 8 0 [] [] [x]) (q + 1) j1 u1 := by
  obtain ⟨hl, hd, h1, h2, h6, hk, hw, hn, h3, hj, hu⟩ := h
  subst hc
  have hs : Sub (.agg [I 8, I 0, .nul, .nul, .sl 5 [pD x]]) (pD (.mk 8 0 [] [] [x])) := plS (Sub.nul 5) (Sub.nul 1) (Sub.refl _)
  simp only [go_sem] at hs
  refine does c_spec_pplanner_plan mixed (Nat.le_of_ble_eq_true rfl) 3 rfl ?_
  conv => arg 3; whnf
  repeat' (first
    | with_reducible refine acc_none ?_ | (conv in hold _ => simp (disch := omega) only [go_sem]) | refine Stp.go ?_ | (with_reducible first | refine it_pos rfl ?_ | refine it_neg (by decide) ?_ | refine st_nil rfl ?_ | refine s_op ?_ ?_ | exact True.intro) | ((with_reducible first | refine dw_reg0 ?_ | refine dw_regB ?_); (conv => arg 3; whnf)) | (refine Spl.go (fun hq he => ?_) (fun hq he => ?_) <;> first | (exfalso; clear hq; omega) | ((try (first | (conv => arg 8; simp only [hq]) | (conv => arg 4; simp only [hq]))); clear hq)) | ((with_reducible first | refine c_split (fun hq => ?_) (fun hq => ?_) | refine q_split (fun hq => ?_) (fun hq => ?_)) <;> (try (first | (conv => arg 8; simp only [hq]) | (conv => arg 4; simp only [hq])))) | (with_reducible refine fin_0 ?_ (by first | rfl | (conv => lhs; simp only [go_sem])) ?_)
    | (with_reducible show evC _ _ _ _ _ _ _ _ _ _ _ _
       first
       | (refine c_doesR [1000001] (h1) (callOK_of rfl (Nat.le_of_ble_eq_true rfl) rfl ?_ ?_) ?_ ?_
          iterate 2 · repeat' (first | (conv in hold _ => simp (disch := omega) only [go_sem]) | exact True.intro | exact Sub.refl _ | omega)
          · ((conv => rhs; simp (disch := omega) only [go_sem]); try rfl))
       | (refine c_doesR [1000001] (h2) (callOK_of rfl (Nat.le_of_ble_eq_true rfl) rfl ?_ ?_) ?_ ?_
          iterate 2 · repeat' (first | (conv in hold _ => simp (disch := omega) only [go_sem]) | exact True.intro | exact Sub.refl _ | omega)
          · ((conv => rhs; simp (disch := omega) only [go_sem]); try rfl))
       | (refine c_doesR [1000000, 1000001, 1000002] (hk) (callOK_of rfl (Nat.le_of_ble_eq_true rfl) rfl ?_ ?_) ?_ ?_
          iterate 2 · repeat' (first | (conv in hold _ => simp (disch := omega) only [go_sem]) | exact True.intro | exact Sub.refl _ | omega)
          · ((conv => rhs; simp (disch := omega) only [go_sem]); try rfl))
       | (refine c_doesR [1000002] (hw) (callOK_of rfl (Nat.le_of_ble_eq_true rfl) rfl ?_ ?_) ?_ ?_
          iterate 2 · repeat' (first | (conv in hold _ => simp (disch := omega) only [go_sem]) | exact True.intro | exact Sub.refl _ | omega)
          · ((conv => rhs; simp (disch := omega) only [go_sem]); try rfl))
       | (refine c_doesR [1000001] (h3) (callOK_of rfl (Nat.le_of_ble_eq_true rfl) rfl ?_ ?_) ?_ ?_
          iterate 2 · repeat' (first | (conv in hold _ => simp (disch := omega) only [go_sem]) | exact True.intro | exact Sub.refl _ | omega)
          · ((conv => rhs; simp (disch := omega) only [go_sem]); try rfl)))
    | exact Sub.refl _ | omega)
  refine fin_L [1000000, 1000001, 1000002] ?_ ?_ rfl ?_
  repeat' (first | (conv in hold _ => simp (disch := omega) only [go_sem]) | exact True.intro | exact Sub.refl _ | omega)
  all_goals exact hs
theorem plan_grpc (h : Pre bs ws p j u d x t k6 c n q j1 u1) (hc : c = 9) (hn1 : 1 < n) {g : Int} (hg : DPick bs (q + 1) n g) : DPlan bs ws p j u ((d + 1 : Nat) : Int) (.mk 8 0 [] [g] [x]) (q + 2) j1 u1 := by
  obtain ⟨hl, hd, h1, h2, h6, hk, hw, hn, h3, hj, hu⟩ := h
  subst hc
  have hs : Sub (.agg [I 8, I 0, .nul, .sl 1 [I g], .sl 5 [pD x]]) (pD (.mk 8 0 [] [g] [x])) := plS (Sub.nul 5) (Sub.refl _) (Sub.refl _)
  simp only [go_sem] at hs
  refine does c_spec_pplanner_plan mixed (Nat.le_of_ble_eq_true rfl) 3 rfl ?_
  conv => arg 3; whnf
  repeat' (first
    | with_reducible refine acc_none ?_ | (conv in hold _ => simp (disch := omega) only [go_sem]) | refine Stp.go ?_ | (with_reducible first | refine it_pos rfl ?_ | refine it_neg (by decide) ?_ | refine st_nil rfl ?_ | refine s_op ?_ ?_ | exact True.intro) | ((with_reducible first | refine dw_reg0 ?_ | refine dw_regB ?_); (conv => arg 3; whnf)) | (refine Spl.go (fun hq he => ?_) (fun hq he => ?_) <;> first | (exfalso; clear hq; omega) | ((try (first | (conv => arg 8; simp only [hq]) | (conv => arg 4; simp only [hq]))); clear hq)) | ((with_reducible first | refine c_split (fun hq => ?_) (fun hq => ?_) | refine q_split (fun hq => ?_) (fun hq => ?_)) <;> (try (first | (conv => arg 8; simp only [hq]) | (conv => arg 4; simp only [hq])))) | (with_reducible refine fin_0 ?_ (by first | rfl | (conv => lhs; simp only [go_sem])) ?_)
    | (with_reducible show evC _ _ _ _ _ _ _ _ _ _ _ _
       first
       | (refine c_doesR [1000001] (h1) (callOK_of rfl (Nat.le_of_ble_eq_true rfl) rfl ?_ ?_) ?_ ?_
          iterate 2 · repeat' (first | (conv in hold _ => simp (disch := omega) only [go_sem]) | exact True.intro | exact Sub.refl _ | omega)
          · ((conv => rhs; simp (disch := omega) only [go_sem]); try rfl))
       | (refine c_doesR [1000001] (h2) (callOK_of rfl (Nat.le_of_ble_eq_true rfl) rfl ?_ ?_) ?_ ?_
          iterate 2 · repeat' (first | (conv in hold _ => simp (disch := omega) only [go_sem]) | exact True.intro | exact Sub.refl _ | omega)
          · ((conv => rhs; simp (disch := omega) only [go_sem]); try rfl))
       | (refine c_doesR [1000000, 1000001, 1000002] (hk) (callOK_of rfl (Nat.le_of_ble_eq_true rfl) rfl ?_ ?_) ?_ ?_
          iterate 2 · repeat' (first | (conv in hold _ => simp (disch := omega) only [go_sem]) | exact True.intro | exact Sub.refl _ | omega)
          · ((conv => rhs; simp (disch := omega) only [go_sem]); try rfl))
       | (refine c_doesR [1000002] (hw) (callOK_of rfl (Nat.le_of_ble_eq_true rfl) rfl ?_ ?_) ?_ ?_
          iterate 2 · repeat' (first | (conv in hold _ => simp (disch := omega) only [go_sem]) | exact True.intro | exact Sub.refl _ | omega)
          · ((conv => rhs; simp (disch := omega) only [go_sem]); try rfl))
       | (refine c_doesR [1000001] (h3) (callOK_of rfl (Nat.le_of_ble_eq_true rfl) rfl ?_ ?_) ?_ ?_
          iterate 2 · repeat' (first | (conv in hold _ => simp (disch := omega) only [go_sem]) | exact True.intro | exact Sub.refl _ | omega)
          · ((conv => rhs; simp (disch := omega) only [go_sem]); try rfl))
       | (refine c_doesR [1000001] (hg) (callOK_of rfl (Nat.le_of_ble_eq_true rfl) rfl ?_ ?_) ?_ ?_
          iterate 2 · repeat' (first | (conv in hold _ => simp (disch := omega) only [go_sem]) | exact True.intro | exact Sub.refl _ | omega)
          · ((conv => rhs; simp (disch := omega) only [go_sem]); try rfl)))
    | exact Sub.refl _ | omega)
  refine fin_L [1000000, 1000001, 1000002] ?_ ?_ rfl ?_
  repeat' (first | (conv in hold _ => simp (disch := omega) only [go_sem]) | exact True.intro | exact Sub.refl _ | omega)
  all_goals exact hs
theorem plan_uni (h : Pre bs ws p j u d x t k6 c n q j1 u1) (hc : c = 7) (hu1 : 0 < u1) (hsz : psz x ≤ 900000) {e : E} {q2 : Nat} (hce : DCond bs (q + 1) n e q2) : DPlan bs ws p j u ((d + 1 : Nat) : Int) (.mk 6 0 [] [] [x, .mk 2 0 [e] [] [x]]) q2 j1 (u1 - 1) := by
  obtain ⟨hl, hd, h1, h2, h6, hk, hw, hn, h3, hj, hu⟩ := h
  subst hc
  have hf := filterOf_ok e x
  have hcp := copyPlan_ok x hsz
  have hs : Sub (.agg [I 6, I 0, .nul, .nul, .sl 5 [pD x, pD (.mk 2 0 [e] [] [x])]]) (pD (.mk 6 0 [] [] [x, .mk 2 0 [e] [] [x]])) := plS (Sub.nul 5) (Sub.nul 1) (Sub.refl _)
  simp only [go_sem] at hs
  have hu2 : ((u1 - 1 : Nat) : Int) = (u1 : Int) - 1 := by omega
  refine does c_spec_pplanner_plan mixed (Nat.le_of_ble_eq_true rfl) 3 rfl ?_
  conv => arg 3; whnf
  repeat' (first
    | with_reducible refine acc_none ?_ | (conv in hold _ => simp (disch := omega) only [go_sem]) | refine Stp.go ?_ | (with_reducible first | refine it_pos rfl ?_ | refine it_neg (by decide) ?_ | refine st_nil rfl ?_ | refine s_op ?_ ?_ | exact True.intro) | ((with_reducible first | refine dw_reg0 ?_ | refine dw_regB ?_); (conv => arg 3; whnf)) | (refine Spl.go (fun hq he => ?_) (fun hq he => ?_) <;> first | (exfalso; clear hq; omega) | ((try (first | (conv => arg 8; simp only [hq]) | (conv => arg 4; simp only [hq]))); clear hq)) | ((with_reducible first | refine c_split (fun hq => ?_) (fun hq => ?_) | refine q_split (fun hq => ?_) (fun hq => ?_)) <;> (try (first | (conv => arg 8; simp only [hq]) | (conv => arg 4; simp only [hq])))) | (with_reducible refine fin_0 ?_ (by first | rfl | (conv => lhs; simp only [go_sem])) ?_)
    | (with_reducible show evC _ _ _ _ _ _ _ _ _ _ _ _
       first
       | (refine c_doesR [1000001] (h1) (callOK_of rfl (Nat.le_of_ble_eq_true rfl) rfl ?_ ?_) ?_ ?_
          iterate 2 · repeat' (first | (conv in hold _ => simp (disch := omega) only [go_sem]) | exact True.intro | exact Sub.refl _ | omega)
          · ((conv => rhs; simp (disch := omega) only [go_sem]); try rfl))
       | (refine c_doesR [1000001] (h2) (callOK_of rfl (Nat.le_of_ble_eq_true rfl) rfl ?_ ?_) ?_ ?_
          iterate 2 · repeat' (first | (conv in hold _ => simp (disch := omega) only [go_sem]) | exact True.intro | exact Sub.refl _ | omega)
          · ((conv => rhs; simp (disch := omega) only [go_sem]); try rfl))
       | (refine c_doesR [1000000, 1000001, 1000002] (hk) (callOK_of rfl (Nat.le_of_ble_eq_true rfl) rfl ?_ ?_) ?_ ?_
          iterate 2 · repeat' (first | (conv in hold _ => simp (disch := omega) only [go_sem]) | exact True.intro | exact Sub.refl _ | omega)
          · ((conv => rhs; simp (disch := omega) only [go_sem]); try rfl))
       | (refine c_doesR [1000002] (hw) (callOK_of rfl (Nat.le_of_ble_eq_true rfl) rfl ?_ ?_) ?_ ?_
          iterate 2 · repeat' (first | (conv in hold _ => simp (disch := omega) only [go_sem]) | exact True.intro | exact Sub.refl _ | omega)
          · ((conv => rhs; simp (disch := omega) only [go_sem]); try rfl))
       | (refine c_doesR [1000001] (h3) (callOK_of rfl (Nat.le_of_ble_eq_true rfl) rfl ?_ ?_) ?_ ?_
          iterate 2 · repeat' (first | (conv in hold _ => simp (disch := omega) only [go_sem]) | exact True.intro | exact Sub.refl _ | omega)
          · ((conv => rhs; simp (disch := omega) only [go_sem]); try rfl))
       | (refine c_doesR [1000001] (hce) (callOK_of rfl (Nat.le_of_ble_eq_true rfl) rfl ?_ ?_) ?_ ?_
          iterate 2 · repeat' (first | (conv in hold _ => simp (disch := omega) only [go_sem]) | exact True.intro | exact Sub.refl _ | omega)
          · ((conv => rhs; simp (disch := omega) only [go_sem]); try rfl))
       | (refine c_doesE (hcp) ?_ ?_ ?_
          · ((try (conv => rhs; simp (disch := omega) only [go_sem])); try rfl)
          · first | rfl | (conv => lhs; simp only [go_sem]))
       | (refine c_doesE (hf) ?_ ?_ ?_
          · ((try (conv => rhs; simp (disch := omega) only [go_sem])); try rfl)
          · first | rfl | (conv => lhs; simp only [go_sem])))
    | exact Sub.refl _ | omega)
  refine fin_L [1000000, 1000001, 1000002] ?_ ?_ rfl ?_
  repeat' (first | (conv in hold _ => simp (disch := omega) only [go_sem, hu2]) | exact True.intro | exact Sub.refl _ | omega)
  all_goals exact hs
theorem plan_join (h : Pre bs ws p j u d x t k6 c n q j1 u1) (hc : c = 5 ∨ c = 6) (hj0 : 0 < j1) (hn4 : n ≤ 4) {d2 : Int} (hd2 : DPick bs (q + 1) 2 d2) {y : Pl} {q2 j2 u2 : Nat} (hy : DPlan bs ws (q + 2) (j1 - 1) u1 d2 y q2 j2 u2) {m : Int} (hm : DWid ws y m) (hm0 : 0 ≤ m ∧ m ≤ 6) (hnm : n + m ≤ 6)
    {k : Int} (hkk : Does Try.prog 32 [rdD bs q2] [.ref 1000000 0, .sl 1 ([4, 5].map I)] (I k) [rdD bs (q2 + 1)]) {e : E} {q3 : Nat} (hce : DCond bs (q2 + 1) (n + m) e q3) : DPlan bs ws p j u ((d + 1 : Nat) : Int) (.mk k 0 [e] [] [x, y]) q3 j2 u2 := by
  obtain ⟨hl, hd, h1, h2, h6, hk, hw, hn, h3, hj, hu⟩ := h
  have hs : Sub (.agg [I k, I 0, .sl 5 [eD e], .nul, .sl 5 [pD x, pD y]]) (pD (.mk k 0 [e] [] [x, y])) := plS (Sub.refl _) (Sub.nul 1) (Sub.refl _)
  simp only [go_sem] at hs
  have hj2 : ((j1 - 1 : Nat) : Int) = (j1 : Int) - 1 := by omega
  unfold DPlan gnD at hy
  rw [hj2] at hy
  rcases hc with rfl | rfl
  all_goals
    refine does c_spec_pplanner_plan mixed (Nat.le_of_ble_eq_true rfl) 3 rfl ?_
    conv => arg 3; whnf
    repeat' (first
      | with_reducible refine acc_none ?_ | (conv in hold _ => simp (disch := omega) only [go_sem]) | refine Stp.go ?_ | (with_reducible first | refine it_pos rfl ?_ | refine it_neg (by decide) ?_ | refine st_nil rfl ?_ | refine s_op ?_ ?_ | exact True.intro) | ((with_reducible first | refine dw_reg0 ?_ | refine dw_regB ?_); (conv => arg 3; whnf)) | (refine Spl.go (fun hq he => ?_) (fun hq he => ?_) <;> first | (exfalso; clear hq; omega) | ((try (first | (conv => arg 8; simp only [hq]) | (conv => arg 4; simp only [hq]))); clear hq)) | ((with_reducible first | refine c_split (fun hq => ?_) (fun hq => ?_) | refine q_split (fun hq => ?_) (fun hq => ?_)) <;> (try (first | (conv => arg 8; simp only [hq]) | (conv => arg 4; simp only [hq])))) | (with_reducible refine fin_0 ?_ (by first | rfl | (conv => lhs; simp only [go_sem])) ?_)
      | (with_reducible show evC _ _ _ _ _ _ _ _ _ _ _ _
         first
         | (refine c_doesR [1000001] (h1) (callOK_of rfl (Nat.le_of_ble_eq_true rfl) rfl ?_ ?_) ?_ ?_
            iterate 2 · repeat' (first | (conv in hold _ => simp (disch := omega) only [go_sem]) | exact True.intro | exact Sub.refl _ | omega)
            · ((conv => rhs; simp (disch := omega) only [go_sem]); try rfl))
         | (refine c_doesR [1000001] (h2) (callOK_of rfl (Nat.le_of_ble_eq_true rfl) rfl ?_ ?_) ?_ ?_
            iterate 2 · repeat' (first | (conv in hold _ => simp (disch := omega) only [go_sem]) | exact True.intro | exact Sub.refl _ | omega)
            · ((conv => rhs; simp (disch := omega) only [go_sem]); try rfl))
         | (refine c_doesR [1000000, 1000001, 1000002] (hk) (callOK_of rfl (Nat.le_of_ble_eq_true rfl) rfl ?_ ?_) ?_ ?_
            iterate 2 · repeat' (first | (conv in hold _ => simp (disch := omega) only [go_sem]) | exact True.intro | exact Sub.refl _ | omega)
            · ((conv => rhs; simp (disch := omega) only [go_sem]); try rfl))
         | (refine c_doesR [1000002] (hw) (callOK_of rfl (Nat.le_of_ble_eq_true rfl) rfl ?_ ?_) ?_ ?_
            iterate 2 · repeat' (first | (conv in hold _ => simp (disch := omega) only [go_sem]) | exact True.intro | exact Sub.refl _ | omega)
            · ((conv => rhs; simp (disch := omega) only [go_sem]); try rfl))
         | (refine c_doesR [1000001] (h3) (callOK_of rfl (Nat.le_of_ble_eq_true rfl) rfl ?_ ?_) ?_ ?_
            iterate 2 · repeat' (first | (conv in hold _ => simp (disch := omega) only [go_sem]) | exact True.intro | exact Sub.refl _ | omega)
            · ((conv => rhs; simp (disch := omega) only [go_sem]); try rfl))
         | (refine c_doesR [1000001] (hd2) (callOK_of rfl (Nat.le_of_ble_eq_true rfl) rfl ?_ ?_) ?_ ?_
            iterate 2 · repeat' (first | (conv in hold _ => simp (disch := omega) only [go_sem]) | exact True.intro | exact Sub.refl _ | omega)
            · ((conv => rhs; simp (disch := omega) only [go_sem]); try rfl))
         | (refine c_doesR [1000000, 1000001, 1000002] (hy) (callOK_of rfl (Nat.le_of_ble_eq_true rfl) rfl ?_ ?_) ?_ ?_
            iterate 2 · repeat' (first | (conv in hold _ => simp (disch := omega) only [go_sem]) | exact True.intro | exact Sub.refl _ | omega)
            · ((conv => rhs; simp (disch := omega) only [go_sem]); try rfl))
         | (refine c_doesR [1000002] (hm) (callOK_of rfl (Nat.le_of_ble_eq_true rfl) rfl ?_ ?_) ?_ ?_
            iterate 2 · repeat' (first | (conv in hold _ => simp (disch := omega) only [go_sem]) | exact True.intro | exact Sub.refl _ | omega)
            · ((conv => rhs; simp (disch := omega) only [go_sem]); try rfl))
         | (refine c_doesR [1000001] (hkk) (callOK_of rfl (Nat.le_of_ble_eq_true rfl) rfl ?_ ?_) ?_ ?_
            iterate 2 · repeat' (first | (conv in hold _ => simp (disch := omega) only [go_sem]) | exact True.intro | exact Sub.refl _ | omega)
            · ((conv => rhs; simp (disch := omega) only [go_sem]); try rfl))
         | (refine c_doesR [1000001] (hce) (callOK_of rfl (Nat.le_of_ble_eq_true rfl) rfl ?_ ?_) ?_ ?_
            iterate 2 · repeat' (first | (conv in hold _ => simp (disch := omega) only [go_sem]) | exact True.intro | exact Sub.refl _ | omega)
            · ((conv => rhs; simp (disch := omega) only [go_sem]); try rfl)))
      | exact Sub.refl _ | omega)
    refine fin_L [1000000, 1000001, 1000002] ?_ ?_ rfl ?_
    repeat' (first | (conv in hold _ => simp (disch := omega) only [go_sem]) | exact True.intro | exact Sub.refl _ | omega)
  all_goals exact hs
theorem plan_wide (h : Pre bs ws p j u d x t k6 c n q j1 u1) (hc : c = 5 ∨ c = 6) (hj0 : 0 < j1) (hn4 : n ≤ 4) {d2 : Int} (hd2 : DPick bs (q + 1) 2 d2) {y : Pl} {q2 j2 u2 : Nat} (hy : DPlan bs ws (q + 2) (j1 - 1) u1 d2 y q2 j2 u2) {m : Int} (hm : DWid ws y m) (hm0 : 0 ≤ m ∧ m ≤ 6) (hnm : ¬ n + m ≤ 6)
    {e : E} {q3 : Nat} (hce : DCond bs q2 n e q3) : DPlan bs ws p j u ((d + 1 : Nat) : Int) (.mk 2 0 [e] [] [x]) q3 j2 u2 := by
  obtain ⟨hl, hd, h1, h2, h6, hk, hw, hn, h3, hj, hu⟩ := h
  have hf := filterOf_ok e x
  have hj2 : ((j1 - 1 : Nat) : Int) = (j1 : Int) - 1 := by omega
  unfold DPlan gnD at hy
  rw [hj2] at hy
  rcases hc with rfl | rfl
  all_goals
    refine does c_spec_pplanner_plan mixed (Nat.le_of_ble_eq_true rfl) 3 rfl ?_
    conv => arg 3; whnf
    repeat' (first
      | with_reducible refine acc_none ?_ | (conv in hold _ => simp (disch := omega) only [go_sem]) | refine Stp.go ?_ | (with_reducible first | refine it_pos rfl ?_ | refine it_neg (by decide) ?_ | refine st_nil rfl ?_ | refine s_op ?_ ?_ | exact True.intro) | ((with_reducible first | refine dw_reg0 ?_ | refine dw_regB ?_); (conv => arg 3; whnf)) | (refine Spl.go (fun hq he => ?_) (fun hq he => ?_) <;> first | (exfalso; clear hq; omega) | ((try (first | (conv => arg 8; simp only [hq]) | (conv => arg 4; simp only [hq]))); clear hq)) | ((with_reducible first | refine c_split (fun hq => ?_) (fun hq => ?_) | refine q_split (fun hq => ?_) (fun hq => ?_)) <;> (try (first | (conv => arg 8; simp only [hq]) | (conv => arg 4; simp only [hq])))) | (with_reducible refine fin_0 ?_ (by first | rfl | (conv => lhs; simp only [go_sem])) ?_)
      | (with_reducible show evC _ _ _ _ _ _ _ _ _ _ _ _
         first
         | (refine c_doesR [1000001] (h1) (callOK_of rfl (Nat.le_of_ble_eq_true rfl) rfl ?_ ?_) ?_ ?_
            iterate 2 · repeat' (first | (conv in hold _ => simp (disch := omega) only [go_sem]) | exact True.intro | exact Sub.refl _ | omega)
            · ((conv => rhs; simp (disch := omega) only [go_sem]); try rfl))
         | (refine c_doesR [1000001] (h2) (callOK_of rfl (Nat.le_of_ble_eq_true rfl) rfl ?_ ?_) ?_ ?_
            iterate 2 · repeat' (first | (conv in hold _ => simp (disch := omega) only [go_sem]) | exact True.intro | exact Sub.refl _ | omega)
            · ((conv => rhs; simp (disch := omega) only [go_sem]); try rfl))
         | (refine c_doesR [1000000, 1000001, 1000002] (hk) (callOK_of rfl (Nat.le_of_ble_eq_true rfl) rfl ?_ ?_) ?_ ?_
            iterate 2 · repeat' (first | (conv in hold _ => simp (disch := omega) only [go_sem]) | exact True.intro | exact Sub.refl _ | omega)
            · ((conv => rhs; simp (disch := omega) only [go_sem]); try rfl))
         | (refine c_doesR [1000002] (hw) (callOK_of rfl (Nat.le_of_ble_eq_true rfl) rfl ?_ ?_) ?_ ?_
            iterate 2 · repeat' (first | (conv in hold _ => simp (disch := omega) only [go_sem]) | exact True.intro | exact Sub.refl _ | omega)
            · ((conv => rhs; simp (disch := omega) only [go_sem]); try rfl))
         | (refine c_doesR [1000001] (h3) (callOK_of rfl (Nat.le_of_ble_eq_true rfl) rfl ?_ ?_) ?_ ?_
            iterate 2 · repeat' (first | (conv in hold _ => simp (disch := omega) only [go_sem]) | exact True.intro | exact Sub.refl _ | omega)
            · ((conv => rhs; simp (disch := omega) only [go_sem]); try rfl))
         | (refine c_doesR [1000001] (hd2) (callOK_of rfl (Nat.le_of_ble_eq_true rfl) rfl ?_ ?_) ?_ ?_
            iterate 2 · repeat' (first | (conv in hold _ => simp (disch := omega) only [go_sem]) | exact True.intro | exact Sub.refl _ | omega)
            · ((conv => rhs; simp (disch := omega) only [go_sem]); try rfl))
         | (refine c_doesR [1000000, 1000001, 1000002] (hy) (callOK_of rfl (Nat.le_of_ble_eq_true rfl) rfl ?_ ?_) ?_ ?_
            iterate 2 · repeat' (first | (conv in hold _ => simp (disch := omega) only [go_sem]) | exact True.intro | exact Sub.refl _ | omega)
            · ((conv => rhs; simp (disch := omega) only [go_sem]); try rfl))
         | (refine c_doesR [1000002] (hm) (callOK_of rfl (Nat.le_of_ble_eq_true rfl) rfl ?_ ?_) ?_ ?_
            iterate 2 · repeat' (first | (conv in hold _ => simp (disch := omega) only [go_sem]) | exact True.intro | exact Sub.refl _ | omega)
            · ((conv => rhs; simp (disch := omega) only [go_sem]); try rfl))
         | (refine c_doesR [1000001] (hce) (callOK_of rfl (Nat.le_of_ble_eq_true rfl) rfl ?_ ?_) ?_ ?_
            iterate 2 · repeat' (first | (conv in hold _ => simp (disch := omega) only [go_sem]) | exact True.intro | exact Sub.refl _ | omega)
            · ((conv => rhs; simp (disch := omega) only [go_sem]); try rfl))
         | (refine c_doesE (hf) ?_ ?_ ?_
            · ((try (conv => rhs; simp (disch := omega) only [go_sem])); try rfl)
            · first | rfl | (conv => lhs; simp only [go_sem])))
      | exact Sub.refl _ | omega)
    refine fin_L [1000000, 1000001, 1000002] ?_ ?_ rfl ?_
    repeat' (first | (conv in hold _ => simp (disch := omega) only [go_sem]) | exact True.intro | exact Sub.refl _ | omega)
/-- One drawn part of a projection. -/
def DOne (bs : List Nat) (n : Int) (p : Nat) (e : E) (q : Nat) : Prop := (∃ dd : Int, DPick bs p 2 dd ∧ Does Try.prog 66 [rdD bs (p + 1)] [.ref 1000000 0, I n, I dd] (eD e) [rdD bs q]) ∧ esz e ≤ 3
theorem one_drawn (hs : Src bs) (n : Int) (hn : n < 1000) (p : Nat) (hp : p < 600000000) : ∃ e q, DOne bs n p e q ∧ p ≤ q ∧ q ≤ p + 60 := by
  obtain ⟨dd, hdd, d0, d1, _⟩ := pick_ok hs p (by omega) 2 (by omega)
  have hd1 := d1 (by omega)
  obtain ⟨m, rfl⟩ := Int.eq_ofNat_of_zero_le d0
  have hb0 : bnd 0 = 5 := by decide
  have hb1 : bnd 1 = 20 := by decide
  have hz0 : szb 0 = 1 := by decide
  have hz1 : szb 1 = 3 := by decide
  have hm : m = 0 ∨ m = 1 := by omega
  rcases hm with rfl | rfl
  · obtain ⟨e, q, he, hq0, hq1, hz⟩ := randomExpr_ok hs n hn 0 (p + 1) (by omega)
    exact ⟨e, q, ⟨⟨_, hdd, he⟩, by omega⟩, by omega, by omega⟩
  · obtain ⟨e, q, he, hq0, hq1, hz⟩ := randomExpr_ok hs n hn 1 (p + 1) (by omega)
    exact ⟨e, q, ⟨⟨_, hdd, he⟩, by omega⟩, by omega, by omega⟩
theorem plan_proj (h : Pre bs ws p j u d x t k6 c n q j1 u1) (hc : c = 3 ∨ c = 4) {mm : Nat} (hmm : DPick bs (q + 1) 2 mm) (hm1 : mm ≤ 1) {es : List E} {ps : Nat → Nat} (hel : es.length = 1 + mm) (h0 : ps 0 = q + 2) (hes : ∀ i e, es[i]? = some e → DOne bs n (ps i) e (ps (i + 1))) : DPlan bs ws p j u ((d + 1 : Nat) : Int) (.mk 3 0 es [] [x]) (ps (1 + mm)) j1 u1 := by
  obtain ⟨hl, hd, h1, h2, h6, hk, hw, hn, h3, hj, hu⟩ := h
  have hs : Sub (.agg [I 3, I 0, .sl 5 (es.map eD), .nul, .sl 5 [pD x]]) (pD (.mk 3 0 es [] [x])) := plS (Sub.refl _) (Sub.nul 1) (Sub.refl _)
  simp only [go_sem] at hs
  rcases hc with rfl | rfl
  all_goals
    refine does c_spec_pplanner_plan mixed (Nat.le_of_ble_eq_true rfl) 3 rfl ?_
    conv => arg 3; whnf
    repeat' (first
      | with_reducible refine acc_none ?_ | (conv in hold _ => simp (disch := omega) only [go_sem]) | refine Stp.go ?_ | (with_reducible first | refine it_pos rfl ?_ | refine it_neg (by decide) ?_ | refine st_nil rfl ?_ | refine s_op ?_ ?_ | exact True.intro) | ((with_reducible first | refine dw_reg0 ?_ | refine dw_regB ?_); (conv => arg 3; whnf)) | (refine Spl.go (fun hq he => ?_) (fun hq he => ?_) <;> first | (exfalso; clear hq; omega) | ((try (first | (conv => arg 8; simp only [hq]) | (conv => arg 4; simp only [hq]))); clear hq)) | ((with_reducible first | refine c_split (fun hq => ?_) (fun hq => ?_) | refine q_split (fun hq => ?_) (fun hq => ?_)) <;> (try (first | (conv => arg 8; simp only [hq]) | (conv => arg 4; simp only [hq])))) | (with_reducible refine fin_0 ?_ (by first | rfl | (conv => lhs; simp only [go_sem])) ?_)
      | (with_reducible show evC _ _ _ _ _ _ _ _ _ _ _ _
         first
         | (refine c_doesR [1000001] (h1) (callOK_of rfl (Nat.le_of_ble_eq_true rfl) rfl ?_ ?_) ?_ ?_
            iterate 2 · repeat' (first | (conv in hold _ => simp (disch := omega) only [go_sem]) | exact True.intro | exact Sub.refl _ | omega)
            · ((conv => rhs; simp (disch := omega) only [go_sem]); try rfl))
         | (refine c_doesR [1000001] (h2) (callOK_of rfl (Nat.le_of_ble_eq_true rfl) rfl ?_ ?_) ?_ ?_
            iterate 2 · repeat' (first | (conv in hold _ => simp (disch := omega) only [go_sem]) | exact True.intro | exact Sub.refl _ | omega)
            · ((conv => rhs; simp (disch := omega) only [go_sem]); try rfl))
         | (refine c_doesR [1000000, 1000001, 1000002] (hk) (callOK_of rfl (Nat.le_of_ble_eq_true rfl) rfl ?_ ?_) ?_ ?_
            iterate 2 · repeat' (first | (conv in hold _ => simp (disch := omega) only [go_sem]) | exact True.intro | exact Sub.refl _ | omega)
            · ((conv => rhs; simp (disch := omega) only [go_sem]); try rfl))
         | (refine c_doesR [1000002] (hw) (callOK_of rfl (Nat.le_of_ble_eq_true rfl) rfl ?_ ?_) ?_ ?_
            iterate 2 · repeat' (first | (conv in hold _ => simp (disch := omega) only [go_sem]) | exact True.intro | exact Sub.refl _ | omega)
            · ((conv => rhs; simp (disch := omega) only [go_sem]); try rfl))
         | (refine c_doesR [1000001] (h3) (callOK_of rfl (Nat.le_of_ble_eq_true rfl) rfl ?_ ?_) ?_ ?_
            iterate 2 · repeat' (first | (conv in hold _ => simp (disch := omega) only [go_sem]) | exact True.intro | exact Sub.refl _ | omega)
            · ((conv => rhs; simp (disch := omega) only [go_sem]); try rfl))
         | (refine c_doesR [1000001] (hmm) (callOK_of rfl (Nat.le_of_ble_eq_true rfl) rfl ?_ ?_) ?_ ?_
            iterate 2 · repeat' (first | (conv in hold _ => simp (disch := omega) only [go_sem]) | exact True.intro | exact Sub.refl _ | omega)
            · ((conv => rhs; simp (disch := omega) only [go_sem]); try rfl)))
      | exact Sub.refl _ | omega)
    refine dw_for (c := 6) (l := fun i => [(4, .ref 1000003 0), (5, .ref 1000001 0), (7, .ref 1000004 0), (8, I n), (9, .own 1000005 5 i), (10, I (1 + (mm : Int) - i)), (1000000, gnD ws j1 u1), (1000001, rdD bs (ps i)), (1000002, wrD ws), (1000003, .obj [I 0, I 0, .nul, .nul, .nul]), (1000004, .obj [I x.k, I x.t, .sl 5 (x.es.map eD), .sl 1 (x.cs.map I), .sl 5 (x.ks.map pD)]), (1000005, .row 5 ((es.take i).map eD))]) (1 + mm) (fun _ => True) 0 trivial ((wk_row 9 2000099 5 (by decide) (by decide) rfl rfl).trans (Wk.list [1000000, 1000001, 1000002, 2000004, 2000007, 2000099] rfl rfl ?_)) (fun i hi _ => ?_) (Nat.zero_le _)
    · rw [h0]
      repeat' (first | (conv in hold _ => simp (disch := omega) only [go_sem]) | exact True.intro | exact Sub.refl _ | omega)
      exact congrArg (fun n => D.v (Value.int .i64 n)) (by omega)
    · have hlt := take_len (vs := es) (i := i) (by omega)
      have hmt := take_map eD (vs := es) (i := i) (by omega)
      by_cases hil : i < 1 + mm
      · obtain ⟨e, he1⟩ : ∃ e, es[i]? = some e := ⟨es[i], List.getElem?_eq_getElem (by omega)⟩
        obtain ⟨⟨dd, hx1, hx2⟩, _⟩ := hes i e he1
        have hnx := take_next he1
        repeat' (first
          | with_reducible refine acc_none ?_ | (conv in hold _ => simp (disch := omega) only [go_sem]) | refine Stp.go ?_ | (with_reducible first | refine it_pos rfl ?_ | refine it_neg (by decide) ?_ | refine st_nil rfl ?_ | refine s_op ?_ ?_ | exact True.intro) | ((with_reducible first | refine dw_reg0 ?_ | refine dw_regB ?_); (conv => arg 3; whnf)) | (refine Spl.go (fun hq he => ?_) (fun hq he => ?_) <;> first | (exfalso; clear hq; omega) | ((try (first | (conv => arg 8; simp only [hq]) | (conv => arg 4; simp only [hq]))); clear hq)) | ((with_reducible first | refine c_split (fun hq => ?_) (fun hq => ?_) | refine q_split (fun hq => ?_) (fun hq => ?_)) <;> (try (first | (conv => arg 8; simp only [hq]) | (conv => arg 4; simp only [hq])))) | (with_reducible refine fin_0 ?_ (by first | rfl | (conv => lhs; simp only [go_sem])) ?_)
          | (with_reducible show evC _ _ _ _ _ _ _ _ _ _ _ _
             first
             | (refine c_doesR [1000001] (hx1) (callOK_of rfl (Nat.le_of_ble_eq_true rfl) rfl ?_ ?_) ?_ ?_
                iterate 2 · repeat' (first | (conv in hold _ => simp (disch := omega) only [go_sem]) | exact True.intro | exact Sub.refl _ | omega)
                · ((conv => rhs; simp (disch := omega) only [go_sem]); try rfl))
             | (refine c_doesR [1000001] (hx2) (callOK_of rfl (Nat.le_of_ble_eq_true rfl) rfl ?_ ?_) ?_ ?_
                iterate 2 · repeat' (first | (conv in hold _ => simp (disch := omega) only [go_sem]) | exact True.intro | exact Sub.refl _ | omega)
                · ((conv => rhs; simp (disch := omega) only [go_sem]); try rfl)))
          | exact Sub.refl _ | omega)
        refine ⟨by omega, trivial, Wk.list [1000000, 1000001, 1000002, 1000003, 1000004, 2000072] rfl rfl ?_⟩
        repeat' (first | (conv in hold _ => simp (disch := omega) only [go_sem]) | exact True.intro | exact Sub.refl _ | omega)
        refine ⟨congrArg (fun n => D.v (Value.int .i64 n)) (by omega), ?_⟩
        rw [hmt, hnx, List.map_append, List.map_cons, List.map_nil, eD_eq e]
      · obtain rfl : i = 1 + mm := by omega
        have e1 : es.take (1 + mm) = es := List.take_of_length_le (by omega)
        have e2 : (es.map eD).take (1 + mm) = es.map eD := List.take_of_length_le (by rw [List.length_map]; omega)
        repeat' (first | with_reducible refine acc_none ?_ | (conv in hold _ => simp (disch := omega) only [go_sem, e1]) | refine Stp.go ?_ | (with_reducible first | refine it_pos rfl ?_ | refine it_neg (by decide) ?_ | refine st_nil rfl ?_ | refine s_op ?_ ?_ | exact True.intro) | ((with_reducible first | refine dw_reg0 ?_ | refine dw_regB ?_); (conv => arg 3; whnf)) | (refine Spl.go (fun hq he => ?_) (fun hq he => ?_) <;> first | (exfalso; clear hq; omega) | ((try (first | (conv => arg 8; simp only [hq]) | (conv => arg 4; simp only [hq]))); clear hq)) | ((with_reducible first | refine c_split (fun hq => ?_) (fun hq => ?_) | refine q_split (fun hq => ?_) (fun hq => ?_)) <;> (try (first | (conv => arg 8; simp only [hq]) | (conv => arg 4; simp only [hq])))) | exact Sub.refl _ | omega)
        refine fin_wk (wk_frzO 1000003 1000005 (by decide) (by decide) rfl (by decide) rfl ?_) ?_
        rotate_left
        (conv in hold _ => simp (disch := omega) only [go_sem, e1, e2])
        · refine fin_L [1000000, 1000001, 1000002] ?_ ?_ rfl ?_
          repeat' (first | (conv in hold _ => simp (disch := omega) only [go_sem]) | exact True.intro | exact Sub.refl _ | omega)
          rw [if_pos (by omega)]
          exact hs
        · exact exprs_pur _
end Go.Proofs.Ytikfanemeglcoaa
