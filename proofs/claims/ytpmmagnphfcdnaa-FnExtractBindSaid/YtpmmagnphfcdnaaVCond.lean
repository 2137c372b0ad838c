/-
  Drawn conditions. No condition.
-/
import Derived.Test.YtpmmagnphfcdnaaDca
import Derived.Test.YtpmmagnphfcdnaaDcg
import Derived.Test.YtpmmagnphfcdnaaVDrawE
import Derived.Test.YtpmmagnphfcdnaaVLib
set_option maxHeartbeats 4000000
set_option maxRecDepth 100000
set_option linter.unusedVariables false
set_option linter.unusedSimpArgs false
namespace Go.Proofs.Ytpmmagnphfcdnaa
open Go.RowKit

/-- The cells of an expression. -/
def eC (a : E) : List D := [I a.k, I a.c, Bo a.v.b, I a.v.n, .sl 5 (a.ks.map eD)]
theorem eD_eC (a : E) : eD a = .agg (eC a) := eD_eq a
theorem leafC (c : Int) : SubL [I 1, I c, Bo false, I 0, .nul] (eC (.mk 1 c ⟨false, 0⟩ [])) := ⟨Sub.refl _, Sub.refl _, Sub.refl _, Sub.refl _, Sub.nul 5, trivial⟩
theorem oneS {cs : List D} {a : E} (h : SubL cs (eC a)) : Sub (.sl 5 [.agg cs]) (.sl 5 [eD a]) := by
  rw [eD_eC]
  refine Sub.sl rfl (fun e he => by rw [List.mem_singleton.1 he]; rfl) ?_
  have e1 : ∀ l : List D, D.flat [.agg l] = l := fun l => by unfold D.flat; rw [List.flatMap_cons, List.flatMap_nil, List.append_nil]; rfl
  rw [e1, e1]
  exact h
theorem twoS {cs ds : List D} {a b : E} (h : SubL cs (eC a)) (h' : SubL ds (eC b)) : Sub (.sl 5 [.agg cs, .agg ds]) (.sl 5 [eD a, eD b]) := by
  rw [eD_eC, eD_eC]
  refine Sub.sl rfl (fun e he => ?_) ?_
  · rcases List.mem_cons.1 he with rfl | he
    · rfl
    · rw [List.mem_singleton.1 he]; rfl
  have e1 : ∀ l k : List D, D.flat [.agg l, .agg k] = l ++ k := fun l k => by unfold D.flat; rw [List.flatMap_cons, List.flatMap_cons, List.flatMap_nil, List.append_nil]; rfl
  rw [e1, e1]
  exact h.append h'
theorem oneC {k : Int} {cs : List D} {a : E} (h : SubL cs (eC a)) : SubL [I k, I 0, Bo false, I 0, .sl 5 [.agg cs]] (eC (.mk k 0 ⟨false, 0⟩ [a])) := ⟨Sub.refl _, Sub.refl _, Sub.refl _, Sub.refl _, oneS h, trivial⟩
theorem twoC {k : Int} {cs ds : List D} {a b : E} (h : SubL cs (eC a)) (h' : SubL ds (eC b)) : SubL [I k, I 0, Bo false, I 0, .sl 5 [.agg cs, .agg ds]] (eC (.mk k 0 ⟨false, 0⟩ [a, b])) := ⟨Sub.refl _, Sub.refl _, Sub.refl _, Sub.refl _, twoS h h', trivial⟩
def cbd : Nat → Nat
  | 0 => 80
  | d + 1 => 80 + cbd d
theorem cond_step {bs : List Nat} (hs : Src bs) (n : Int) (hn : n < 1000) (d : Nat) (ih : ∀ (d' p : Nat), d = d' + 1 → p + cbd d' < 700000000 → ∃ (e : E) (q : Nat), Does Try.prog 43 [rdD bs p] [.ref 1000000 0, I n, I d'] (eD e) [rdD bs q] ∧ p ≤ q ∧ q ≤ p + cbd d' ∧ esz e ≤ 10 + 4 * d')
    (p : Nat) (hd : d ≤ 2) (hp : p + cbd d < 700000000) : ∃ (e : E) (q : Nat), Does Try.prog 43 [rdD bs p] [.ref 1000000 0, I n, I d] (eD e) [rdD bs q] ∧ p ≤ q ∧ q ≤ p + cbd d ∧ esz e ≤ 10 + 4 * d := by
  have hb : bnd 2 = 65 := by decide
  have hz : szb 2 = 7 := by decide
  have hcb : 80 ≤ cbd d := by cases d <;> simp [cbd]
  obtain ⟨c, hc, _⟩ := pick_ok hs p (by omega) n (by omega)
  obtain ⟨m, hm, _⟩ := pick_ok hs (p + 1) (by omega) 4 (by omega)
  have hcon := constant_ok ⟨false, m⟩
  obtain ⟨j, hj, j0, j1, _⟩ := pick_ok hs (p + 2) (by omega) 3 (by omega)
  by_cases hj0 : j = 0
  · obtain ⟨c', hc', _⟩ := pick_ok hs (p + 3) (by omega) n (by omega)
    obtain ⟨k, hk, k0, k1, _⟩ := pick_ok hs (p + 4) (by omega) 8 (by omega)
    have hk1 := k1 (by omega)
    have hk7 : k = 0 ∨ (k = 2 ∧ ¬ d = 0) ∨ (k = 2 ∧ d = 0) ∨ k = 1 ∨ k = 3 ∨ k = 4 ∨ k = 5 ∨ k = 6 ∨ k = 7 := by omega
    obtain ⟨ee, qe, hxe, hqe0, hqe1⟩ := randomExpr_ok hs n hn 2 (p + 5) (by omega)
    rcases hk7 with rfl | ⟨rfl, hd0⟩ | ⟨rfl, hd0⟩ | rfl | rfl | rfl | rfl | rfl | rfl
    · refine ⟨ee, qe, ?_, by omega, by (try simp only [esz, eszL]); omega⟩
      refine does c_spec_condition mixed (Nat.le_of_ble_eq_true rfl) 1 rfl ?_
      conv => arg 3; whnf
      repeat' (first
        | with_reducible refine acc_none ?_ | (conv in hold _ => simp (disch := omega) only [go_sem]) | refine Stp.go ?_ | (with_reducible first | refine it_pos rfl ?_ | refine it_neg (by decide) ?_ | refine st_nil rfl ?_ | refine s_op ?_ ?_ | exact True.intro) | ((with_reducible first | refine dw_reg0 ?_ | refine dw_regB ?_); (conv => arg 3; whnf)) | (refine Spl.go (fun hq he => ?_) (fun hq he => ?_) <;> first | (exfalso; clear hq; omega) | ((try (first | (conv => arg 8; simp only [hq]) | (conv => arg 4; simp only [hq]))); clear hq)) | ((with_reducible first | refine c_split (fun hq => ?_) (fun hq => ?_) | refine q_split (fun hq => ?_) (fun hq => ?_)) <;> (try (first | (conv => arg 8; simp only [hq]) | (conv => arg 4; simp only [hq])))) | (with_reducible refine fin_0 ?_ (by first | rfl | (conv => lhs; simp only [go_sem])) ?_)
        | (with_reducible show evC _ _ _ _ _ _ _ _ _ _ _ _
           first
           | (refine c_doesR [1000000] (hc) (callOK_of rfl (Nat.le_of_ble_eq_true rfl) rfl ?_ ?_) ?_ ?_
              iterate 2 · repeat' (first | (conv in hold _ => simp (disch := omega) only [go_sem]) | exact True.intro | exact Sub.refl _ | omega)
              · ((conv => rhs; simp (disch := omega) only [go_sem]); try rfl))
           | (refine c_doesR [1000000] (hm) (callOK_of rfl (Nat.le_of_ble_eq_true rfl) rfl ?_ ?_) ?_ ?_
              iterate 2 · repeat' (first | (conv in hold _ => simp (disch := omega) only [go_sem]) | exact True.intro | exact Sub.refl _ | omega)
              · ((conv => rhs; simp (disch := omega) only [go_sem]); try rfl))
           | (refine c_doesE (hcon) ?_ ?_ ?_
              · ((try (conv => rhs; simp (disch := omega) only [go_sem])); try rfl)
              · first | rfl | (conv => lhs; simp only [go_sem]))
           | (refine c_doesR [1000000] (hj) (callOK_of rfl (Nat.le_of_ble_eq_true rfl) rfl ?_ ?_) ?_ ?_
              iterate 2 · repeat' (first | (conv in hold _ => simp (disch := omega) only [go_sem]) | exact True.intro | exact Sub.refl _ | omega)
              · ((conv => rhs; simp (disch := omega) only [go_sem]); try rfl))
           | (refine c_doesR [1000000] (hc') (callOK_of rfl (Nat.le_of_ble_eq_true rfl) rfl ?_ ?_) ?_ ?_
              iterate 2 · repeat' (first | (conv in hold _ => simp (disch := omega) only [go_sem]) | exact True.intro | exact Sub.refl _ | omega)
              · ((conv => rhs; simp (disch := omega) only [go_sem]); try rfl))
           | (refine c_doesR [1000000] (hk) (callOK_of rfl (Nat.le_of_ble_eq_true rfl) rfl ?_ ?_) ?_ ?_
              iterate 2 · repeat' (first | (conv in hold _ => simp (disch := omega) only [go_sem]) | exact True.intro | exact Sub.refl _ | omega)
              · ((conv => rhs; simp (disch := omega) only [go_sem]); try rfl))
           | (refine c_doesR [1000000] (hxe) (callOK_of rfl (Nat.le_of_ble_eq_true rfl) rfl ?_ ?_) ?_ ?_
              iterate 2 · repeat' (first | (conv in hold _ => simp (disch := omega) only [go_sem]) | exact True.intro | exact Sub.refl _ | omega)
              · ((conv => rhs; simp (disch := omega) only [go_sem]); try rfl)))
        | exact Sub.refl _ | omega)
      refine fin_L [1000000] ?_ ?_ rfl ?_
      repeat' (first | (conv in hold _ => simp (disch := omega) only [go_sem]) | exact True.intro | exact Sub.refl _ | omega)
    · obtain ⟨d', rfl⟩ : ∃ d', d = d' + 1 := ⟨d - 1, by omega⟩
      have hcd : cbd (d' + 1) = 80 + cbd d' := rfl
      obtain ⟨e2, q2, hx2, hq0, hq1⟩ := ih d' (p + 5) rfl (by omega)
      refine ⟨.mk 8 0 ⟨false, 0⟩ [e2, .mk 6 0 ⟨false, 0⟩ [(.mk 1 c ⟨false, 0⟩ []), (.mk 1 c' ⟨false, 0⟩ [])]], q2, ?_, by omega, by (try simp only [esz, eszL]); omega⟩
      refine does c_spec_condition mixed (Nat.le_of_ble_eq_true rfl) 1 rfl ?_
      conv => arg 3; whnf
      repeat' (first
        | with_reducible refine acc_none ?_ | (conv in hold _ => simp (disch := omega) only [go_sem]) | refine Stp.go ?_ | (with_reducible first | refine it_pos rfl ?_ | refine it_neg (by decide) ?_ | refine st_nil rfl ?_ | refine s_op ?_ ?_ | exact True.intro) | ((with_reducible first | refine dw_reg0 ?_ | refine dw_regB ?_); (conv => arg 3; whnf)) | (refine Spl.go (fun hq he => ?_) (fun hq he => ?_) <;> first | (exfalso; clear hq; omega) | ((try (first | (conv => arg 8; simp only [hq]) | (conv => arg 4; simp only [hq]))); clear hq)) | ((with_reducible first | refine c_split (fun hq => ?_) (fun hq => ?_) | refine q_split (fun hq => ?_) (fun hq => ?_)) <;> (try (first | (conv => arg 8; simp only [hq]) | (conv => arg 4; simp only [hq])))) | (with_reducible refine fin_0 ?_ (by first | rfl | (conv => lhs; simp only [go_sem])) ?_)
        | (with_reducible show evC _ _ _ _ _ _ _ _ _ _ _ _
           first
           | (refine c_doesR [1000000] (hc) (callOK_of rfl (Nat.le_of_ble_eq_true rfl) rfl ?_ ?_) ?_ ?_
              iterate 2 · repeat' (first | (conv in hold _ => simp (disch := omega) only [go_sem]) | exact True.intro | exact Sub.refl _ | omega)
              · ((conv => rhs; simp (disch := omega) only [go_sem]); try rfl))
           | (refine c_doesR [1000000] (hm) (callOK_of rfl (Nat.le_of_ble_eq_true rfl) rfl ?_ ?_) ?_ ?_
              iterate 2 · repeat' (first | (conv in hold _ => simp (disch := omega) only [go_sem]) | exact True.intro | exact Sub.refl _ | omega)
              · ((conv => rhs; simp (disch := omega) only [go_sem]); try rfl))
           | (refine c_doesE (hcon) ?_ ?_ ?_
              · ((try (conv => rhs; simp (disch := omega) only [go_sem])); try rfl)
              · first | rfl | (conv => lhs; simp only [go_sem]))
           | (refine c_doesR [1000000] (hj) (callOK_of rfl (Nat.le_of_ble_eq_true rfl) rfl ?_ ?_) ?_ ?_
              iterate 2 · repeat' (first | (conv in hold _ => simp (disch := omega) only [go_sem]) | exact True.intro | exact Sub.refl _ | omega)
              · ((conv => rhs; simp (disch := omega) only [go_sem]); try rfl))
           | (refine c_doesR [1000000] (hc') (callOK_of rfl (Nat.le_of_ble_eq_true rfl) rfl ?_ ?_) ?_ ?_
              iterate 2 · repeat' (first | (conv in hold _ => simp (disch := omega) only [go_sem]) | exact True.intro | exact Sub.refl _ | omega)
              · ((conv => rhs; simp (disch := omega) only [go_sem]); try rfl))
           | (refine c_doesR [1000000] (hk) (callOK_of rfl (Nat.le_of_ble_eq_true rfl) rfl ?_ ?_) ?_ ?_
              iterate 2 · repeat' (first | (conv in hold _ => simp (disch := omega) only [go_sem]) | exact True.intro | exact Sub.refl _ | omega)
              · ((conv => rhs; simp (disch := omega) only [go_sem]); try rfl))
           | (refine c_doesR [1000000] (hx2) (callOK_of rfl (Nat.le_of_ble_eq_true rfl) rfl ?_ ?_) ?_ ?_
              iterate 2 · repeat' (first | (conv in hold _ => simp (disch := omega) only [go_sem]) | exact True.intro | exact Sub.refl _ | omega)
              · ((conv => rhs; simp (disch := omega) only [go_sem]); try rfl)))
        | exact Sub.refl _ | omega)
      refine fin_L [1000000] ?_ ?_ rfl ?_
      repeat' (first | (conv in hold _ => simp (disch := omega) only [go_sem]) | exact True.intro | exact Sub.refl _ | omega)
      have h := Sub.agg (twoC (k := 8) (SubL.refl (eC e2)) (twoC (k := 6) (leafC c) (leafC c')))
      simp only [eC, eD_eq, E.k_mk, E.c_mk, E.v_mk, E.ks_mk, List.map_cons, List.map_nil] at h
      exact h
    refine ⟨.mk 7 0 ⟨false, 0⟩ [(.mk 1 c ⟨false, 0⟩ []), (.mk 1 c' ⟨false, 0⟩ [])], p + 5, ?_, by omega, by (try simp only [esz, eszL]); omega⟩
    rotate_left
    refine ⟨.mk 10 0 ⟨false, 0⟩ [.mk 11 0 ⟨false, 0⟩ [(.mk 1 c ⟨false, 0⟩ [])]], p + 5, ?_, by omega, by (try simp only [esz, eszL]); omega⟩
    rotate_left
    refine ⟨.mk 7 0 ⟨false, 0⟩ [(.mk 1 c' ⟨false, 0⟩ []), (.mk 1 c ⟨false, 0⟩ [])], p + 5, ?_, by omega, by (try simp only [esz, eszL]); omega⟩
    rotate_left
    refine ⟨.mk 7 0 ⟨false, 0⟩ [(.mk 1 c' ⟨false, 0⟩ []), (.mk 1 c ⟨false, 0⟩ [])], p + 5, ?_, by omega, by (try simp only [esz, eszL]); omega⟩
    rotate_left
    refine ⟨.mk 7 0 ⟨false, 0⟩ [(.mk 1 c ⟨false, 0⟩ []), (.mk 1 c' ⟨false, 0⟩ [])], p + 5, ?_, by omega, by (try simp only [esz, eszL]); omega⟩
    rotate_left
    refine ⟨.mk 6 0 ⟨false, 0⟩ [(.mk 1 c ⟨false, 0⟩ []), (.mk 1 c' ⟨false, 0⟩ [])], p + 5, ?_, by omega, by (try simp only [esz, eszL]); omega⟩
    rotate_left
    refine ⟨.mk 6 0 ⟨false, 0⟩ [(.mk 1 c ⟨false, 0⟩ []), (.mk 1 c' ⟨false, 0⟩ [])], p + 5, ?_, by omega, by (try simp only [esz, eszL]); omega⟩
    rotate_left
    all_goals
      refine does c_spec_condition mixed (Nat.le_of_ble_eq_true rfl) 1 rfl ?_
      conv => arg 3; whnf
      repeat' (first
        | with_reducible refine acc_none ?_ | (conv in hold _ => simp (disch := omega) only [go_sem]) | refine Stp.go ?_ | (with_reducible first | refine it_pos rfl ?_ | refine it_neg (by decide) ?_ | refine st_nil rfl ?_ | refine s_op ?_ ?_ | exact True.intro) | ((with_reducible first | refine dw_reg0 ?_ | refine dw_regB ?_); (conv => arg 3; whnf)) | (refine Spl.go (fun hq he => ?_) (fun hq he => ?_) <;> first | (exfalso; clear hq; omega) | ((try (first | (conv => arg 8; simp only [hq]) | (conv => arg 4; simp only [hq]))); clear hq)) | ((with_reducible first | refine c_split (fun hq => ?_) (fun hq => ?_) | refine q_split (fun hq => ?_) (fun hq => ?_)) <;> (try (first | (conv => arg 8; simp only [hq]) | (conv => arg 4; simp only [hq])))) | (with_reducible refine fin_0 ?_ (by first | rfl | (conv => lhs; simp only [go_sem])) ?_)
        | (with_reducible show evC _ _ _ _ _ _ _ _ _ _ _ _
           first
           | (refine c_doesR [1000000] (hc) (callOK_of rfl (Nat.le_of_ble_eq_true rfl) rfl ?_ ?_) ?_ ?_
              iterate 2 · repeat' (first | (conv in hold _ => simp (disch := omega) only [go_sem]) | exact True.intro | exact Sub.refl _ | omega)
              · ((conv => rhs; simp (disch := omega) only [go_sem]); try rfl))
           | (refine c_doesR [1000000] (hm) (callOK_of rfl (Nat.le_of_ble_eq_true rfl) rfl ?_ ?_) ?_ ?_
              iterate 2 · repeat' (first | (conv in hold _ => simp (disch := omega) only [go_sem]) | exact True.intro | exact Sub.refl _ | omega)
              · ((conv => rhs; simp (disch := omega) only [go_sem]); try rfl))
           | (refine c_doesE (hcon) ?_ ?_ ?_
              · ((try (conv => rhs; simp (disch := omega) only [go_sem])); try rfl)
              · first | rfl | (conv => lhs; simp only [go_sem]))
           | (refine c_doesR [1000000] (hj) (callOK_of rfl (Nat.le_of_ble_eq_true rfl) rfl ?_ ?_) ?_ ?_
              iterate 2 · repeat' (first | (conv in hold _ => simp (disch := omega) only [go_sem]) | exact True.intro | exact Sub.refl _ | omega)
              · ((conv => rhs; simp (disch := omega) only [go_sem]); try rfl))
           | (refine c_doesR [1000000] (hc') (callOK_of rfl (Nat.le_of_ble_eq_true rfl) rfl ?_ ?_) ?_ ?_
              iterate 2 · repeat' (first | (conv in hold _ => simp (disch := omega) only [go_sem]) | exact True.intro | exact Sub.refl _ | omega)
              · ((conv => rhs; simp (disch := omega) only [go_sem]); try rfl))
           | (refine c_doesR [1000000] (hk) (callOK_of rfl (Nat.le_of_ble_eq_true rfl) rfl ?_ ?_) ?_ ?_
              iterate 2 · repeat' (first | (conv in hold _ => simp (disch := omega) only [go_sem]) | exact True.intro | exact Sub.refl _ | omega)
              · ((conv => rhs; simp (disch := omega) only [go_sem]); try rfl)))
        | exact Sub.refl _ | omega)
      refine fin_L [1000000] ?_ ?_ rfl ?_
      repeat' (first | (conv in hold _ => simp (disch := omega) only [go_sem]) | exact True.intro | exact Sub.refl _ | omega)
    · exact Sub.agg (twoC (leafC c) (leafC c'))
    · exact Sub.agg (oneC (oneC (leafC c)))
    · exact Sub.agg (twoC (leafC c') (leafC c))
    · exact Sub.agg (twoC (leafC c') (leafC c))
    · exact Sub.agg (twoC (leafC c) (leafC c'))
    · exact Sub.agg (twoC (leafC c) (leafC c'))
    · exact Sub.agg (twoC (leafC c) (leafC c'))
  · obtain ⟨k, hk, k0, k1, _⟩ := pick_ok hs (p + 3) (by omega) 8 (by omega)
    have hk1 := k1 (by omega)
    have hk7 : k = 0 ∨ (k = 2 ∧ ¬ d = 0) ∨ (k = 2 ∧ d = 0) ∨ k = 1 ∨ k = 3 ∨ k = 4 ∨ k = 5 ∨ k = 6 ∨ k = 7 := by omega
    obtain ⟨ee, qe, hxe, hqe0, hqe1⟩ := randomExpr_ok hs n hn 2 (p + 4) (by omega)
    rcases hk7 with rfl | ⟨rfl, hd0⟩ | ⟨rfl, hd0⟩ | rfl | rfl | rfl | rfl | rfl | rfl
    · refine ⟨ee, qe, ?_, by omega, by (try simp only [esz, eszL]); omega⟩
      refine does c_spec_condition mixed (Nat.le_of_ble_eq_true rfl) 1 rfl ?_
      conv => arg 3; whnf
      repeat' (first
        | with_reducible refine acc_none ?_ | (conv in hold _ => simp (disch := omega) only [go_sem]) | refine Stp.go ?_ | (with_reducible first | refine it_pos rfl ?_ | refine it_neg (by decide) ?_ | refine st_nil rfl ?_ | refine s_op ?_ ?_ | exact True.intro) | ((with_reducible first | refine dw_reg0 ?_ | refine dw_regB ?_); (conv => arg 3; whnf)) | (refine Spl.go (fun hq he => ?_) (fun hq he => ?_) <;> first | (exfalso; clear hq; omega) | ((try (first | (conv => arg 8; simp only [hq]) | (conv => arg 4; simp only [hq]))); clear hq)) | ((with_reducible first | refine c_split (fun hq => ?_) (fun hq => ?_) | refine q_split (fun hq => ?_) (fun hq => ?_)) <;> (try (first | (conv => arg 8; simp only [hq]) | (conv => arg 4; simp only [hq])))) | (with_reducible refine fin_0 ?_ (by first | rfl | (conv => lhs; simp only [go_sem])) ?_)
        | (with_reducible show evC _ _ _ _ _ _ _ _ _ _ _ _
           first
           | (refine c_doesR [1000000] (hc) (callOK_of rfl (Nat.le_of_ble_eq_true rfl) rfl ?_ ?_) ?_ ?_
              iterate 2 · repeat' (first | (conv in hold _ => simp (disch := omega) only [go_sem]) | exact True.intro | exact Sub.refl _ | omega)
              · ((conv => rhs; simp (disch := omega) only [go_sem]); try rfl))
           | (refine c_doesR [1000000] (hm) (callOK_of rfl (Nat.le_of_ble_eq_true rfl) rfl ?_ ?_) ?_ ?_
              iterate 2 · repeat' (first | (conv in hold _ => simp (disch := omega) only [go_sem]) | exact True.intro | exact Sub.refl _ | omega)
              · ((conv => rhs; simp (disch := omega) only [go_sem]); try rfl))
           | (refine c_doesE (hcon) ?_ ?_ ?_
              · ((try (conv => rhs; simp (disch := omega) only [go_sem])); try rfl)
              · first | rfl | (conv => lhs; simp only [go_sem]))
           | (refine c_doesR [1000000] (hj) (callOK_of rfl (Nat.le_of_ble_eq_true rfl) rfl ?_ ?_) ?_ ?_
              iterate 2 · repeat' (first | (conv in hold _ => simp (disch := omega) only [go_sem]) | exact True.intro | exact Sub.refl _ | omega)
              · ((conv => rhs; simp (disch := omega) only [go_sem]); try rfl))
           | (refine c_doesR [1000000] (hk) (callOK_of rfl (Nat.le_of_ble_eq_true rfl) rfl ?_ ?_) ?_ ?_
              iterate 2 · repeat' (first | (conv in hold _ => simp (disch := omega) only [go_sem]) | exact True.intro | exact Sub.refl _ | omega)
              · ((conv => rhs; simp (disch := omega) only [go_sem]); try rfl))
           | (refine c_doesR [1000000] (hxe) (callOK_of rfl (Nat.le_of_ble_eq_true rfl) rfl ?_ ?_) ?_ ?_
              iterate 2 · repeat' (first | (conv in hold _ => simp (disch := omega) only [go_sem]) | exact True.intro | exact Sub.refl _ | omega)
              · ((conv => rhs; simp (disch := omega) only [go_sem]); try rfl)))
        | exact Sub.refl _ | omega)
      refine fin_L [1000000] ?_ ?_ rfl ?_
      repeat' (first | (conv in hold _ => simp (disch := omega) only [go_sem]) | exact True.intro | exact Sub.refl _ | omega)
    · obtain ⟨d', rfl⟩ : ∃ d', d = d' + 1 := ⟨d - 1, by omega⟩
      have hcd : cbd (d' + 1) = 80 + cbd d' := rfl
      obtain ⟨e2, q2, hx2, hq0, hq1⟩ := ih d' (p + 4) rfl (by omega)
      refine ⟨.mk 8 0 ⟨false, 0⟩ [e2, .mk 6 0 ⟨false, 0⟩ [(.mk 1 c ⟨false, 0⟩ []), (.mk 2 0 ⟨false, m⟩ [])]], q2, ?_, by omega, by (try simp only [esz, eszL]); omega⟩
      refine does c_spec_condition mixed (Nat.le_of_ble_eq_true rfl) 1 rfl ?_
      conv => arg 3; whnf
      repeat' (first
        | with_reducible refine acc_none ?_ | (conv in hold _ => simp (disch := omega) only [go_sem]) | refine Stp.go ?_ | (with_reducible first | refine it_pos rfl ?_ | refine it_neg (by decide) ?_ | refine st_nil rfl ?_ | refine s_op ?_ ?_ | exact True.intro) | ((with_reducible first | refine dw_reg0 ?_ | refine dw_regB ?_); (conv => arg 3; whnf)) | (refine Spl.go (fun hq he => ?_) (fun hq he => ?_) <;> first | (exfalso; clear hq; omega) | ((try (first | (conv => arg 8; simp only [hq]) | (conv => arg 4; simp only [hq]))); clear hq)) | ((with_reducible first | refine c_split (fun hq => ?_) (fun hq => ?_) | refine q_split (fun hq => ?_) (fun hq => ?_)) <;> (try (first | (conv => arg 8; simp only [hq]) | (conv => arg 4; simp only [hq])))) | (with_reducible refine fin_0 ?_ (by first | rfl | (conv => lhs; simp only [go_sem])) ?_)
        | (with_reducible show evC _ _ _ _ _ _ _ _ _ _ _ _
           first
           | (refine c_doesR [1000000] (hc) (callOK_of rfl (Nat.le_of_ble_eq_true rfl) rfl ?_ ?_) ?_ ?_
              iterate 2 · repeat' (first | (conv in hold _ => simp (disch := omega) only [go_sem]) | exact True.intro | exact Sub.refl _ | omega)
              · ((conv => rhs; simp (disch := omega) only [go_sem]); try rfl))
           | (refine c_doesR [1000000] (hm) (callOK_of rfl (Nat.le_of_ble_eq_true rfl) rfl ?_ ?_) ?_ ?_
              iterate 2 · repeat' (first | (conv in hold _ => simp (disch := omega) only [go_sem]) | exact True.intro | exact Sub.refl _ | omega)
              · ((conv => rhs; simp (disch := omega) only [go_sem]); try rfl))
           | (refine c_doesE (hcon) ?_ ?_ ?_
              · ((try (conv => rhs; simp (disch := omega) only [go_sem])); try rfl)
              · first | rfl | (conv => lhs; simp only [go_sem]))
           | (refine c_doesR [1000000] (hj) (callOK_of rfl (Nat.le_of_ble_eq_true rfl) rfl ?_ ?_) ?_ ?_
              iterate 2 · repeat' (first | (conv in hold _ => simp (disch := omega) only [go_sem]) | exact True.intro | exact Sub.refl _ | omega)
              · ((conv => rhs; simp (disch := omega) only [go_sem]); try rfl))
           | (refine c_doesR [1000000] (hk) (callOK_of rfl (Nat.le_of_ble_eq_true rfl) rfl ?_ ?_) ?_ ?_
              iterate 2 · repeat' (first | (conv in hold _ => simp (disch := omega) only [go_sem]) | exact True.intro | exact Sub.refl _ | omega)
              · ((conv => rhs; simp (disch := omega) only [go_sem]); try rfl))
           | (refine c_doesR [1000000] (hx2) (callOK_of rfl (Nat.le_of_ble_eq_true rfl) rfl ?_ ?_) ?_ ?_
              iterate 2 · repeat' (first | (conv in hold _ => simp (disch := omega) only [go_sem]) | exact True.intro | exact Sub.refl _ | omega)
              · ((conv => rhs; simp (disch := omega) only [go_sem]); try rfl)))
        | exact Sub.refl _ | omega)
      refine fin_L [1000000] ?_ ?_ rfl ?_
      repeat' (first | (conv in hold _ => simp (disch := omega) only [go_sem]) | exact True.intro | exact Sub.refl _ | omega)
      have h := Sub.agg (twoC (k := 8) (SubL.refl (eC e2)) (twoC (k := 6) (leafC c) (SubL.refl (eC (.mk 2 0 ⟨false, m⟩ [])))))
      simp only [eC, eD_eq, E.k_mk, E.c_mk, E.v_mk, E.ks_mk, List.map_cons, List.map_nil] at h
      exact h
    refine ⟨.mk 7 0 ⟨false, 0⟩ [(.mk 1 c ⟨false, 0⟩ []), (.mk 2 0 ⟨false, m⟩ [])], p + 4, ?_, by omega, by (try simp only [esz, eszL]); omega⟩
    rotate_left
    refine ⟨.mk 10 0 ⟨false, 0⟩ [.mk 11 0 ⟨false, 0⟩ [(.mk 1 c ⟨false, 0⟩ [])]], p + 4, ?_, by omega, by (try simp only [esz, eszL]); omega⟩
    rotate_left
    refine ⟨.mk 7 0 ⟨false, 0⟩ [(.mk 2 0 ⟨false, m⟩ []), (.mk 1 c ⟨false, 0⟩ [])], p + 4, ?_, by omega, by (try simp only [esz, eszL]); omega⟩
    rotate_left
    refine ⟨.mk 7 0 ⟨false, 0⟩ [(.mk 2 0 ⟨false, m⟩ []), (.mk 1 c ⟨false, 0⟩ [])], p + 4, ?_, by omega, by (try simp only [esz, eszL]); omega⟩
    rotate_left
    refine ⟨.mk 7 0 ⟨false, 0⟩ [(.mk 1 c ⟨false, 0⟩ []), (.mk 2 0 ⟨false, m⟩ [])], p + 4, ?_, by omega, by (try simp only [esz, eszL]); omega⟩
    rotate_left
    refine ⟨.mk 6 0 ⟨false, 0⟩ [(.mk 1 c ⟨false, 0⟩ []), (.mk 2 0 ⟨false, m⟩ [])], p + 4, ?_, by omega, by (try simp only [esz, eszL]); omega⟩
    rotate_left
    refine ⟨.mk 6 0 ⟨false, 0⟩ [(.mk 1 c ⟨false, 0⟩ []), (.mk 2 0 ⟨false, m⟩ [])], p + 4, ?_, by omega, by (try simp only [esz, eszL]); omega⟩
    rotate_left
    all_goals
      refine does c_spec_condition mixed (Nat.le_of_ble_eq_true rfl) 1 rfl ?_
      conv => arg 3; whnf
      repeat' (first
        | with_reducible refine acc_none ?_ | (conv in hold _ => simp (disch := omega) only [go_sem]) | refine Stp.go ?_ | (with_reducible first | refine it_pos rfl ?_ | refine it_neg (by decide) ?_ | refine st_nil rfl ?_ | refine s_op ?_ ?_ | exact True.intro) | ((with_reducible first | refine dw_reg0 ?_ | refine dw_regB ?_); (conv => arg 3; whnf)) | (refine Spl.go (fun hq he => ?_) (fun hq he => ?_) <;> first | (exfalso; clear hq; omega) | ((try (first | (conv => arg 8; simp only [hq]) | (conv => arg 4; simp only [hq]))); clear hq)) | ((with_reducible first | refine c_split (fun hq => ?_) (fun hq => ?_) | refine q_split (fun hq => ?_) (fun hq => ?_)) <;> (try (first | (conv => arg 8; simp only [hq]) | (conv => arg 4; simp only [hq])))) | (with_reducible refine fin_0 ?_ (by first | rfl | (conv => lhs; simp only [go_sem])) ?_)
        | (with_reducible show evC _ _ _ _ _ _ _ _ _ _ _ _
           first
           | (refine c_doesR [1000000] (hc) (callOK_of rfl (Nat.le_of_ble_eq_true rfl) rfl ?_ ?_) ?_ ?_
              iterate 2 · repeat' (first | (conv in hold _ => simp (disch := omega) only [go_sem]) | exact True.intro | exact Sub.refl _ | omega)
              · ((conv => rhs; simp (disch := omega) only [go_sem]); try rfl))
           | (refine c_doesR [1000000] (hm) (callOK_of rfl (Nat.le_of_ble_eq_true rfl) rfl ?_ ?_) ?_ ?_
              iterate 2 · repeat' (first | (conv in hold _ => simp (disch := omega) only [go_sem]) | exact True.intro | exact Sub.refl _ | omega)
              · ((conv => rhs; simp (disch := omega) only [go_sem]); try rfl))
           | (refine c_doesE (hcon) ?_ ?_ ?_
              · ((try (conv => rhs; simp (disch := omega) only [go_sem])); try rfl)
              · first | rfl | (conv => lhs; simp only [go_sem]))
           | (refine c_doesR [1000000] (hj) (callOK_of rfl (Nat.le_of_ble_eq_true rfl) rfl ?_ ?_) ?_ ?_
              iterate 2 · repeat' (first | (conv in hold _ => simp (disch := omega) only [go_sem]) | exact True.intro | exact Sub.refl _ | omega)
              · ((conv => rhs; simp (disch := omega) only [go_sem]); try rfl))
           | (refine c_doesR [1000000] (hk) (callOK_of rfl (Nat.le_of_ble_eq_true rfl) rfl ?_ ?_) ?_ ?_
              iterate 2 · repeat' (first | (conv in hold _ => simp (disch := omega) only [go_sem]) | exact True.intro | exact Sub.refl _ | omega)
              · ((conv => rhs; simp (disch := omega) only [go_sem]); try rfl)))
        | exact Sub.refl _ | omega)
      refine fin_L [1000000] ?_ ?_ rfl ?_
      repeat' (first | (conv in hold _ => simp (disch := omega) only [go_sem]) | exact True.intro | exact Sub.refl _ | omega)
    · exact Sub.agg (twoC (leafC c) (SubL.refl (eC (.mk 2 0 ⟨false, m⟩ []))))
    · exact Sub.agg (oneC (oneC (leafC c)))
    · exact Sub.agg (twoC (SubL.refl (eC (.mk 2 0 ⟨false, m⟩ []))) (leafC c))
    · exact Sub.agg (twoC (SubL.refl (eC (.mk 2 0 ⟨false, m⟩ []))) (leafC c))
    · exact Sub.agg (twoC (leafC c) (SubL.refl (eC (.mk 2 0 ⟨false, m⟩ []))))
    · exact Sub.agg (twoC (leafC c) (SubL.refl (eC (.mk 2 0 ⟨false, m⟩ []))))
    · exact Sub.agg (twoC (leafC c) (SubL.refl (eC (.mk 2 0 ⟨false, m⟩ []))))
theorem condition_ok {bs : List Nat} (hs : Src bs) (n : Int) (hn : n < 1000) : ∀ (d : Nat) (p : Nat), d ≤ 2 → p + cbd d < 700000000 → ∃ (e : E) (q : Nat),
    Does Try.prog 43 [rdD bs p] [.ref 1000000 0, I n, I d] (eD e) [rdD bs q] ∧ p ≤ q ∧ q ≤ p + cbd d ∧ esz e ≤ 10 + 4 * d := by
  intro d
  induction d with
  | zero => exact fun p hd hp => cond_step hs n hn 0 (fun d' p h => by omega) p hd hp
  | succ d ih =>
    intro p hd hp
    exact cond_step hs n hn (d + 1) (fun d' p h hp => by
      obtain rfl : d = d' := by omega
      exact ih p (by omega) hp) p hd hp
theorem randomCondition_ok {bs : List Nat} (hs : Src bs) (n : Int) (hn : n < 1000) (p : Nat) (hp : p < 600000000) : ∃ (e : E) (q : Nat),
    Does Try.prog 22 [rdD bs p] [.ref 1000000 0, I n] (eD e) [rdD bs q] ∧ p ≤ q ∧ q ≤ p + 240 ∧ esz e ≤ 18 := by
  have hb : cbd 2 = 240 := by decide
  obtain ⟨e, q, he, h0, h1⟩ := condition_ok hs n hn 2 p (by decide) (by omega)
  refine ⟨e, q, ?_, by omega, by (try simp only [esz, eszL]); omega⟩
  refine does c_spec_randomCondition mixed (Nat.le_of_ble_eq_true rfl) 1 rfl ?_
  conv => arg 3; whnf
  repeat' (first
    | with_reducible refine acc_none ?_ | (conv in hold _ => simp (disch := omega) only [go_sem]) | refine Stp.go ?_ | (with_reducible first | refine it_pos rfl ?_ | refine it_neg (by decide) ?_ | refine st_nil rfl ?_ | refine s_op ?_ ?_ | exact True.intro) | ((with_reducible first | refine dw_reg0 ?_ | refine dw_regB ?_); (conv => arg 3; whnf)) | (refine Spl.go (fun hq he => ?_) (fun hq he => ?_) <;> first | (exfalso; clear hq; omega) | ((try (first | (conv => arg 8; simp only [hq]) | (conv => arg 4; simp only [hq]))); clear hq)) | ((with_reducible first | refine c_split (fun hq => ?_) (fun hq => ?_) | refine q_split (fun hq => ?_) (fun hq => ?_)) <;> (try (first | (conv => arg 8; simp only [hq]) | (conv => arg 4; simp only [hq])))) | (with_reducible refine fin_0 ?_ (by first | rfl | (conv => lhs; simp only [go_sem])) ?_)
    | (with_reducible show evC _ _ _ _ _ _ _ _ _ _ _ _
       first
       | (refine c_doesR [1000000] (he) (callOK_of rfl (Nat.le_of_ble_eq_true rfl) rfl ?_ ?_) ?_ ?_
          iterate 2 · repeat' (first | (conv in hold _ => simp (disch := omega) only [go_sem]) | exact True.intro | exact Sub.refl _ | omega)
          · ((conv => rhs; simp (disch := omega) only [go_sem]); try rfl)))
    | exact Sub.refl _ | omega)
  refine fin_L [1000000] ?_ ?_ rfl ?_
  repeat' (first | (conv in hold _ => simp (disch := omega) only [go_sem]) | exact True.intro | exact Sub.refl _ | omega)
end Go.Proofs.Ytpmmagnphfcdnaa
