/-
  The model's values of expressions. No condition.
-/
import Derived.Test.YtikfanemeglcoaaVVa
import Derived.Test.YtikfanemeglcoaaVVal
import Derived.Test.YtikfanemeglcoaaVLib
import Derived.Test.YtikfanemeglcoaaVGateI
import Derived.Test.YtikfanemeglcoaaJVDrawE
import Derived.Test.YtikfanemeglcoaaVEsz
import Derived.Test.YtikfanemeglcoaaDca
import Derived.Test.YtikfanemeglcoaaDcb
set_option maxHeartbeats 4000000
set_option maxRecDepth 100000
namespace Go.Proofs.Ytikfanemeglcoaa
open Go.RowKit

theorem mul_bound {a b : Int} (h0 : -9999 ≤ a) (h1 : a ≤ 9999) (h2 : -9999 ≤ b) (h3 : b ≤ 9999) : -99980001 ≤ a * b ∧ a * b ≤ 99980001 := by
  have h : (a * b).natAbs ≤ 9999 * 9999 := by
    rw [Int.natAbs_mul]
    exact Nat.mul_le_mul (by omega) (by omega)
  omega
end Go.Proofs.Ytikfanemeglcoaa
set_option maxHeartbeats 4000000
set_option maxRecDepth 100000
namespace Go.Proofs.Ytikfanemeglcoaa
open Go.ChangeShapes Go.WideShapes Go.ChangeAt Go.RowKit Go.Joins Go.Deep

/-- All lists in an expression are such as there may be. -/
inductive Most : E → Prop
  | mk {k c : Int} {v : V} {ks : List E} (h : ks.length ≤ big) (hk : ∀ x, x ∈ ks → Most x) : Most (.mk k c v ks)
theorem Most.len {e : E} (h : Most e) : e.ks.length ≤ big := by cases h; assumption
theorem Most.kid {e x : E} (h : Most e) (hx : x ∈ e.ks) : Most x := by cases h with | mk _ hk => exact hk x hx

section
variable {H : Type} {enc : TypeId × Value → H} {W : World} {base b0 : Nat} {held : Bool} {r : Reach} {v : Value} {d : DataW H} {p : List MemPlace}
/-- An expression that came in. -/
def IsE (w : World) (v : Value) (e : E) : Prop := Most e ∧ Fz w (allOf w) noNames (eD e) v
end
end Go.Proofs.Ytikfanemeglcoaa
set_option maxHeartbeats 4000000
set_option maxRecDepth 100000
set_option linter.unusedVariables false
set_option linter.unusedSimpArgs false
namespace Go.Proofs.Ytikfanemeglcoaa
open Go.RowKit

/-- The cells of an expression. -/
def eC (a : E) : List D := [I a.k, I a.c, Bo a.v.b, I a.v.n, .sl 5 (a.ks.map eD)]
theorem eD_eC (a : E) : eD a = .agg (eC a) := eD_eq a
theorem leafC (c : Int) : SubL [I 1, I c, Bo false, I 0, .nul] (eC (.mk 1 c ⟨false, 0⟩ [])) := ⟨Sub.refl _, Sub.refl _, Sub.refl _, Sub.refl _, Sub.nul 5, trivial⟩
theorem oneS {cs : List D} {a : E} (h : SubL cs (eC a)) : Sub (.sl 5 [.agg cs]) (.sl 5 [eD a]) := by
  rw [eD_eC]
  refine Sub.sl rfl (fun e he => by rw [List.mem_singleton.1 he]; rfl) ?_
  have e1 : ∀ l : List D, D.flat [.agg l] = l := fun l => by unfold D.flat; rw [List.flatMap_cons, List.flatMap_nil, List.append_nil]; rfl
  rw [e1, e1]
  exact h
theorem twoS {cs ds : List D} {a b : E} (h : SubL cs (eC a)) (h' : SubL ds (eC b)) : Sub (.sl 5 [.agg cs, .agg ds]) (.sl 5 [eD a, eD b]) := by
  rw [eD_eC, eD_eC]
  refine Sub.sl rfl (fun e he => ?_) ?_
  · rcases List.mem_cons.1 he with rfl | he
    · rfl
    · rw [List.mem_singleton.1 he]; rfl
  have e1 : ∀ l k : List D, D.flat [.agg l, .agg k] = l ++ k := fun l k => by unfold D.flat; rw [List.flatMap_cons, List.flatMap_cons, List.flatMap_nil, List.append_nil]; rfl
  rw [e1, e1]
  exact h.append h'
theorem oneC {k : Int} {cs : List D} {a : E} (h : SubL cs (eC a)) : SubL [I k, I 0, Bo false, I 0, .sl 5 [.agg cs]] (eC (.mk k 0 ⟨false, 0⟩ [a])) := ⟨Sub.refl _, Sub.refl _, Sub.refl _, Sub.refl _, oneS h, trivial⟩
theorem twoC {k : Int} {cs ds : List D} {a b : E} (h : SubL cs (eC a)) (h' : SubL ds (eC b)) : SubL [I k, I 0, Bo false, I 0, .sl 5 [.agg cs, .agg ds]] (eC (.mk k 0 ⟨false, 0⟩ [a, b])) := ⟨Sub.refl _, Sub.refl _, Sub.refl _, Sub.refl _, twoS h h', trivial⟩
def cbd : Nat → Nat
  | 0 => 80
  | d + 1 => 80 + cbd d
theorem cond_step {bs : List Nat} (hs : Src bs) (n : Int) (hn : n < 1000) (d : Nat) (ih : ∀ (d' p : Nat), d = d' + 1 → p + cbd d' < 700000000 → ∃ (e : E) (q : Nat), Does Try.prog 70 [rdD bs p] [.ref 1000000 0, I n, I d'] (eD e) [rdD bs q] ∧ p ≤ q ∧ q ≤ p + cbd d' ∧ esz e ≤ 10 + 4 * d')
    (p : Nat) (hd : d ≤ 2) (hp : p + cbd d < 700000000) : ∃ (e : E) (q : Nat), Does Try.prog 70 [rdD bs p] [.ref 1000000 0, I n, I d] (eD e) [rdD bs q] ∧ p ≤ q ∧ q ≤ p + cbd d ∧ esz e ≤ 10 + 4 * d := by
  have hb : bnd 2 = 65 := by decide
  have hz : szb 2 = 7 := by decide
  have hcb : 80 ≤ cbd d := by cases d <;> simp [cbd]
  obtain ⟨c, hc, _⟩ := pick_ok hs p (by omega) n (by omega)
  obtain ⟨m, hm, _⟩ := pick_ok hs (p + 1) (by omega) 4 (by omega)
  have hcon := constant_ok ⟨false, m⟩
  obtain ⟨j, hj, j0, j1, _⟩ := pick_ok hs (p + 2) (by omega) 3 (by omega)
  by_cases hj0 : j = 0
  · obtain ⟨c', hc', _⟩ := pick_ok hs (p + 3) (by omega) n (by omega)
    obtain ⟨k, hk, k0, k1, _⟩ := pick_ok hs (p + 4) (by omega) 8 (by omega)
    have hk1 := k1 (by omega)
    have hk7 : k = 0 ∨ (k = 2 ∧ ¬ d = 0) ∨ (k = 2 ∧ d = 0) ∨ k = 1 ∨ k = 3 ∨ k = 4 ∨ k = 5 ∨ k = 6 ∨ k = 7 := by omega
    obtain ⟨ee, qe, hxe, hqe0, hqe1⟩ := randomExpr_ok hs n hn 2 (p + 5) (by omega)
    rcases hk7 with rfl | ⟨rfl, hd0⟩ | ⟨rfl, hd0⟩ | rfl | rfl | rfl | rfl | rfl | rfl
    · refine ⟨ee, qe, ?_, by omega, by (try simp only [esz, eszL]); omega⟩
      refine does c_spec_condition mixed (Nat.le_of_ble_eq_true rfl) 1 rfl ?_
      conv => arg 3; whnf
      repeat' (first
        | with_reducible refine acc_none ?_ | (conv in hold _ => simp (disch := omega) only [go_sem]) | refine Stp.go ?_ | (with_reducible first | refine it_pos rfl ?_ | refine it_neg (by decide) ?_ | refine st_nil rfl ?_ | refine s_op ?_ ?_ | exact True.intro) | ((with_reducible first | refine dw_reg0 ?_ | refine dw_regB ?_); (conv => arg 3; whnf)) | (refine Spl.go (fun hq he => ?_) (fun hq he => ?_) <;> first | (exfalso; clear hq; omega) | ((try (first | (conv => arg 8; simp only [hq]) | (conv => arg 4; simp only [hq]))); clear hq)) | ((with_reducible first | refine c_split (fun hq => ?_) (fun hq => ?_) | refine q_split (fun hq => ?_) (fun hq => ?_)) <;> (try (first | (conv => arg 8; simp only [hq]) | (conv => arg 4; simp only [hq])))) | (with_reducible refine fin_0 ?_ (by first | rfl | (conv => lhs; simp only [go_sem])) ?_)
        | (with_reducible show evC _ _ _ _ _ _ _ _ _ _ _ _
           first
           | (refine c_doesR [1000000] (hc) (callOK_of rfl (Nat.le_of_ble_eq_true rfl) rfl ?_ ?_) ?_ ?_
              iterate 2 · repeat' (first | (conv in hold _ => simp (disch := omega) only [go_sem]) | exact True.intro | exact Sub.refl _ | omega)
              · ((conv => rhs; simp (disch := omega) only [go_sem]); try rfl))
           | (refine c_doesR [1000000] (hm) (callOK_of rfl (Nat.le_of_ble_eq_true rfl) rfl ?_ ?_) ?_ ?_
              iterate 2 · repeat' (first | (conv in hold _ => simp (disch := omega) only [go_sem]) | exact True.intro | exact Sub.refl _ | omega)
              · ((conv => rhs; simp (disch := omega) only [go_sem]); try rfl))
           | (refine c_doesE (hcon) ?_ ?_ ?_
              · ((try (conv => rhs; simp (disch := omega) only [go_sem])); try rfl)
              · first | rfl | (conv => lhs; simp only [go_sem]))
           | (refine c_doesR [1000000] (hj) (callOK_of rfl (Nat.le_of_ble_eq_true rfl) rfl ?_ ?_) ?_ ?_
              iterate 2 · repeat' (first | (conv in hold _ => simp (disch := omega) only [go_sem]) | exact True.intro | exact Sub.refl _ | omega)
              · ((conv => rhs; simp (disch := omega) only [go_sem]); try rfl))
           | (refine c_doesR [1000000] (hc') (callOK_of rfl (Nat.le_of_ble_eq_true rfl) rfl ?_ ?_) ?_ ?_
              iterate 2 · repeat' (first | (conv in hold _ => simp (disch := omega) only [go_sem]) | exact True.intro | exact Sub.refl _ | omega)
              · ((conv => rhs; simp (disch := omega) only [go_sem]); try rfl))
           | (refine c_doesR [1000000] (hk) (callOK_of rfl (Nat.le_of_ble_eq_true rfl) rfl ?_ ?_) ?_ ?_
              iterate 2 · repeat' (first | (conv in hold _ => simp (disch := omega) only [go_sem]) | exact True.intro | exact Sub.refl _ | omega)
              · ((conv => rhs; simp (disch := omega) only [go_sem]); try rfl))
           | (refine c_doesR [1000000] (hxe) (callOK_of rfl (Nat.le_of_ble_eq_true rfl) rfl ?_ ?_) ?_ ?_
              iterate 2 · repeat' (first | (conv in hold _ => simp (disch := omega) only [go_sem]) | exact True.intro | exact Sub.refl _ | omega)
              · ((conv => rhs; simp (disch := omega) only [go_sem]); try rfl)))
        | exact Sub.refl _ | omega)
      refine fin_L [1000000] ?_ ?_ rfl ?_
      repeat' (first | (conv in hold _ => simp (disch := omega) only [go_sem]) | exact True.intro | exact Sub.refl _ | omega)
    · obtain ⟨d', rfl⟩ : ∃ d', d = d' + 1 := ⟨d - 1, by omega⟩
      have hcd : cbd (d' + 1) = 80 + cbd d' := rfl
      obtain ⟨e2, q2, hx2, hq0, hq1⟩ := ih d' (p + 5) rfl (by omega)
      refine ⟨.mk 8 0 ⟨false, 0⟩ [e2, .mk 6 0 ⟨false, 0⟩ [(.mk 1 c ⟨false, 0⟩ []), (.mk 1 c' ⟨false, 0⟩ [])]], q2, ?_, by omega, by (try simp only [esz, eszL]); omega⟩
      refine does c_spec_condition mixed (Nat.le_of_ble_eq_true rfl) 1 rfl ?_
      conv => arg 3; whnf
      repeat' (first
        | with_reducible refine acc_none ?_ | (conv in hold _ => simp (disch := omega) only [go_sem]) | refine Stp.go ?_ | (with_reducible first | refine it_pos rfl ?_ | refine it_neg (by decide) ?_ | refine st_nil rfl ?_ | refine s_op ?_ ?_ | exact True.intro) | ((with_reducible first | refine dw_reg0 ?_ | refine dw_regB ?_); (conv => arg 3; whnf)) | (refine Spl.go (fun hq he => ?_) (fun hq he => ?_) <;> first | (exfalso; clear hq; omega) | ((try (first | (conv => arg 8; simp only [hq]) | (conv => arg 4; simp only [hq]))); clear hq)) | ((with_reducible first | refine c_split (fun hq => ?_) (fun hq => ?_) | refine q_split (fun hq => ?_) (fun hq => ?_)) <;> (try (first | (conv => arg 8; simp only [hq]) | (conv => arg 4; simp only [hq])))) | (with_reducible refine fin_0 ?_ (by first | rfl | (conv => lhs; simp only [go_sem])) ?_)
        | (with_reducible show evC _ _ _ _ _ _ _ _ _ _ _ _
           first
           | (refine c_doesR [1000000] (hc) (callOK_of rfl (Nat.le_of_ble_eq_true rfl) rfl ?_ ?_) ?_ ?_
              iterate 2 · repeat' (first | (conv in hold _ => simp (disch := omega) only [go_sem]) | exact True.intro | exact Sub.refl _ | omega)
              · ((conv => rhs; simp (disch := omega) only [go_sem]); try rfl))
           | (refine c_doesR [1000000] (hm) (callOK_of rfl (Nat.le_of_ble_eq_true rfl) rfl ?_ ?_) ?_ ?_
              iterate 2 · repeat' (first | (conv in hold _ => simp (disch := omega) only [go_sem]) | exact True.intro | exact Sub.refl _ | omega)
              · ((conv => rhs; simp (disch := omega) only [go_sem]); try rfl))
           | (refine c_doesE (hcon) ?_ ?_ ?_
              · ((try (conv => rhs; simp (disch := omega) only [go_sem])); try rfl)
              · first | rfl | (conv => lhs; simp only [go_sem]))
           | (refine c_doesR [1000000] (hj) (callOK_of rfl (Nat.le_of_ble_eq_true rfl) rfl ?_ ?_) ?_ ?_
              iterate 2 · repeat' (first | (conv in hold _ => simp (disch := omega) only [go_sem]) | exact True.intro | exact Sub.refl _ | omega)
              · ((conv => rhs; simp (disch := omega) only [go_sem]); try rfl))
           | (refine c_doesR [1000000] (hc') (callOK_of rfl (Nat.le_of_ble_eq_true rfl) rfl ?_ ?_) ?_ ?_
              iterate 2 · repeat' (first | (conv in hold _ => simp (disch := omega) only [go_sem]) | exact True.intro | exact Sub.refl _ | omega)
              · ((conv => rhs; simp (disch := omega) only [go_sem]); try rfl))
           | (refine c_doesR [1000000] (hk) (callOK_of rfl (Nat.le_of_ble_eq_true rfl) rfl ?_ ?_) ?_ ?_
              iterate 2 · repeat' (first | (conv in hold _ => simp (disch := omega) only [go_sem]) | exact True.intro | exact Sub.refl _ | omega)
              · ((conv => rhs; simp (disch := omega) only [go_sem]); try rfl))
           | (refine c_doesR [1000000] (hx2) (callOK_of rfl (Nat.le_of_ble_eq_true rfl) rfl ?_ ?_) ?_ ?_
              iterate 2 · repeat' (first | (conv in hold _ => simp (disch := omega) only [go_sem]) | exact True.intro | exact Sub.refl _ | omega)
              · ((conv => rhs; simp (disch := omega) only [go_sem]); try rfl)))
        | exact Sub.refl _ | omega)
      refine fin_L [1000000] ?_ ?_ rfl ?_
      repeat' (first | (conv in hold _ => simp (disch := omega) only [go_sem]) | exact True.intro | exact Sub.refl _ | omega)
      have h := Sub.agg (twoC (k := 8) (SubL.refl (eC e2)) (twoC (k := 6) (leafC c) (leafC c')))
      simp only [eC, eD_eq, E.k_mk, E.c_mk, E.v_mk, E.ks_mk, List.map_cons, List.map_nil] at h
      exact h
    refine ⟨.mk 7 0 ⟨false, 0⟩ [(.mk 1 c ⟨false, 0⟩ []), (.mk 1 c' ⟨false, 0⟩ [])], p + 5, ?_, by omega, by (try simp only [esz, eszL]); omega⟩
    rotate_left
    refine ⟨.mk 10 0 ⟨false, 0⟩ [.mk 11 0 ⟨false, 0⟩ [(.mk 1 c ⟨false, 0⟩ [])]], p + 5, ?_, by omega, by (try simp only [esz, eszL]); omega⟩
    rotate_left
    refine ⟨.mk 7 0 ⟨false, 0⟩ [(.mk 1 c' ⟨false, 0⟩ []), (.mk 1 c ⟨false, 0⟩ [])], p + 5, ?_, by omega, by (try simp only [esz, eszL]); omega⟩
    rotate_left
    refine ⟨.mk 7 0 ⟨false, 0⟩ [(.mk 1 c' ⟨false, 0⟩ []), (.mk 1 c ⟨false, 0⟩ [])], p + 5, ?_, by omega, by (try simp only [esz, eszL]); omega⟩
    rotate_left
    refine ⟨.mk 7 0 ⟨false, 0⟩ [(.mk 1 c ⟨false, 0⟩ []), (.mk 1 c' ⟨false, 0⟩ [])], p + 5, ?_, by omega, by (try simp only [esz, eszL]); omega⟩
    rotate_left
    refine ⟨.mk 6 0 ⟨false, 0⟩ [(.mk 1 c ⟨false, 0⟩ []), (.mk 1 c' ⟨false, 0⟩ [])], p + 5, ?_, by omega, by (try simp only [esz, eszL]); omega⟩
    rotate_left
    refine ⟨.mk 6 0 ⟨false, 0⟩ [(.mk 1 c ⟨false, 0⟩ []), (.mk 1 c' ⟨false, 0⟩ [])], p + 5, ?_, by omega, by (try simp only [esz, eszL]); omega⟩
    rotate_left
    all_goals
      refine does c_spec_condition mixed (Nat.le_of_ble_eq_true rfl) 1 rfl ?_
      conv => arg 3; whnf
      repeat' (first
        | with_reducible refine acc_none ?_ | (conv in hold _ => simp (disch := omega) only [go_sem]) | refine Stp.go ?_ | (with_reducible first | refine it_pos rfl ?_ | refine it_neg (by decide) ?_ | refine st_nil rfl ?_ | refine s_op ?_ ?_ | exact True.intro) | ((with_reducible first | refine dw_reg0 ?_ | refine dw_regB ?_); (conv => arg 3; whnf)) | (refine Spl.go (fun hq he => ?_) (fun hq he => ?_) <;> first | (exfalso; clear hq; omega) | ((try (first | (conv => arg 8; simp only [hq]) | (conv => arg 4; simp only [hq]))); clear hq)) | ((with_reducible first | refine c_split (fun hq => ?_) (fun hq => ?_) | refine q_split (fun hq => ?_) (fun hq => ?_)) <;> (try (first | (conv => arg 8; simp only [hq]) | (conv => arg 4; simp only [hq])))) | (with_reducible refine fin_0 ?_ (by first | rfl | (conv => lhs; simp only [go_sem])) ?_)
        | (with_reducible show evC _ _ _ _ _ _ _ _ _ _ _ _
           first
           | (refine c_doesR [1000000] (hc) (callOK_of rfl (Nat.le_of_ble_eq_true rfl) rfl ?_ ?_) ?_ ?_
              iterate 2 · repeat' (first | (conv in hold _ => simp (disch := omega) only [go_sem]) | exact True.intro | exact Sub.refl _ | omega)
              · ((conv => rhs; simp (disch := omega) only [go_sem]); try rfl))
           | (refine c_doesR [1000000] (hm) (callOK_of rfl (Nat.le_of_ble_eq_true rfl) rfl ?_ ?_) ?_ ?_
              iterate 2 · repeat' (first | (conv in hold _ => simp (disch := omega) only [go_sem]) | exact True.intro | exact Sub.refl _ | omega)
              · ((conv => rhs; simp (disch := omega) only [go_sem]); try rfl))
           | (refine c_doesE (hcon) ?_ ?_ ?_
              · ((try (conv => rhs; simp (disch := omega) only [go_sem])); try rfl)
              · first | rfl | (conv => lhs; simp only [go_sem]))
           | (refine c_doesR [1000000] (hj) (callOK_of rfl (Nat.le_of_ble_eq_true rfl) rfl ?_ ?_) ?_ ?_
              iterate 2 · repeat' (first | (conv in hold _ => simp (disch := omega) only [go_sem]) | exact True.intro | exact Sub.refl _ | omega)
              · ((conv => rhs; simp (disch := omega) only [go_sem]); try rfl))
           | (refine c_doesR [1000000] (hc') (callOK_of rfl (Nat.le_of_ble_eq_true rfl) rfl ?_ ?_) ?_ ?_
              iterate 2 · repeat' (first | (conv in hold _ => simp (disch := omega) only [go_sem]) | exact True.intro | exact Sub.refl _ | omega)
              · ((conv => rhs; simp (disch := omega) only [go_sem]); try rfl))
           | (refine c_doesR [1000000] (hk) (callOK_of rfl (Nat.le_of_ble_eq_true rfl) rfl ?_ ?_) ?_ ?_
              iterate 2 · repeat' (first | (conv in hold _ => simp (disch := omega) only [go_sem]) | exact True.intro | exact Sub.refl _ | omega)
              · ((conv => rhs; simp (disch := omega) only [go_sem]); try rfl)))
        | exact Sub.refl _ | omega)
      refine fin_L [1000000] ?_ ?_ rfl ?_
      repeat' (first | (conv in hold _ => simp (disch := omega) only [go_sem]) | exact True.intro | exact Sub.refl _ | omega)
    · exact Sub.agg (twoC (leafC c) (leafC c'))
    · exact Sub.agg (oneC (oneC (leafC c)))
    · exact Sub.agg (twoC (leafC c') (leafC c))
    · exact Sub.agg (twoC (leafC c') (leafC c))
    · exact Sub.agg (twoC (leafC c) (leafC c'))
    · exact Sub.agg (twoC (leafC c) (leafC c'))
    · exact Sub.agg (twoC (leafC c) (leafC c'))
  · obtain ⟨k, hk, k0, k1, _⟩ := pick_ok hs (p + 3) (by omega) 8 (by omega)
    have hk1 := k1 (by omega)
    have hk7 : k = 0 ∨ (k = 2 ∧ ¬ d = 0) ∨ (k = 2 ∧ d = 0) ∨ k = 1 ∨ k = 3 ∨ k = 4 ∨ k = 5 ∨ k = 6 ∨ k = 7 := by omega
    obtain ⟨ee, qe, hxe, hqe0, hqe1⟩ := randomExpr_ok hs n hn 2 (p + 4) (by omega)
    rcases hk7 with rfl | ⟨rfl, hd0⟩ | ⟨rfl, hd0⟩ | rfl | rfl | rfl | rfl | rfl | rfl
    · refine ⟨ee, qe, ?_, by omega, by (try simp only [esz, eszL]); omega⟩
      refine does c_spec_condition mixed (Nat.le_of_ble_eq_true rfl) 1 rfl ?_
      conv => arg 3; whnf
      repeat' (first
        | with_reducible refine acc_none ?_ | (conv in hold _ => simp (disch := omega) only [go_sem]) | refine Stp.go ?_ | (with_reducible first | refine it_pos rfl ?_ | refine it_neg (by decide) ?_ | refine st_nil rfl ?_ | refine s_op ?_ ?_ | exact True.intro) | ((with_reducible first | refine dw_reg0 ?_ | refine dw_regB ?_); (conv => arg 3; whnf)) | (refine Spl.go (fun hq he => ?_) (fun hq he => ?_) <;> first | (exfalso; clear hq; omega) | ((try (first | (conv => arg 8; simp only [hq]) | (conv => arg 4; simp only [hq]))); clear hq)) | ((with_reducible first | refine c_split (fun hq => ?_) (fun hq => ?_) | refine q_split (fun hq => ?_) (fun hq => ?_)) <;> (try (first | (conv => arg 8; simp only [hq]) | (conv => arg 4; simp only [hq])))) | (with_reducible refine fin_0 ?_ (by first | rfl | (conv => lhs; simp only [go_sem])) ?_)
        | (with_reducible show evC _ _ _ _ _ _ _ _ _ _ _ _
           first
           | (refine c_doesR [1000000] (hc) (callOK_of rfl (Nat.le_of_ble_eq_true rfl) rfl ?_ ?_) ?_ ?_
              iterate 2 · repeat' (first | (conv in hold _ => simp (disch := omega) only [go_sem]) | exact True.intro | exact Sub.refl _ | omega)
              · ((conv => rhs; simp (disch := omega) only [go_sem]); try rfl))
           | (refine c_doesR [1000000] (hm) (callOK_of rfl (Nat.le_of_ble_eq_true rfl) rfl ?_ ?_) ?_ ?_
              iterate 2 · repeat' (first | (conv in hold _ => simp (disch := omega) only [go_sem]) | exact True.intro | exact Sub.refl _ | omega)
              · ((conv => rhs; simp (disch := omega) only [go_sem]); try rfl))
           | (refine c_doesE (hcon) ?_ ?_ ?_
              · ((try (conv => rhs; simp (disch := omega) only [go_sem])); try rfl)
              · first | rfl | (conv => lhs; simp only [go_sem]))
           | (refine c_doesR [1000000] (hj) (callOK_of rfl (Nat.le_of_ble_eq_true rfl) rfl ?_ ?_) ?_ ?_
              iterate 2 · repeat' (first | (conv in hold _ => simp (disch := omega) only [go_sem]) | exact True.intro | exact Sub.refl _ | omega)
              · ((conv => rhs; simp (disch := omega) only [go_sem]); try rfl))
           | (refine c_doesR [1000000] (hk) (callOK_of rfl (Nat.le_of_ble_eq_true rfl) rfl ?_ ?_) ?_ ?_
              iterate 2 · repeat' (first | (conv in hold _ => simp (disch := omega) only [go_sem]) | exact True.intro | exact Sub.refl _ | omega)
              · ((conv => rhs; simp (disch := omega) only [go_sem]); try rfl))
           | (refine c_doesR [1000000] (hxe) (callOK_of rfl (Nat.le_of_ble_eq_true rfl) rfl ?_ ?_) ?_ ?_
              iterate 2 · repeat' (first | (conv in hold _ => simp (disch := omega) only [go_sem]) | exact True.intro | exact Sub.refl _ | omega)
              · ((conv => rhs; simp (disch := omega) only [go_sem]); try rfl)))
        | exact Sub.refl _ | omega)
      refine fin_L [1000000] ?_ ?_ rfl ?_
      repeat' (first | (conv in hold _ => simp (disch := omega) only [go_sem]) | exact True.intro | exact Sub.refl _ | omega)
    · obtain ⟨d', rfl⟩ : ∃ d', d = d' + 1 := ⟨d - 1, by omega⟩
      have hcd : cbd (d' + 1) = 80 + cbd d' := rfl
      obtain ⟨e2, q2, hx2, hq0, hq1⟩ := ih d' (p + 4) rfl (by omega)
      refine ⟨.mk 8 0 ⟨false, 0⟩ [e2, .mk 6 0 ⟨false, 0⟩ [(.mk 1 c ⟨false, 0⟩ []), (.mk 2 0 ⟨false, m⟩ [])]], q2, ?_, by omega, by (try simp only [esz, eszL]); omega⟩
      refine does c_spec_condition mixed (Nat.le_of_ble_eq_true rfl) 1 rfl ?_
      conv => arg 3; whnf
      repeat' (first
        | with_reducible refine acc_none ?_ | (conv in hold _ => simp (disch := omega) only [go_sem]) | refine Stp.go ?_ | (with_reducible first | refine it_pos rfl ?_ | refine it_neg (by decide) ?_ | refine st_nil rfl ?_ | refine s_op ?_ ?_ | exact True.intro) | ((with_reducible first | refine dw_reg0 ?_ | refine dw_regB ?_); (conv => arg 3; whnf)) | (refine Spl.go (fun hq he => ?_) (fun hq he => ?_) <;> first | (exfalso; clear hq; omega) | ((try (first | (conv => arg 8; simp only [hq]) | (conv => arg 4; simp only [hq]))); clear hq)) | ((with_reducible first | refine c_split (fun hq => ?_) (fun hq => ?_) | refine q_split (fun hq => ?_) (fun hq => ?_)) <;> (try (first | (conv => arg 8; simp only [hq]) | (conv => arg 4; simp only [hq])))) | (with_reducible refine fin_0 ?_ (by first | rfl | (conv => lhs; simp only [go_sem])) ?_)
        | (with_reducible show evC _ _ _ _ _ _ _ _ _ _ _ _
           first
           | (refine c_doesR [1000000] (hc) (callOK_of rfl (Nat.le_of_ble_eq_true rfl) rfl ?_ ?_) ?_ ?_
              iterate 2 · repeat' (first | (conv in hold _ => simp (disch := omega) only [go_sem]) | exact True.intro | exact Sub.refl _ | omega)
              · ((conv => rhs; simp (disch := omega) only [go_sem]); try rfl))
           | (refine c_doesR [1000000] (hm) (callOK_of rfl (Nat.le_of_ble_eq_true rfl) rfl ?_ ?_) ?_ ?_
              iterate 2 · repeat' (first | (conv in hold _ => simp (disch := omega) only [go_sem]) | exact True.intro | exact Sub.refl _ | omega)
              · ((conv => rhs; simp (disch := omega) only [go_sem]); try rfl))
           | (refine c_doesE (hcon) ?_ ?_ ?_
              · ((try (conv => rhs; simp (disch := omega) only [go_sem])); try rfl)
              · first | rfl | (conv => lhs; simp only [go_sem]))
           | (refine c_doesR [1000000] (hj) (callOK_of rfl (Nat.le_of_ble_eq_true rfl) rfl ?_ ?_) ?_ ?_
              iterate 2 · repeat' (first | (conv in hold _ => simp (disch := omega) only [go_sem]) | exact True.intro | exact Sub.refl _ | omega)
              · ((conv => rhs; simp (disch := omega) only [go_sem]); try rfl))
           | (refine c_doesR [1000000] (hk) (callOK_of rfl (Nat.le_of_ble_eq_true rfl) rfl ?_ ?_) ?_ ?_
              iterate 2 · repeat' (first | (conv in hold _ => simp (disch := omega) only [go_sem]) | exact True.intro | exact Sub.refl _ | omega)
              · ((conv => rhs; simp (disch := omega) only [go_sem]); try rfl))
           | (refine c_doesR [1000000] (hx2) (callOK_of rfl (Nat.le_of_ble_eq_true rfl) rfl ?_ ?_) ?_ ?_
              iterate 2 · repeat' (first | (conv in hold _ => simp (disch := omega) only [go_sem]) | exact True.intro | exact Sub.refl _ | omega)
              · ((conv => rhs; simp (disch := omega) only [go_sem]); try rfl)))
        | exact Sub.refl _ | omega)
      refine fin_L [1000000] ?_ ?_ rfl ?_
      repeat' (first | (conv in hold _ => simp (disch := omega) only [go_sem]) | exact True.intro | exact Sub.refl _ | omega)
      have h := Sub.agg (twoC (k := 8) (SubL.refl (eC e2)) (twoC (k := 6) (leafC c) (SubL.refl (eC (.mk 2 0 ⟨false, m⟩ [])))))
      simp only [eC, eD_eq, E.k_mk, E.c_mk, E.v_mk, E.ks_mk, List.map_cons, List.map_nil] at h
      exact h
    refine ⟨.mk 7 0 ⟨false, 0⟩ [(.mk 1 c ⟨false, 0⟩ []), (.mk 2 0 ⟨false, m⟩ [])], p + 4, ?_, by omega, by (try simp only [esz, eszL]); omega⟩
    rotate_left
    refine ⟨.mk 10 0 ⟨false, 0⟩ [.mk 11 0 ⟨false, 0⟩ [(.mk 1 c ⟨false, 0⟩ [])]], p + 4, ?_, by omega, by (try simp only [esz, eszL]); omega⟩
    rotate_left
    refine ⟨.mk 7 0 ⟨false, 0⟩ [(.mk 2 0 ⟨false, m⟩ []), (.mk 1 c ⟨false, 0⟩ [])], p + 4, ?_, by omega, by (try simp only [esz, eszL]); omega⟩
    rotate_left
    refine ⟨.mk 7 0 ⟨false, 0⟩ [(.mk 2 0 ⟨false, m⟩ []), (.mk 1 c ⟨false, 0⟩ [])], p + 4, ?_, by omega, by (try simp only [esz, eszL]); omega⟩
    rotate_left
    refine ⟨.mk 7 0 ⟨false, 0⟩ [(.mk 1 c ⟨false, 0⟩ []), (.mk 2 0 ⟨false, m⟩ [])], p + 4, ?_, by omega, by (try simp only [esz, eszL]); omega⟩
    rotate_left
    refine ⟨.mk 6 0 ⟨false, 0⟩ [(.mk 1 c ⟨false, 0⟩ []), (.mk 2 0 ⟨false, m⟩ [])], p + 4, ?_, by omega, by (try simp only [esz, eszL]); omega⟩
    rotate_left
    refine ⟨.mk 6 0 ⟨false, 0⟩ [(.mk 1 c ⟨false, 0⟩ []), (.mk 2 0 ⟨false, m⟩ [])], p + 4, ?_, by omega, by (try simp only [esz, eszL]); omega⟩
    rotate_left
    all_goals
      refine does c_spec_condition mixed (Nat.le_of_ble_eq_true rfl) 1 rfl ?_
      conv => arg 3; whnf
      repeat' (first
        | with_reducible refine acc_none ?_ | (conv in hold _ => simp (disch := omega) only [go_sem]) | refine Stp.go ?_ | (with_reducible first | refine it_pos rfl ?_ | refine it_neg (by decide) ?_ | refine st_nil rfl ?_ | refine s_op ?_ ?_ | exact True.intro) | ((with_reducible first | refine dw_reg0 ?_ | refine dw_regB ?_); (conv => arg 3; whnf)) | (refine Spl.go (fun hq he => ?_) (fun hq he => ?_) <;> first | (exfalso; clear hq; omega) | ((try (first | (conv => arg 8; simp only [hq]) | (conv => arg 4; simp only [hq]))); clear hq)) | ((with_reducible first | refine c_split (fun hq => ?_) (fun hq => ?_) | refine q_split (fun hq => ?_) (fun hq => ?_)) <;> (try (first | (conv => arg 8; simp only [hq]) | (conv => arg 4; simp only [hq])))) | (with_reducible refine fin_0 ?_ (by first | rfl | (conv => lhs; simp only [go_sem])) ?_)
        | (with_reducible show evC _ _ _ _ _ _ _ _ _ _ _ _
           first
           | (refine c_doesR [1000000] (hc) (callOK_of rfl (Nat.le_of_ble_eq_true rfl) rfl ?_ ?_) ?_ ?_
              iterate 2 · repeat' (first | (conv in hold _ => simp (disch := omega) only [go_sem]) | exact True.intro | exact Sub.refl _ | omega)
              · ((conv => rhs; simp (disch := omega) only [go_sem]); try rfl))
           | (refine c_doesR [1000000] (hm) (callOK_of rfl (Nat.le_of_ble_eq_true rfl) rfl ?_ ?_) ?_ ?_
              iterate 2 · repeat' (first | (conv in hold _ => simp (disch := omega) only [go_sem]) | exact True.intro | exact Sub.refl _ | omega)
              · ((conv => rhs; simp (disch := omega) only [go_sem]); try rfl))
           | (refine c_doesE (hcon) ?_ ?_ ?_
              · ((try (conv => rhs; simp (disch := omega) only [go_sem])); try rfl)
              · first | rfl | (conv => lhs; simp only [go_sem]))
           | (refine c_doesR [1000000] (hj) (callOK_of rfl (Nat.le_of_ble_eq_true rfl) rfl ?_ ?_) ?_ ?_
              iterate 2 · repeat' (first | (conv in hold _ => simp (disch := omega) only [go_sem]) | exact True.intro | exact Sub.refl _ | omega)
              · ((conv => rhs; simp (disch := omega) only [go_sem]); try rfl))
           | (refine c_doesR [1000000] (hk) (callOK_of rfl (Nat.le_of_ble_eq_true rfl) rfl ?_ ?_) ?_ ?_
              iterate 2 · repeat' (first | (conv in hold _ => simp (disch := omega) only [go_sem]) | exact True.intro | exact Sub.refl _ | omega)
              · ((conv => rhs; simp (disch := omega) only [go_sem]); try rfl)))
        | exact Sub.refl _ | omega)
      refine fin_L [1000000] ?_ ?_ rfl ?_
      repeat' (first | (conv in hold _ => simp (disch := omega) only [go_sem]) | exact True.intro | exact Sub.refl _ | omega)
    · exact Sub.agg (twoC (leafC c) (SubL.refl (eC (.mk 2 0 ⟨false, m⟩ []))))
    · exact Sub.agg (oneC (oneC (leafC c)))
    · exact Sub.agg (twoC (SubL.refl (eC (.mk 2 0 ⟨false, m⟩ []))) (leafC c))
    · exact Sub.agg (twoC (SubL.refl (eC (.mk 2 0 ⟨false, m⟩ []))) (leafC c))
    · exact Sub.agg (twoC (leafC c) (SubL.refl (eC (.mk 2 0 ⟨false, m⟩ []))))
    · exact Sub.agg (twoC (leafC c) (SubL.refl (eC (.mk 2 0 ⟨false, m⟩ []))))
    · exact Sub.agg (twoC (leafC c) (SubL.refl (eC (.mk 2 0 ⟨false, m⟩ []))))
theorem condition_ok {bs : List Nat} (hs : Src bs) (n : Int) (hn : n < 1000) : ∀ (d : Nat) (p : Nat), d ≤ 2 → p + cbd d < 700000000 → ∃ (e : E) (q : Nat),
    Does Try.prog 70 [rdD bs p] [.ref 1000000 0, I n, I d] (eD e) [rdD bs q] ∧ p ≤ q ∧ q ≤ p + cbd d ∧ esz e ≤ 10 + 4 * d := by
  intro d
  induction d with
  | zero => exact fun p hd hp => cond_step hs n hn 0 (fun d' p h => by omega) p hd hp
  | succ d ih =>
    intro p hd hp
    exact cond_step hs n hn (d + 1) (fun d' p h hp => by
      obtain rfl : d = d' := by omega
      exact ih p (by omega) hp) p hd hp
theorem randomCondition_ok {bs : List Nat} (hs : Src bs) (n : Int) (hn : n < 1000) (p : Nat) (hp : p < 600000000) : ∃ (e : E) (q : Nat),
    Does Try.prog 65 [rdD bs p] [.ref 1000000 0, I n] (eD e) [rdD bs q] ∧ p ≤ q ∧ q ≤ p + 240 ∧ esz e ≤ 18 := by
  have hb : cbd 2 = 240 := by decide
  obtain ⟨e, q, he, h0, h1⟩ := condition_ok hs n hn 2 p (by decide) (by omega)
  refine ⟨e, q, ?_, by omega, by (try simp only [esz, eszL]); omega⟩
  refine does c_spec_randomCondition mixed (Nat.le_of_ble_eq_true rfl) 1 rfl ?_
  conv => arg 3; whnf
  repeat' (first
    | with_reducible refine acc_none ?_ | (conv in hold _ => simp (disch := omega) only [go_sem]) | refine Stp.go ?_ | (with_reducible first | refine it_pos rfl ?_ | refine it_neg (by decide) ?_ | refine st_nil rfl ?_ | refine s_op ?_ ?_ | exact True.intro) | ((with_reducible first | refine dw_reg0 ?_ | refine dw_regB ?_); (conv => arg 3; whnf)) | (refine Spl.go (fun hq he => ?_) (fun hq he => ?_) <;> first | (exfalso; clear hq; omega) | ((try (first | (conv => arg 8; simp only [hq]) | (conv => arg 4; simp only [hq]))); clear hq)) | ((with_reducible first | refine c_split (fun hq => ?_) (fun hq => ?_) | refine q_split (fun hq => ?_) (fun hq => ?_)) <;> (try (first | (conv => arg 8; simp only [hq]) | (conv => arg 4; simp only [hq])))) | (with_reducible refine fin_0 ?_ (by first | rfl | (conv => lhs; simp only [go_sem])) ?_)
    | (with_reducible show evC _ _ _ _ _ _ _ _ _ _ _ _
       first
       | (refine c_doesR [1000000] (he) (callOK_of rfl (Nat.le_of_ble_eq_true rfl) rfl ?_ ?_) ?_ ?_
          iterate 2 · repeat' (first | (conv in hold _ => simp (disch := omega) only [go_sem]) | exact True.intro | exact Sub.refl _ | omega)
          · ((conv => rhs; simp (disch := omega) only [go_sem]); try rfl)))
    | exact Sub.refl _ | omega)
  refine fin_L [1000000] ?_ ?_ rfl ?_
  repeat' (first | (conv in hold _ => simp (disch := omega) only [go_sem]) | exact True.intro | exact Sub.refl _ | omega)
end Go.Proofs.Ytikfanemeglcoaa
set_option maxHeartbeats 4000000
set_option maxRecDepth 100000
namespace Go.Proofs.Ytikfanemeglcoaa
open Go.ChangeShapes Go.WideShapes Go.ChangeAt Go.RowKit Go.Joins Go.Deep

/-- A plan. -/
inductive Pl where
  | mk (k t : Int) (es : List E) (cs : List Int) (ks : List Pl)
namespace Pl
def k : Pl → Int
  | mk k _ _ _ _ => k
def t : Pl → Int
  | mk _ t _ _ _ => t
def es : Pl → List E
  | mk _ _ es _ _ => es
def cs : Pl → List Int
  | mk _ _ _ cs _ => cs
def ks : Pl → List Pl
  | mk _ _ _ _ ks => ks
end Pl
mutual
def pD : Pl → D
  | .mk k t es cs ks => .agg [I k, I t, .sl 5 (es.map eD), intsD cs, .sl 5 (pDL ks)]
def pDL : List Pl → List D
  | [] => []
  | p :: l => pD p :: pDL l
end
theorem pDL_map : ∀ l : List Pl, pDL l = l.map pD
  | [] => by rw [pDL]; rfl
  | p :: l => by rw [pDL, pDL_map l]; rfl
theorem pD_eq (p : Pl) : pD p = .agg [I p.k, I p.t, .sl 5 (p.es.map eD), intsD p.cs, .sl 5 (p.ks.map pD)] := by
  cases p with
  | mk k t es cs ks => rw [pD, pDL_map]; rfl
theorem plans_pur : ∀ l : List Pl, D.purL (l.map pD) = true
  | [] => rfl
  | p :: l => by rw [List.map_cons, D.purL, plans_pur l, pD_eq]; rfl
theorem plans_ren (L : List Nat) (l : List Pl) : D.renL L (l.map pD) = l.map pD := ren_pure.renL_pure L _ (plans_pur l)
theorem Pl.k_mk (k t : Int) (es : List E) (cs : List Int) (ks : List Pl) : (Pl.mk k t es cs ks).k = k := rfl
theorem Pl.t_mk (k t : Int) (es : List E) (cs : List Int) (ks : List Pl) : (Pl.mk k t es cs ks).t = t := rfl
theorem Pl.es_mk (k t : Int) (es : List E) (cs : List Int) (ks : List Pl) : (Pl.mk k t es cs ks).es = es := rfl
theorem Pl.cs_mk (k t : Int) (es : List E) (cs : List Int) (ks : List Pl) : (Pl.mk k t es cs ks).cs = cs := rfl
theorem Pl.ks_mk (k t : Int) (es : List E) (cs : List Int) (ks : List Pl) : (Pl.mk k t es cs ks).ks = ks := rfl
attribute [go_sem] pD_eq plans_pur plans_ren Pl.k_mk Pl.t_mk Pl.es_mk Pl.cs_mk Pl.ks_mk
mutual
theorem Pl.indA {P : Pl → Prop} (h : ∀ p, (∀ x, x ∈ p.ks → P x) → P p) : ∀ p, P p
  | .mk k t es cs ks => h (.mk k t es cs ks) (Pl.indL h ks)
theorem Pl.indL {P : Pl → Prop} (h : ∀ p, (∀ x, x ∈ p.ks → P x) → P p) : ∀ l : List Pl, ∀ x, x ∈ l → P x
  | [] => fun _ hx => by cases hx
  | p :: l => fun x hx => (List.mem_cons.1 hx).elim (fun he => he.symm ▸ Pl.indA h p) (Pl.indL h l x)
end
/-- All lists in a plan are such as there may be. -/
inductive MostP : Pl → Prop
  | mk {k t : Int} {es : List E} {cs : List Int} {ks : List Pl} (h1 : es.length ≤ big) (h2 : ∀ x, x ∈ es → Most x) (h3 : cs.length ≤ big) (h4 : ks.length ≤ big) (h5 : ∀ x, x ∈ ks → MostP x) : MostP (.mk k t es cs ks)
theorem MostP.lens {p : Pl} (h : MostP p) : p.es.length ≤ big ∧ p.cs.length ≤ big ∧ p.ks.length ≤ big := by cases h with | mk h1 _ h3 h4 _ => exact ⟨h1, h3, h4⟩
theorem MostP.expr {p : Pl} {x : E} (h : MostP p) (hx : x ∈ p.es) : Most x := by cases h with | mk _ h2 _ _ _ => exact h2 x hx
theorem MostP.kid {p x : Pl} (h : MostP p) (hx : x ∈ p.ks) : MostP x := by cases h with | mk _ _ _ _ h5 => exact h5 x hx
mutual
/-- How many elements a plan's lists have. -/
def psz : Pl → Nat
  | .mk _ _ es cs ks => eszL es + cs.length + pszL ks
def pszL : List Pl → Nat
  | [] => 0
  | p :: l => 1 + psz p + pszL l
end
theorem psz_eq (p : Pl) : psz p = eszL p.es + p.cs.length + pszL p.ks := by cases p; rfl
theorem pszL_append : ∀ (l m : List Pl), pszL (l ++ m) = pszL l + pszL m
  | [], m => by rw [List.nil_append, pszL, Nat.zero_add]
  | e :: l, m => by rw [List.cons_append, pszL, pszL, pszL_append l m]; omega
theorem pszL_next {ps : List Pl} {i : Nat} {x : Pl} (h : ps[i]? = some x) : pszL (ps.take (i + 1)) = pszL (ps.take i) + (1 + psz x) := by
  rw [take_next h, pszL_append, pszL, pszL]
  omega
theorem pszL_len : ∀ l : List Pl, l.length ≤ pszL l
  | [] => Nat.le_refl _
  | e :: l => by
    have := pszL_len l
    rw [pszL, List.length_cons]
    omega
theorem pszL_rest (ps : List Pl) (i : Nat) : pszL (ps.take i) + (ps.length - i) ≤ pszL ps := by
  have h1 := pszL_append (ps.take i) (ps.drop i)
  rw [List.take_append_drop] at h1
  have h2 := pszL_len (ps.drop i)
  rw [List.length_drop] at h2
  omega
theorem pszL_low (ps : List Pl) (i : Nat) (hi : i ≤ ps.length) : i ≤ pszL (ps.take i) := by
  have h := pszL_len (ps.take i)
  rw [List.length_take] at h
  omega
theorem pszL_mem {p : Pl} {l : List Pl} (h : p ∈ l) : psz p + 1 ≤ pszL l := by
  induction l with
  | nil => cases h
  | cons x l ih =>
    rw [pszL]
    rcases List.mem_cons.1 h with rfl | h
    · omega
    · have := ih h; omega

section
variable {H : Type} {enc : TypeId × Value → H} {W : World} {base b0 : Nat} {held : Bool} {r : Reach} {v : Value} {d : DataW H} {p : List MemPlace}
theorem trod_5 {P : Program} {spare : Nat → Bool} {t : TypeId} {f0 f1 f2 f3 f4 : Field} {fuel : Nat} {cs : List Value} {x : DataW H × List MemPlace} (ht : P.underlying t = some (.struct #[f0, f1, f2, f3, f4])) (h : DataW.trod enc P W base spare held fuel t cs = some x) :
    ∃ y0 y1 y2 y3 y4 n, fuel = n + 1 ∧ cs.length = P.cellsOf t ∧ DataW.trod enc P W base spare held n f0.type ((cs.drop f0.offset).take (P.cellsOf f0.type)) = some y0 ∧
      DataW.trod enc P W base spare held n f1.type ((cs.drop f1.offset).take (P.cellsOf f1.type)) = some y1 ∧ DataW.trod enc P W base spare held n f2.type ((cs.drop f2.offset).take (P.cellsOf f2.type)) = some y2 ∧
      DataW.trod enc P W base spare held n f3.type ((cs.drop f3.offset).take (P.cellsOf f3.type)) = some y3 ∧ DataW.trod enc P W base spare held n f4.type ((cs.drop f4.offset).take (P.cellsOf f4.type)) = some y4 := by
  obtain ⟨xs, n, hn, _, hl, hlen, hf⟩ := DataW.trod_struct ht h
  have hs : xs.length = 5 := by simpa using hlen
  match xs, hs with
  | [y0, y1, y2, y3, y4], _ => exact ⟨y0, y1, y2, y3, y4, n, hn, hl, by simpa using hf 0 f0 rfl, by simpa using hf 1 f1 rfl, by simpa using hf 2 f2 rfl, by simpa using hf 3 f3 rfl, by simpa using hf 4 f4 rfl⟩
/-- A plan that came in. -/
def IsP (w : World) (v : Value) (p : Pl) : Prop := MostP p ∧ Fz w (allOf w) noNames (pD p) v
end
end Go.Proofs.Ytikfanemeglcoaa
set_option maxHeartbeats 4000000
set_option maxRecDepth 100000
set_option linter.unusedVariables false
set_option linter.unusedSimpArgs false
namespace Go.Proofs.Ytikfanemeglcoaa
open Go.RowKit

def kidAt (p : Pl) (i : Int) : Option Pl := if 0 ≤ i then p.ks[i.toNat]? else none
def paOf : Pl → List Int → Option Pl
  | p, [] => some p
  | p, i :: l => (kidAt p i).bind fun q => paOf q l
theorem paOf_append : ∀ (l m : List Int) (p : Pl), paOf p (l ++ m) = (paOf p l).bind fun q => paOf q m
  | [], m, p => rfl
  | i :: l, m, p => by
    rw [List.cons_append, paOf, paOf]
    cases kidAt p i with
    | none => rfl
    | some q => exact paOf_append l m q
theorem paOf_next {p : Pl} {l : List Int} {i : Nat} {x : Int} (h : l[i]? = some x) : paOf p (l.take (i + 1)) = (paOf p (l.take i)).bind fun q => kidAt q x := by
  rw [take_next h, paOf_append]
  congr 1
  funext q
  rw [paOf]
  cases kidAt q x with
  | none => rfl
  | some y => rfl
theorem kidAt_sz {p q : Pl} {i : Int} (h : kidAt p i = some q) : psz q ≤ psz p := by
  unfold kidAt at h
  split at h
  · have h1 := pszL_mem (List.mem_of_getElem? h)
    rw [psz_eq p]
    omega
  · cases h
theorem paOf_sz : ∀ (l : List Int) (p q : Pl), paOf p l = some q → psz q ≤ psz p
  | [], p, q, h => by
    obtain rfl : p = q := by simpa [paOf] using h
    exact Nat.le_refl _
  | i :: l, p, q, h => by
    rw [paOf] at h
    cases hk : kidAt p i with
    | none => rw [hk] at h; cases h
    | some y =>
      rw [hk] at h
      have h1 := kidAt_sz hk
      have h2 := paOf_sz l y q h
      omega
theorem kidAt_some {p q : Pl} {i : Int} (h : kidAt p i = some q) : 0 ≤ i ∧ i < p.ks.length ∧ p.ks[i.toNat]? = some q := by
  unfold kidAt at h
  split at h
  · rename_i h0
    have := (List.getElem?_eq_some_iff.1 h).1
    exact ⟨h0, by omega, h⟩
  · cases h
theorem kidAt_none {p : Pl} {i : Int} (h : kidAt p i = none) : ¬ (0 ≤ i ∧ i < p.ks.length) := by
  rintro ⟨h0, h1⟩
  unfold kidAt at h
  rw [if_pos h0, List.getElem?_eq_none_iff] at h
  omega
/-- Where a path leads into a part, each beginning of it does. -/
theorem paOf_split {p q : Pl} {l : List Int} (k : Nat) (h : paOf p l = some q) : ∃ a, paOf p (l.take k) = some a ∧ paOf a (l.drop k) = some q := by
  rw [← List.take_append_drop k l, paOf_append] at h
  cases ha : paOf p (l.take k) with
  | none => rw [ha] at h; cases h
  | some a => rw [ha] at h; exact ⟨a, rfl, h⟩
def zP : Pl := .mk 0 0 [] [] []
/-- What both packages answer. -/
def paV (m : Nat) (p : Pl) (l : List Int) : Option Pl := if l.length ≤ m then paOf p l else none
def paD : Option Pl → D
  | some q => .tup [pD q, Bo true]
  | none => .tup [pD zP, Bo false]
theorem zP_sub : Sub (.tup [.agg [I 0, I 0, .nul, .nul, .nul], Bo false]) (paD none) := Sub.tup ⟨by rw [pD_eq]; exact Sub.agg ⟨Sub.refl _, Sub.refl _, Sub.nul 5, Sub.nul 1, Sub.nul 5, trivial⟩, Sub.refl _, trivial⟩
theorem paD_pur (o : Option Pl) : (paD o).pur = true := by
  cases o with
  | none => show (D.tup [pD zP, Bo false]).pur = true; rw [pD_eq]; rfl
  | some q => show (D.tup [pD q, Bo true]).pur = true; rw [pD_eq]; rfl
end Go.Proofs.Ytikfanemeglcoaa
