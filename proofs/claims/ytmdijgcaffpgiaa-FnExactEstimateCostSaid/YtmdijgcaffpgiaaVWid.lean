/-
  The fields of plans, in both packages. No condition.
-/
import Derived.Test.YtmdijgcaffpgiaaDcVWid
import Derived.Test.YtmdijgcaffpgiaaDca
import Derived.Test.YtmdijgcaffpgiaaVPl
import Derived.Test.YtmdijgcaffpgiaaVEvI
import Derived.Test.YtmdijgcaffpgiaaVEvS
import Derived.Test.YtmdijgcaffpgiaaVVal
import Derived.Test.YtmdijgcaffpgiaaVLib
set_option maxHeartbeats 4000000
set_option maxRecDepth 100000
namespace Go.Proofs.Ytmdijgcaffpgiaa
open Go.RowKit

/-- A plan has the fields of its kind, and no others. -/
def fields (p : Pl) : Prop := (1 ≤ p.k ∧ p.k ≤ 8) ∧ (p.k = 1 → p.ks.length = 0) ∧ (p.k = 4 ∨ p.k = 5 ∨ p.k = 6 → p.ks.length = 2) ∧ (p.k = 2 ∨ p.k = 3 ∨ p.k = 7 ∨ p.k = 8 → p.ks.length = 1) ∧
  (p.k = 2 ∨ p.k = 4 ∨ p.k = 5 → p.es.length = 1) ∧ (p.k = 1 ∨ p.k = 6 ∨ p.k = 7 ∨ p.k = 8 → p.es.length = 0) ∧ (p.t = 0 ∨ p.k = 1) ∧ (p.cs.length = 0 ∨ p.k = 8)
noncomputable instance fieldsDec (p : Pl) : Decidable (fields p) := Classical.propDecidable _
theorem onlyFields_ok (p : Pl) : Does Try.prog 80 [] [pD p] (Bo (decide (fields p))) [] := by
  have hr := inRange_ok p.k 1 8
  by_cases hk : 1 ≤ p.k ∧ p.k ≤ 8
  · rw [decide_eq_true hk] at hr
    refine does0 c_spec_onlyFields mixed (Nat.le_of_ble_eq_true rfl) ?_
    conv => arg 3; whnf
    repeat' (first | with_reducible refine acc_none ?_ | (conv in hold _ => simp (disch := omega) only [go_sem]) | refine Stp.go ?_ | (with_reducible first | refine it_pos rfl ?_ | refine it_neg (by decide) ?_ | refine st_nil rfl ?_ | refine s_op ?_ ?_ | exact True.intro) | ((with_reducible first | refine dw_reg0 ?_ | refine dw_regB ?_); (conv => arg 3; whnf)) | (refine Spl.go (fun hq he => ?_) (fun hq he => ?_) <;> first | (exfalso; clear hq; omega) | ((try (first | (conv => arg 8; simp only [hq]) | (conv => arg 4; simp only [hq]))); clear hq)) | ((with_reducible first | refine c_split (fun hq => ?_) (fun hq => ?_) | refine q_split (fun hq => ?_) (fun hq => ?_)) <;> (try (first | (conv => arg 8; simp only [hq]) | (conv => arg 4; simp only [hq])))) | (with_reducible refine fin_0 ?_ (by first | rfl | (conv => lhs; simp only [go_sem])) ?_) | exact Sub.refl _ | omega)
    all_goals
      refine c_doesE (hr) ?_ ?_ ?_
      · ((try (conv => rhs; simp (disch := omega) only [go_sem])); try rfl)
      · first | rfl | (conv => lhs; simp only [go_sem])
      repeat' (first | with_reducible refine acc_none ?_ | (conv in hold _ => simp (disch := omega) only [go_sem]) | refine Stp.go ?_ | (with_reducible first | refine it_pos rfl ?_ | refine it_neg (by decide) ?_ | refine st_nil rfl ?_ | refine s_op ?_ ?_ | exact True.intro) | ((with_reducible first | refine dw_reg0 ?_ | refine dw_regB ?_); (conv => arg 3; whnf)) | (refine Spl.go (fun hq he => ?_) (fun hq he => ?_) <;> first | (exfalso; clear hq; omega) | ((try (first | (conv => arg 8; simp only [hq]) | (conv => arg 4; simp only [hq]))); clear hq)) | ((with_reducible first | refine c_split (fun hq => ?_) (fun hq => ?_) | refine q_split (fun hq => ?_) (fun hq => ?_)) <;> (try (first | (conv => arg 8; simp only [hq]) | (conv => arg 4; simp only [hq])))) | (with_reducible refine fin_0 ?_ (by first | rfl | (conv => lhs; simp only [go_sem])) ?_) | exact Sub.refl _ | omega)
    all_goals first
      | exact sub_f (fun h => by unfold fields at h; omega)
      | exact sub_iff ⟨fun _ => by unfold fields; omega, fun _ => rfl⟩
      | exact sub_iff ⟨fun h' => by unfold fields; simp at h'; omega, fun h' => by unfold fields at h'; simp; omega⟩
  · rw [decide_eq_false hk] at hr
    refine does0 c_spec_onlyFields mixed (Nat.le_of_ble_eq_true rfl) ?_
    conv => arg 3; whnf
    repeat' (first
      | with_reducible refine acc_none ?_ | (conv in hold _ => simp (disch := omega) only [go_sem]) | refine Stp.go ?_ | (with_reducible first | refine it_pos rfl ?_ | refine it_neg (by decide) ?_ | refine st_nil rfl ?_ | refine s_op ?_ ?_ | exact True.intro) | ((with_reducible first | refine dw_reg0 ?_ | refine dw_regB ?_); (conv => arg 3; whnf)) | (refine Spl.go (fun hq he => ?_) (fun hq he => ?_) <;> first | (exfalso; clear hq; omega) | ((try (first | (conv => arg 8; simp only [hq]) | (conv => arg 4; simp only [hq]))); clear hq)) | ((with_reducible first | refine c_split (fun hq => ?_) (fun hq => ?_) | refine q_split (fun hq => ?_) (fun hq => ?_)) <;> (try (first | (conv => arg 8; simp only [hq]) | (conv => arg 4; simp only [hq])))) | (with_reducible refine fin_0 ?_ (by first | rfl | (conv => lhs; simp only [go_sem])) ?_)
      | (with_reducible show evC _ _ _ _ _ _ _ _ _ _ _ _
         first
         | (refine c_doesE (hr) ?_ ?_ ?_
            · ((try (conv => rhs; simp (disch := omega) only [go_sem])); try rfl)
            · first | rfl | (conv => lhs; simp only [go_sem])))
      | exact Sub.refl _ | omega)
    exact sub_f (fun h => hk h.1)
/-- What the program asks besides. -/
def fieldsI (p : Pl) : Prop := fields p ∧ (p.k = 3 → 1 ≤ p.es.length ∧ p.es.length ≤ 6)
noncomputable instance fieldsIDec (p : Pl) : Decidable (fieldsI p) := Classical.propDecidable _
theorem shapeOf_ok (k : Int) (h : 1 ≤ k ∧ k ≤ 8) : Does Try.prog 83 [] [I k] (.tup [.agg [I (if k = 2 ∨ k = 3 ∨ k = 4 ∨ k = 5 then 1 else 0), I (if k = 3 then 6 else if k = 2 ∨ k = 4 ∨ k = 5 then 1 else 0), I (if k = 1 then 0 else if k = 4 ∨ k = 5 ∨ k = 6 then 2 else 1)], Bo true]) [] := by
  refine does0 c_impl_shapeOf mixed (Nat.le_of_ble_eq_true rfl) ?_
  conv => arg 3; whnf
  repeat' (first | with_reducible refine acc_none ?_ | (conv in hold _ => simp (disch := omega) only [go_sem]) | refine Stp.go ?_ | (with_reducible first | refine it_pos rfl ?_ | refine it_neg (by decide) ?_ | refine st_nil rfl ?_ | refine s_op ?_ ?_ | exact True.intro) | ((with_reducible first | refine dw_reg0 ?_ | refine dw_regB ?_); (conv => arg 3; whnf)) | (refine Spl.go (fun hq he => ?_) (fun hq he => ?_) <;> first | (exfalso; clear hq; omega) | ((try (first | (conv => arg 8; simp only [hq]) | (conv => arg 4; simp only [hq]))); clear hq)) | ((with_reducible first | refine c_split (fun hq => ?_) (fun hq => ?_) | refine q_split (fun hq => ?_) (fun hq => ?_)) <;> (try (first | (conv => arg 8; simp only [hq]) | (conv => arg 4; simp only [hq])))) | (with_reducible refine fin_0 ?_ (by first | rfl | (conv => lhs; simp only [go_sem])) ?_) | exact Sub.refl _ | omega)
  all_goals exact Sub.of_eq (by subst he; rfl)
theorem shapeOf_no (k : Int) (h : ¬ (1 ≤ k ∧ k ≤ 8)) : Does Try.prog 83 [] [I k] (.tup [.agg [I 0, I 0, I 0], Bo false]) [] := by
  refine does0 c_impl_shapeOf mixed (Nat.le_of_ble_eq_true rfl) ?_
  conv => arg 3; whnf
  repeat' (first | with_reducible refine acc_none ?_ | (conv in hold _ => simp (disch := omega) only [go_sem]) | refine Stp.go ?_ | (with_reducible first | refine it_pos rfl ?_ | refine it_neg (by decide) ?_ | refine st_nil rfl ?_ | refine s_op ?_ ?_ | exact True.intro) | ((with_reducible first | refine dw_reg0 ?_ | refine dw_regB ?_); (conv => arg 3; whnf)) | (refine Spl.go (fun hq he => ?_) (fun hq he => ?_) <;> first | (exfalso; clear hq; omega) | ((try (first | (conv => arg 8; simp only [hq]) | (conv => arg 4; simp only [hq]))); clear hq)) | ((with_reducible first | refine c_split (fun hq => ?_) (fun hq => ?_) | refine q_split (fun hq => ?_) (fun hq => ?_)) <;> (try (first | (conv => arg 8; simp only [hq]) | (conv => arg 4; simp only [hq])))) | (with_reducible refine fin_0 ?_ (by first | rfl | (conv => lhs; simp only [go_sem])) ?_) | exact Sub.refl _ | omega)
theorem hasOwnFields_ok (p : Pl) : Does Try.prog 60 [] [pD p] (Bo (decide (fieldsI p))) [] := by
  by_cases hk : 1 ≤ p.k ∧ p.k ≤ 8
  · have hs := shapeOf_ok p.k hk
    refine does0 c_impl_hasOwnFields mixed (Nat.le_of_ble_eq_true rfl) ?_
    conv => arg 3; whnf
    repeat' (first
      | with_reducible refine acc_none ?_ | (conv in hold _ => simp (disch := omega) only [go_sem]) | refine Stp.go ?_ | (with_reducible first | refine it_pos rfl ?_ | refine it_neg (by decide) ?_ | refine st_nil rfl ?_ | refine s_op ?_ ?_ | exact True.intro) | ((with_reducible first | refine dw_reg0 ?_ | refine dw_regB ?_); (conv => arg 3; whnf)) | (refine Spl.go (fun hq he => ?_) (fun hq he => ?_) <;> first | (exfalso; clear hq; omega) | ((try (first | (conv => arg 8; simp only [hq]) | (conv => arg 4; simp only [hq]))); clear hq)) | ((with_reducible first | refine c_split (fun hq => ?_) (fun hq => ?_) | refine q_split (fun hq => ?_) (fun hq => ?_)) <;> (try (first | (conv => arg 8; simp only [hq]) | (conv => arg 4; simp only [hq])))) | (with_reducible refine fin_0 ?_ (by first | rfl | (conv => lhs; simp only [go_sem])) ?_)
      | (with_reducible show evC _ _ _ _ _ _ _ _ _ _ _ _
         first
         | (refine c_doesE (hs) ?_ ?_ ?_
            · ((try (conv => rhs; simp (disch := omega) only [go_sem])); try rfl)
            · first | rfl | (conv => lhs; simp only [go_sem])))
      | exact Sub.refl _ | omega)
    all_goals first
      | exact sub_f (fun h => by unfold fieldsI fields at h; omega)
      | exact sub_iff ⟨fun _ => by unfold fieldsI fields; omega, fun _ => rfl⟩
      | exact sub_iff ⟨fun h' => by unfold fieldsI fields; simp at h'; omega, fun h' => by unfold fieldsI fields at h'; simp; omega⟩
      | (by_cases h0 : p.cs.length = 0
         · exact Sub.of_eq (by rw [h0, decide_eq_true (show fieldsI p by unfold fieldsI fields; omega)]; rfl)
         · exact Sub.of_eq (by rw [decide_eq_false (fun h : fieldsI p => by unfold fieldsI fields at h; omega), beq_eq_false_iff_ne.2 (by omega)]))
  · have hs := shapeOf_no p.k hk
    refine does0 c_impl_hasOwnFields mixed (Nat.le_of_ble_eq_true rfl) ?_
    conv => arg 3; whnf
    repeat' (first
      | with_reducible refine acc_none ?_ | (conv in hold _ => simp (disch := omega) only [go_sem]) | refine Stp.go ?_ | (with_reducible first | refine it_pos rfl ?_ | refine it_neg (by decide) ?_ | refine st_nil rfl ?_ | refine s_op ?_ ?_ | exact True.intro) | ((with_reducible first | refine dw_reg0 ?_ | refine dw_regB ?_); (conv => arg 3; whnf)) | (refine Spl.go (fun hq he => ?_) (fun hq he => ?_) <;> first | (exfalso; clear hq; omega) | ((try (first | (conv => arg 8; simp only [hq]) | (conv => arg 4; simp only [hq]))); clear hq)) | ((with_reducible first | refine c_split (fun hq => ?_) (fun hq => ?_) | refine q_split (fun hq => ?_) (fun hq => ?_)) <;> (try (first | (conv => arg 8; simp only [hq]) | (conv => arg 4; simp only [hq])))) | (with_reducible refine fin_0 ?_ (by first | rfl | (conv => lhs; simp only [go_sem])) ?_)
      | (with_reducible show evC _ _ _ _ _ _ _ _ _ _ _ _
         first
         | (refine c_doesE (hs) ?_ ?_ ?_
            · ((try (conv => rhs; simp (disch := omega) only [go_sem])); try rfl)
            · first | rfl | (conv => lhs; simp only [go_sem])))
      | exact Sub.refl _ | omega)
    exact sub_f (fun h => hk h.1.1)
end Go.Proofs.Ytmdijgcaffpgiaa
