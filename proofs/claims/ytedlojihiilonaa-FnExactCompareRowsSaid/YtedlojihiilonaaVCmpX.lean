/-
  The comparison of rows, in both packages. No condition.
-/
import Derived.Test.YtedlojihiilonaaDca
import Derived.Test.YtedlojihiilonaaVTbW
import Derived.Test.YtedlojihiilonaaVCmpR
set_option maxHeartbeats 4000000
set_option maxRecDepth 100000
set_option linter.unusedVariables false
set_option linter.unusedSimpArgs false
namespace Go.Proofs.Ytedlojihiilonaa
open Go.RowKit

/-- What both packages answer. -/
noncomputable def cmpRV (a b : List V) : Int := if (rowOk a ∧ rowOk b) ∧ a.length = b.length then cmpR a b else 2
theorem cmpRV_t {a b : List V} (h : (rowOk a ∧ rowOk b) ∧ a.length = b.length) : cmpRV a b = cmpR a b := if_pos h
theorem cmpRV_f {a b : List V} (h : ¬ ((rowOk a ∧ rowOk b) ∧ a.length = b.length)) : cmpRV a b = 2 := if_neg h
theorem CompareRows_spec (a b : List V) (ha : a.length < 2000000) (hb : b.length < 2000000) : Does Try.prog 10 [] [rowD a, rowD b] (I (cmpRV a b)) [] := by
  have h1 := validRow_ok a ha
  have h2 := validRow_ok b hb
  have h3 := compareRows_spec a b ha hb
  by_cases h : (rowOk a ∧ rowOk b) ∧ a.length = b.length
  · rw [cmpRV_t h]
    rw [decide_eq_true h.1.1] at h1
    rw [decide_eq_true h.1.2] at h2
    have hl := h.2
    refine does0 c_spec_CompareRows mixed (Nat.le_of_ble_eq_true rfl) ?_
    conv => arg 3; whnf
    repeat' (first
      | with_reducible refine acc_none ?_ | (conv in hold _ => simp (disch := omega) only [go_sem]) | refine Stp.go ?_ | (with_reducible first | refine it_pos rfl ?_ | refine it_neg (by decide) ?_ | refine st_nil rfl ?_ | refine s_op ?_ ?_ | exact True.intro) | ((with_reducible first | refine dw_reg0 ?_ | refine dw_regB ?_); (conv => arg 3; whnf)) | (refine Spl.go (fun hq he => ?_) (fun hq he => ?_) <;> first | (exfalso; clear hq; omega) | ((try (first | (conv => arg 8; simp only [hq]) | (conv => arg 4; simp only [hq]))); clear hq)) | ((with_reducible first | refine c_split (fun hq => ?_) (fun hq => ?_) | refine q_split (fun hq => ?_) (fun hq => ?_)) <;> (try (first | (conv => arg 8; simp only [hq]) | (conv => arg 4; simp only [hq])))) | (with_reducible refine fin_0 ?_ (by first | rfl | (conv => lhs; simp only [go_sem])) ?_)
      | (with_reducible show evC _ _ _ _ _ _ _ _ _ _ _ _
         first
         | (refine c_doesE (h1) ?_ ?_ ?_
            · ((try (conv => rhs; simp (disch := omega) only [go_sem])); try rfl)
            · first | rfl | (conv => lhs; simp only [go_sem]))
         | (refine c_doesE (h2) ?_ ?_ ?_
            · ((try (conv => rhs; simp (disch := omega) only [go_sem])); try rfl)
            · first | rfl | (conv => lhs; simp only [go_sem]))
         | (refine c_doesE (h3) ?_ ?_ ?_
            · ((try (conv => rhs; simp (disch := omega) only [go_sem])); try rfl)
            · first | rfl | (conv => lhs; simp only [go_sem])))
      | exact Sub.refl _ | omega)
  · rw [cmpRV_f h]
    by_cases ho : rowOk a
    · rw [decide_eq_true ho] at h1
      by_cases ho' : rowOk b
      · rw [decide_eq_true ho'] at h2
        have hl : ¬ a.length = b.length := fun e => h ⟨⟨ho, ho'⟩, e⟩
        refine does0 c_spec_CompareRows mixed (Nat.le_of_ble_eq_true rfl) ?_
        conv => arg 3; whnf
        repeat' (first
          | with_reducible refine acc_none ?_ | (conv in hold _ => simp (disch := omega) only [go_sem]) | refine Stp.go ?_ | (with_reducible first | refine it_pos rfl ?_ | refine it_neg (by decide) ?_ | refine st_nil rfl ?_ | refine s_op ?_ ?_ | exact True.intro) | ((with_reducible first | refine dw_reg0 ?_ | refine dw_regB ?_); (conv => arg 3; whnf)) | (refine Spl.go (fun hq he => ?_) (fun hq he => ?_) <;> first | (exfalso; clear hq; omega) | ((try (first | (conv => arg 8; simp only [hq]) | (conv => arg 4; simp only [hq]))); clear hq)) | ((with_reducible first | refine c_split (fun hq => ?_) (fun hq => ?_) | refine q_split (fun hq => ?_) (fun hq => ?_)) <;> (try (first | (conv => arg 8; simp only [hq]) | (conv => arg 4; simp only [hq])))) | (with_reducible refine fin_0 ?_ (by first | rfl | (conv => lhs; simp only [go_sem])) ?_)
          | (with_reducible show evC _ _ _ _ _ _ _ _ _ _ _ _
             first
             | (refine c_doesE (h1) ?_ ?_ ?_
                · ((try (conv => rhs; simp (disch := omega) only [go_sem])); try rfl)
                · first | rfl | (conv => lhs; simp only [go_sem]))
             | (refine c_doesE (h2) ?_ ?_ ?_
                · ((try (conv => rhs; simp (disch := omega) only [go_sem])); try rfl)
                · first | rfl | (conv => lhs; simp only [go_sem])))
          | exact Sub.refl _ | omega)
      · rw [decide_eq_false ho'] at h2
        refine does0 c_spec_CompareRows mixed (Nat.le_of_ble_eq_true rfl) ?_
        conv => arg 3; whnf
        repeat' (first
          | with_reducible refine acc_none ?_ | (conv in hold _ => simp (disch := omega) only [go_sem]) | refine Stp.go ?_ | (with_reducible first | refine it_pos rfl ?_ | refine it_neg (by decide) ?_ | refine st_nil rfl ?_ | refine s_op ?_ ?_ | exact True.intro) | ((with_reducible first | refine dw_reg0 ?_ | refine dw_regB ?_); (conv => arg 3; whnf)) | (refine Spl.go (fun hq he => ?_) (fun hq he => ?_) <;> first | (exfalso; clear hq; omega) | ((try (first | (conv => arg 8; simp only [hq]) | (conv => arg 4; simp only [hq]))); clear hq)) | ((with_reducible first | refine c_split (fun hq => ?_) (fun hq => ?_) | refine q_split (fun hq => ?_) (fun hq => ?_)) <;> (try (first | (conv => arg 8; simp only [hq]) | (conv => arg 4; simp only [hq])))) | (with_reducible refine fin_0 ?_ (by first | rfl | (conv => lhs; simp only [go_sem])) ?_)
          | (with_reducible show evC _ _ _ _ _ _ _ _ _ _ _ _
             first
             | (refine c_doesE (h1) ?_ ?_ ?_
                · ((try (conv => rhs; simp (disch := omega) only [go_sem])); try rfl)
                · first | rfl | (conv => lhs; simp only [go_sem]))
             | (refine c_doesE (h2) ?_ ?_ ?_
                · ((try (conv => rhs; simp (disch := omega) only [go_sem])); try rfl)
                · first | rfl | (conv => lhs; simp only [go_sem])))
          | exact Sub.refl _ | omega)
    · rw [decide_eq_false ho] at h1
      refine does0 c_spec_CompareRows mixed (Nat.le_of_ble_eq_true rfl) ?_
      conv => arg 3; whnf
      repeat' (first
        | with_reducible refine acc_none ?_ | (conv in hold _ => simp (disch := omega) only [go_sem]) | refine Stp.go ?_ | (with_reducible first | refine it_pos rfl ?_ | refine it_neg (by decide) ?_ | refine st_nil rfl ?_ | refine s_op ?_ ?_ | exact True.intro) | ((with_reducible first | refine dw_reg0 ?_ | refine dw_regB ?_); (conv => arg 3; whnf)) | (refine Spl.go (fun hq he => ?_) (fun hq he => ?_) <;> first | (exfalso; clear hq; omega) | ((try (first | (conv => arg 8; simp only [hq]) | (conv => arg 4; simp only [hq]))); clear hq)) | ((with_reducible first | refine c_split (fun hq => ?_) (fun hq => ?_) | refine q_split (fun hq => ?_) (fun hq => ?_)) <;> (try (first | (conv => arg 8; simp only [hq]) | (conv => arg 4; simp only [hq])))) | (with_reducible refine fin_0 ?_ (by first | rfl | (conv => lhs; simp only [go_sem])) ?_)
        | (with_reducible show evC _ _ _ _ _ _ _ _ _ _ _ _
           first
           | (refine c_doesE (h1) ?_ ?_ ?_
              · ((try (conv => rhs; simp (disch := omega) only [go_sem])); try rfl)
              · first | rfl | (conv => lhs; simp only [go_sem])))
        | exact Sub.refl _ | omega)
theorem CompareRows_impl (a b : List V) (ha : a.length < 2000000) (hb : b.length < 2000000) : Does Try.prog 9 [] [rowD a, rowD b] (I (cmpRV a b)) [] := by
  have h1 := implValidRow_ok a ha
  have h2 := implValidRow_ok b hb
  by_cases hl : a.length = b.length
  · by_cases ho : rowOk a
    · rw [decide_eq_true ho] at h1
      by_cases ho' : rowOk b
      · rw [decide_eq_true ho'] at h2
        have h3 := compareRows_impl a b hl ha ho.2 ho'.2
        rw [cmpRV_t ⟨⟨ho, ho'⟩, hl⟩]
        refine does0 c_impl_CompareRows mixed (Nat.le_of_ble_eq_true rfl) ?_
        conv => arg 3; whnf
        repeat' (first
          | with_reducible refine acc_none ?_ | (conv in hold _ => simp (disch := omega) only [go_sem]) | refine Stp.go ?_ | (with_reducible first | refine it_pos rfl ?_ | refine it_neg (by decide) ?_ | refine st_nil rfl ?_ | refine s_op ?_ ?_ | exact True.intro) | ((with_reducible first | refine dw_reg0 ?_ | refine dw_regB ?_); (conv => arg 3; whnf)) | (refine Spl.go (fun hq he => ?_) (fun hq he => ?_) <;> first | (exfalso; clear hq; omega) | ((try (first | (conv => arg 8; simp only [hq]) | (conv => arg 4; simp only [hq]))); clear hq)) | ((with_reducible first | refine c_split (fun hq => ?_) (fun hq => ?_) | refine q_split (fun hq => ?_) (fun hq => ?_)) <;> (try (first | (conv => arg 8; simp only [hq]) | (conv => arg 4; simp only [hq])))) | (with_reducible refine fin_0 ?_ (by first | rfl | (conv => lhs; simp only [go_sem])) ?_)
          | (with_reducible show evC _ _ _ _ _ _ _ _ _ _ _ _
             first
             | (refine c_doesE (h1) ?_ ?_ ?_
                · ((try (conv => rhs; simp (disch := omega) only [go_sem])); try rfl)
                · first | rfl | (conv => lhs; simp only [go_sem]))
             | (refine c_doesE (h2) ?_ ?_ ?_
                · ((try (conv => rhs; simp (disch := omega) only [go_sem])); try rfl)
                · first | rfl | (conv => lhs; simp only [go_sem]))
             | (refine c_doesE (h3) ?_ ?_ ?_
                · ((try (conv => rhs; simp (disch := omega) only [go_sem])); try rfl)
                · first | rfl | (conv => lhs; simp only [go_sem])))
          | exact Sub.refl _ | omega)
      · rw [decide_eq_false ho'] at h2
        rw [cmpRV_f (fun h => ho' h.1.2)]
        refine does0 c_impl_CompareRows mixed (Nat.le_of_ble_eq_true rfl) ?_
        conv => arg 3; whnf
        repeat' (first
          | with_reducible refine acc_none ?_ | (conv in hold _ => simp (disch := omega) only [go_sem]) | refine Stp.go ?_ | (with_reducible first | refine it_pos rfl ?_ | refine it_neg (by decide) ?_ | refine st_nil rfl ?_ | refine s_op ?_ ?_ | exact True.intro) | ((with_reducible first | refine dw_reg0 ?_ | refine dw_regB ?_); (conv => arg 3; whnf)) | (refine Spl.go (fun hq he => ?_) (fun hq he => ?_) <;> first | (exfalso; clear hq; omega) | ((try (first | (conv => arg 8; simp only [hq]) | (conv => arg 4; simp only [hq]))); clear hq)) | ((with_reducible first | refine c_split (fun hq => ?_) (fun hq => ?_) | refine q_split (fun hq => ?_) (fun hq => ?_)) <;> (try (first | (conv => arg 8; simp only [hq]) | (conv => arg 4; simp only [hq])))) | (with_reducible refine fin_0 ?_ (by first | rfl | (conv => lhs; simp only [go_sem])) ?_)
          | (with_reducible show evC _ _ _ _ _ _ _ _ _ _ _ _
             first
             | (refine c_doesE (h1) ?_ ?_ ?_
                · ((try (conv => rhs; simp (disch := omega) only [go_sem])); try rfl)
                · first | rfl | (conv => lhs; simp only [go_sem]))
             | (refine c_doesE (h2) ?_ ?_ ?_
                · ((try (conv => rhs; simp (disch := omega) only [go_sem])); try rfl)
                · first | rfl | (conv => lhs; simp only [go_sem])))
          | exact Sub.refl _ | omega)
    · rw [decide_eq_false ho] at h1
      rw [cmpRV_f (fun h => ho h.1.1)]
      refine does0 c_impl_CompareRows mixed (Nat.le_of_ble_eq_true rfl) ?_
      conv => arg 3; whnf
      repeat' (first
        | with_reducible refine acc_none ?_ | (conv in hold _ => simp (disch := omega) only [go_sem]) | refine Stp.go ?_ | (with_reducible first | refine it_pos rfl ?_ | refine it_neg (by decide) ?_ | refine st_nil rfl ?_ | refine s_op ?_ ?_ | exact True.intro) | ((with_reducible first | refine dw_reg0 ?_ | refine dw_regB ?_); (conv => arg 3; whnf)) | (refine Spl.go (fun hq he => ?_) (fun hq he => ?_) <;> first | (exfalso; clear hq; omega) | ((try (first | (conv => arg 8; simp only [hq]) | (conv => arg 4; simp only [hq]))); clear hq)) | ((with_reducible first | refine c_split (fun hq => ?_) (fun hq => ?_) | refine q_split (fun hq => ?_) (fun hq => ?_)) <;> (try (first | (conv => arg 8; simp only [hq]) | (conv => arg 4; simp only [hq])))) | (with_reducible refine fin_0 ?_ (by first | rfl | (conv => lhs; simp only [go_sem])) ?_)
        | (with_reducible show evC _ _ _ _ _ _ _ _ _ _ _ _
           first
           | (refine c_doesE (h1) ?_ ?_ ?_
              · ((try (conv => rhs; simp (disch := omega) only [go_sem])); try rfl)
              · first | rfl | (conv => lhs; simp only [go_sem])))
        | exact Sub.refl _ | omega)
  · rw [cmpRV_f (fun h => hl h.2)]
    refine does0 c_impl_CompareRows mixed (Nat.le_of_ble_eq_true rfl) ?_
    conv => arg 3; whnf
    repeat' (first | with_reducible refine acc_none ?_ | (conv in hold _ => simp (disch := omega) only [go_sem]) | refine Stp.go ?_ | (with_reducible first | refine it_pos rfl ?_ | refine it_neg (by decide) ?_ | refine st_nil rfl ?_ | refine s_op ?_ ?_ | exact True.intro) | ((with_reducible first | refine dw_reg0 ?_ | refine dw_regB ?_); (conv => arg 3; whnf)) | (refine Spl.go (fun hq he => ?_) (fun hq he => ?_) <;> first | (exfalso; clear hq; omega) | ((try (first | (conv => arg 8; simp only [hq]) | (conv => arg 4; simp only [hq]))); clear hq)) | ((with_reducible first | refine c_split (fun hq => ?_) (fun hq => ?_) | refine q_split (fun hq => ?_) (fun hq => ?_)) <;> (try (first | (conv => arg 8; simp only [hq]) | (conv => arg 4; simp only [hq])))) | (with_reducible refine fin_0 ?_ (by first | rfl | (conv => lhs; simp only [go_sem])) ?_) | exact Sub.refl _ | omega)
end Go.Proofs.Ytedlojihiilonaa
