/-
  Valid tables, in both packages. No condition.
-/
import Derived.Test.YtldkjccccjiihaaDca
import Derived.Test.YtldkjccccjiihaaVTbD
import Derived.Test.YtldkjccccjiihaaVTbC
set_option maxHeartbeats 4000000
set_option maxRecDepth 100000
namespace Go.Proofs.Ytldkjccccjiihaa
open Go.RowKit

theorem compareRows_spec (a b : List V) (ha : a.length < 2000000) (hb : b.length < 2000000) : Does Try.prog 42 [] [rowD a, rowD b] (I (cmpR a b)) [] := by
  refine does0 c_spec_compareRows mixed (Nat.le_of_ble_eq_true rfl) ?_
  conv => arg 3; whnf
  repeat' (first | with_reducible refine acc_none ?_ | (conv in hold _ => simp (disch := omega) only [go_sem]) | refine Stp.go ?_ | (with_reducible first | refine it_pos rfl ?_ | refine it_neg (by decide) ?_ | refine st_nil rfl ?_ | refine s_op ?_ ?_ | exact True.intro) | ((with_reducible first | refine dw_reg0 ?_ | refine dw_regB ?_); (conv => arg 3; whnf)) | (refine Spl.go (fun hq he => ?_) (fun hq he => ?_) <;> first | (exfalso; clear hq; omega) | ((try (first | (conv => arg 8; simp only [hq]) | (conv => arg 4; simp only [hq]))); clear hq)) | ((with_reducible first | refine c_split (fun hq => ?_) (fun hq => ?_) | refine q_split (fun hq => ?_) (fun hq => ?_)) <;> (try (first | (conv => arg 8; simp only [hq]) | (conv => arg 4; simp only [hq])))) | (with_reducible refine fin_0 ?_ (by first | rfl | (conv => lhs; simp only [go_sem])) ?_) | exact Sub.refl _ | omega)
  refine dw_for (c := 0) (l := fun i => [(0, rowD a), (1, rowD b), (5, I i)]) (min a.length b.length) (fun i => ∀ (j : Nat) (x y : V), j < i → a[j]? = some x → b[j]? = some y → cmpV x y = 0) 0 (fun j x y hj => by omega) (Wk.list [] rfl rfl ?_) (fun i hi hJ => ?_) (Nat.zero_le _)
  · repeat' (first | (conv in hold _ => simp (disch := omega) only [go_sem]) | exact True.intro | exact Sub.refl _ | omega)
    exact rfl
  · by_cases hil : i < min a.length b.length
    · obtain ⟨x, hx⟩ : ∃ x, a[i]? = some x := ⟨_, List.getElem?_eq_getElem (by omega)⟩
      obtain ⟨y, hy⟩ : ∃ y, b[i]? = some y := ⟨_, List.getElem?_eq_getElem (by omega)⟩
      have hc := compareValues_ok x y
      by_cases h0 : cmpV x y = 0
      · repeat' (first
          | with_reducible refine acc_none ?_ | (conv in hold _ => simp (disch := omega) only [go_sem, List.getElem?_map, hx, hy, Option.map_some]) | refine Stp.go ?_ | (with_reducible first | refine it_pos rfl ?_ | refine it_neg (by decide) ?_ | refine st_nil rfl ?_ | refine s_op ?_ ?_ | exact True.intro) | ((with_reducible first | refine dw_reg0 ?_ | refine dw_regB ?_); (conv => arg 3; whnf)) | (refine Spl.go (fun hq he => ?_) (fun hq he => ?_) <;> first | (exfalso; clear hq; omega) | ((try (first | (conv => arg 8; simp only [hq]) | (conv => arg 4; simp only [hq]))); clear hq)) | ((with_reducible first | refine c_split (fun hq => ?_) (fun hq => ?_) | refine q_split (fun hq => ?_) (fun hq => ?_)) <;> (try (first | (conv => arg 8; simp only [hq]) | (conv => arg 4; simp only [hq])))) | (with_reducible refine fin_0 ?_ (by first | rfl | (conv => lhs; simp only [go_sem, List.getElem?_map, hx, hy, Option.map_some])) ?_)
          | (with_reducible show evC _ _ _ _ _ _ _ _ _ _ _ _
             first
             | (refine c_doesE (hc) ?_ ?_ ?_
                · ((try (conv => rhs; simp (disch := omega) only [go_sem, List.getElem?_map, hx, hy, Option.map_some])); try rfl)
                · first | rfl | (conv => lhs; simp only [go_sem, List.getElem?_map, hx, hy, Option.map_some])))
          | exact Sub.refl _ | omega)
        refine ⟨hil, fun j x' y' hj hx' hy' => ?_, Wk.list [] rfl rfl ?_⟩
        · by_cases hji : j = i
          · subst hji
            rw [hx] at hx'
            rw [hy] at hy'
            cases hx'
            cases hy'
            exact h0
          · exact hJ j x' y' (by omega) hx' hy'
        · repeat' (first | (conv in hold _ => simp (disch := omega) only [go_sem]) | exact True.intro | exact Sub.refl _ | omega)
      · rw [cmpR_hit a b i x y hJ hx hy h0]
        repeat' (first
          | with_reducible refine acc_none ?_ | (conv in hold _ => simp (disch := omega) only [go_sem, List.getElem?_map, hx, hy, Option.map_some]) | refine Stp.go ?_ | (with_reducible first | refine it_pos rfl ?_ | refine it_neg (by decide) ?_ | refine st_nil rfl ?_ | refine s_op ?_ ?_ | exact True.intro) | ((with_reducible first | refine dw_reg0 ?_ | refine dw_regB ?_); (conv => arg 3; whnf)) | (refine Spl.go (fun hq he => ?_) (fun hq he => ?_) <;> first | (exfalso; clear hq; omega) | ((try (first | (conv => arg 8; simp only [hq]) | (conv => arg 4; simp only [hq]))); clear hq)) | ((with_reducible first | refine c_split (fun hq => ?_) (fun hq => ?_) | refine q_split (fun hq => ?_) (fun hq => ?_)) <;> (try (first | (conv => arg 8; simp only [hq]) | (conv => arg 4; simp only [hq])))) | (with_reducible refine fin_0 ?_ (by first | rfl | (conv => lhs; simp only [go_sem, List.getElem?_map, hx, hy, Option.map_some])) ?_)
          | (with_reducible show evC _ _ _ _ _ _ _ _ _ _ _ _
             first
             | (refine c_doesE (hc) ?_ ?_ ?_
                · ((try (conv => rhs; simp (disch := omega) only [go_sem, List.getElem?_map, hx, hy, Option.map_some])); try rfl)
                · first | rfl | (conv => lhs; simp only [go_sem, List.getElem?_map, hx, hy, Option.map_some])))
          | exact Sub.refl _ | omega)
    · rw [cmpR_end a b (fun j x y hx hy => hJ j x y (by have := (List.getElem?_eq_some_iff.1 hx).1; have := (List.getElem?_eq_some_iff.1 hy).1; omega) hx hy)]
      repeat' (first | with_reducible refine acc_none ?_ | (conv in hold _ => simp (disch := omega) only [go_sem]) | refine Stp.go ?_ | (with_reducible first | refine it_pos rfl ?_ | refine it_neg (by decide) ?_ | refine st_nil rfl ?_ | refine s_op ?_ ?_ | exact True.intro) | ((with_reducible first | refine dw_reg0 ?_ | refine dw_regB ?_); (conv => arg 3; whnf)) | (refine Spl.go (fun hq he => ?_) (fun hq he => ?_) <;> first | (exfalso; clear hq; omega) | ((try (first | (conv => arg 8; simp only [hq]) | (conv => arg 4; simp only [hq]))); clear hq)) | ((with_reducible first | refine c_split (fun hq => ?_) (fun hq => ?_) | refine q_split (fun hq => ?_) (fun hq => ?_)) <;> (try (first | (conv => arg 8; simp only [hq]) | (conv => arg 4; simp only [hq])))) | (with_reducible refine fin_0 ?_ (by first | rfl | (conv => lhs; simp only [go_sem])) ?_) | exact Sub.refl _ | omega)
theorem compareRows_impl (a b : List V) (hab : a.length = b.length) (hl : a.length < 2000000) (ha : ∀ v, v ∈ a → v.ok) (hb : ∀ v, v ∈ b → v.ok) : Does Try.prog 20 [] [rowD a, rowD b] (I (cmpR a b)) [] := by
  refine does0 c_impl_compareRows mixed (Nat.le_of_ble_eq_true rfl) ?_
  conv => arg 3; whnf
  repeat' (first | with_reducible refine acc_none ?_ | (conv in hold _ => simp (disch := omega) only [go_sem]) | refine Stp.go ?_ | (with_reducible first | refine it_pos rfl ?_ | refine it_neg (by decide) ?_ | refine st_nil rfl ?_ | refine s_op ?_ ?_ | exact True.intro) | ((with_reducible first | refine dw_reg0 ?_ | refine dw_regB ?_); (conv => arg 3; whnf)) | (refine Spl.go (fun hq he => ?_) (fun hq he => ?_) <;> first | (exfalso; clear hq; omega) | ((try (first | (conv => arg 8; simp only [hq]) | (conv => arg 4; simp only [hq]))); clear hq)) | ((with_reducible first | refine c_split (fun hq => ?_) (fun hq => ?_) | refine q_split (fun hq => ?_) (fun hq => ?_)) <;> (try (first | (conv => arg 8; simp only [hq]) | (conv => arg 4; simp only [hq])))) | (with_reducible refine fin_0 ?_ (by first | rfl | (conv => lhs; simp only [go_sem])) ?_) | exact Sub.refl _ | omega)
  refine dw_for (c := 0) (l := fun i => [(0, rowD a), (1, rowD b), (8, I a.length), (9, I i)]) a.length (fun i => ∀ (j : Nat) (x y : V), j < i → a[j]? = some x → b[j]? = some y → cmpV x y = 0) 0 (fun j x y hj => by omega) (Wk.list [] rfl rfl ?_) (fun i hi hJ => ?_) (Nat.zero_le _)
  · repeat' (first | (conv in hold _ => simp (disch := omega) only [go_sem]) | exact True.intro | exact Sub.refl _ | omega)
    exact rfl
  · by_cases hil : i < a.length
    · obtain ⟨x, hx⟩ : ∃ x, a[i]? = some x := ⟨_, List.getElem?_eq_getElem (by omega)⟩
      obtain ⟨y, hy⟩ : ∃ y, b[i]? = some y := ⟨_, List.getElem?_eq_getElem (by omega)⟩
      have hc := Value_compare_ok x y (ha x (List.mem_of_getElem? hx)) (hb y (List.mem_of_getElem? hy))
      by_cases h0 : cmpV x y = 0
      · repeat' (first
          | with_reducible refine acc_none ?_ | (conv in hold _ => simp (disch := omega) only [go_sem, List.getElem?_map, hx, hy, Option.map_some]) | refine Stp.go ?_ | (with_reducible first | refine it_pos rfl ?_ | refine it_neg (by decide) ?_ | refine st_nil rfl ?_ | refine s_op ?_ ?_ | exact True.intro) | ((with_reducible first | refine dw_reg0 ?_ | refine dw_regB ?_); (conv => arg 3; whnf)) | (refine Spl.go (fun hq he => ?_) (fun hq he => ?_) <;> first | (exfalso; clear hq; omega) | ((try (first | (conv => arg 8; simp only [hq]) | (conv => arg 4; simp only [hq]))); clear hq)) | ((with_reducible first | refine c_split (fun hq => ?_) (fun hq => ?_) | refine q_split (fun hq => ?_) (fun hq => ?_)) <;> (try (first | (conv => arg 8; simp only [hq]) | (conv => arg 4; simp only [hq])))) | (with_reducible refine fin_0 ?_ (by first | rfl | (conv => lhs; simp only [go_sem, List.getElem?_map, hx, hy, Option.map_some])) ?_)
          | (with_reducible show evC _ _ _ _ _ _ _ _ _ _ _ _
             first
             | (refine c_doesE (hc) ?_ ?_ ?_
                · ((try (conv => rhs; simp (disch := omega) only [go_sem, List.getElem?_map, hx, hy, Option.map_some])); try rfl)
                · first | rfl | (conv => lhs; simp only [go_sem, List.getElem?_map, hx, hy, Option.map_some])))
          | exact Sub.refl _ | omega)
        refine ⟨hil, fun j x' y' hj hx' hy' => ?_, Wk.list [] rfl rfl ?_⟩
        · by_cases hji : j = i
          · subst hji
            rw [hx] at hx'
            rw [hy] at hy'
            cases hx'
            cases hy'
            exact h0
          · exact hJ j x' y' (by omega) hx' hy'
        · repeat' (first | (conv in hold _ => simp (disch := omega) only [go_sem]) | exact True.intro | exact Sub.refl _ | omega)
      · rw [cmpR_hit a b i x y hJ hx hy h0]
        repeat' (first
          | with_reducible refine acc_none ?_ | (conv in hold _ => simp (disch := omega) only [go_sem, List.getElem?_map, hx, hy, Option.map_some]) | refine Stp.go ?_ | (with_reducible first | refine it_pos rfl ?_ | refine it_neg (by decide) ?_ | refine st_nil rfl ?_ | refine s_op ?_ ?_ | exact True.intro) | ((with_reducible first | refine dw_reg0 ?_ | refine dw_regB ?_); (conv => arg 3; whnf)) | (refine Spl.go (fun hq he => ?_) (fun hq he => ?_) <;> first | (exfalso; clear hq; omega) | ((try (first | (conv => arg 8; simp only [hq]) | (conv => arg 4; simp only [hq]))); clear hq)) | ((with_reducible first | refine c_split (fun hq => ?_) (fun hq => ?_) | refine q_split (fun hq => ?_) (fun hq => ?_)) <;> (try (first | (conv => arg 8; simp only [hq]) | (conv => arg 4; simp only [hq])))) | (with_reducible refine fin_0 ?_ (by first | rfl | (conv => lhs; simp only [go_sem, List.getElem?_map, hx, hy, Option.map_some])) ?_)
          | (with_reducible show evC _ _ _ _ _ _ _ _ _ _ _ _
             first
             | (refine c_doesE (hc) ?_ ?_ ?_
                · ((try (conv => rhs; simp (disch := omega) only [go_sem, List.getElem?_map, hx, hy, Option.map_some])); try rfl)
                · first | rfl | (conv => lhs; simp only [go_sem, List.getElem?_map, hx, hy, Option.map_some])))
          | exact Sub.refl _ | omega)
    · rw [cmpR_end a b (fun j x y hx hy => hJ j x y (by have := (List.getElem?_eq_some_iff.1 hx).1; omega) hx hy), show (a.length : Int) - b.length = 0 by omega]
      repeat' (first | with_reducible refine acc_none ?_ | (conv in hold _ => simp (disch := omega) only [go_sem]) | refine Stp.go ?_ | (with_reducible first | refine it_pos rfl ?_ | refine it_neg (by decide) ?_ | refine st_nil rfl ?_ | refine s_op ?_ ?_ | exact True.intro) | ((with_reducible first | refine dw_reg0 ?_ | refine dw_regB ?_); (conv => arg 3; whnf)) | (refine Spl.go (fun hq he => ?_) (fun hq he => ?_) <;> first | (exfalso; clear hq; omega) | ((try (first | (conv => arg 8; simp only [hq]) | (conv => arg 4; simp only [hq]))); clear hq)) | ((with_reducible first | refine c_split (fun hq => ?_) (fun hq => ?_) | refine q_split (fun hq => ?_) (fun hq => ?_)) <;> (try (first | (conv => arg 8; simp only [hq]) | (conv => arg 4; simp only [hq])))) | (with_reducible refine fin_0 ?_ (by first | rfl | (conv => lhs; simp only [go_sem])) ?_) | exact Sub.refl _ | omega)
theorem cmpV_anti {a b : V} (ha : a.ok) (hb : b.ok) : cmpV b a = - cmpV a b := by
  have h1 := ha.nul
  have h2 := hb.nul
  unfold cmpV
  cases hab : a.b <;> cases hbb : b.b <;> simp [hab, hbb] at h1 h2 ⊢
  all_goals (repeat' split) <;> omega
theorem cmpR_anti : ∀ (a b : List V), a.length = b.length → (∀ v, v ∈ a → v.ok) → (∀ v, v ∈ b → v.ok) → cmpR b a = - cmpR a b
  | [], [], _, _, _ => by decide
  | [], _ :: _, h, _, _ => by simp at h
  | _ :: _, [], h, _, _ => by simp at h
  | x :: a, y :: b, h, ha, hb => by
    have hv := cmpV_anti (ha x (List.mem_cons_self ..)) (hb y (List.mem_cons_self ..))
    have hr := cmpR_anti a b (by simpa using h) (fun v hv => ha v (List.mem_cons_of_mem _ hv)) (fun v hv => hb v (List.mem_cons_of_mem _ hv))
    rw [cmpR, cmpR, hv]
    by_cases h0 : cmpV x y = 0
    · rw [if_pos (by omega), if_pos h0, hr]
    · rw [if_neg (by omega), if_neg h0]
end Go.Proofs.Ytldkjccccjiihaa
