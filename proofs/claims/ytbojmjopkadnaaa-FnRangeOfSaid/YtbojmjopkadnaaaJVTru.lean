/-
  Valid tables, in both packages. No condition.
-/
import Derived.Test.YtbojmjopkadnaaaDca
import Derived.Test.YtbojmjopkadnaaaDcu
import Derived.Test.YtbojmjopkadnaaaVTbD
import Derived.Test.YtbojmjopkadnaaaVTbC
import Derived.Test.YtbojmjopkadnaaaVEvI
import Derived.Test.YtbojmjopkadnaaaJVDraw
set_option maxHeartbeats 4000000
set_option maxRecDepth 100000
namespace Go.Proofs.Ytbojmjopkadnaaa
open Go.RowKit

theorem compareRows_spec (a b : List V) (ha : a.length < 2000000) (hb : b.length < 2000000) : Does Try.prog 81 [] [rowD a, rowD b] (I (cmpR a b)) [] := by
  refine does0 c_spec_compareRows mixed (Nat.le_of_ble_eq_true rfl) ?_
  conv => arg 3; whnf
  repeat' (first | with_reducible refine acc_none ?_ | (conv in hold _ => simp (disch := omega) only [go_sem]) | refine Stp.go ?_ | (with_reducible first | refine it_pos rfl ?_ | refine it_neg (by decide) ?_ | refine st_nil rfl ?_ | refine s_op ?_ ?_ | exact True.intro) | ((with_reducible first | refine dw_reg0 ?_ | refine dw_regB ?_); (conv => arg 3; whnf)) | (refine Spl.go (fun hq he => ?_) (fun hq he => ?_) <;> first | (exfalso; clear hq; omega) | ((try (first | (conv => arg 8; simp only [hq]) | (conv => arg 4; simp only [hq]))); clear hq)) | ((with_reducible first | refine c_split (fun hq => ?_) (fun hq => ?_) | refine q_split (fun hq => ?_) (fun hq => ?_)) <;> (try (first | (conv => arg 8; simp only [hq]) | (conv => arg 4; simp only [hq])))) | (with_reducible refine fin_0 ?_ (by first | rfl | (conv => lhs; simp only [go_sem])) ?_) | exact Sub.refl _ | omega)
  refine dw_for (c := 0) (l := fun i => [(0, rowD a), (1, rowD b), (5, I i)]) (min a.length b.length) (fun i => ∀ (j : Nat) (x y : V), j < i → a[j]? = some x → b[j]? = some y → cmpV x y = 0) 0 (fun j x y hj => by omega) (Wk.list [] rfl rfl ?_) (fun i hi hJ => ?_) (Nat.zero_le _)
  · repeat' (first | (conv in hold _ => simp (disch := omega) only [go_sem]) | exact True.intro | exact Sub.refl _ | omega)
    exact rfl
  · by_cases hil : i < min a.length b.length
    · obtain ⟨x, hx⟩ : ∃ x, a[i]? = some x := ⟨_, List.getElem?_eq_getElem (by omega)⟩
      obtain ⟨y, hy⟩ : ∃ y, b[i]? = some y := ⟨_, List.getElem?_eq_getElem (by omega)⟩
      have hc := compareValues_ok x y
      by_cases h0 : cmpV x y = 0
      · repeat' (first
          | with_reducible refine acc_none ?_ | (conv in hold _ => simp (disch := omega) only [go_sem, List.getElem?_map, hx, hy, Option.map_some]) | refine Stp.go ?_ | (with_reducible first | refine it_pos rfl ?_ | refine it_neg (by decide) ?_ | refine st_nil rfl ?_ | refine s_op ?_ ?_ | exact True.intro) | ((with_reducible first | refine dw_reg0 ?_ | refine dw_regB ?_); (conv => arg 3; whnf)) | (refine Spl.go (fun hq he => ?_) (fun hq he => ?_) <;> first | (exfalso; clear hq; omega) | ((try (first | (conv => arg 8; simp only [hq]) | (conv => arg 4; simp only [hq]))); clear hq)) | ((with_reducible first | refine c_split (fun hq => ?_) (fun hq => ?_) | refine q_split (fun hq => ?_) (fun hq => ?_)) <;> (try (first | (conv => arg 8; simp only [hq]) | (conv => arg 4; simp only [hq])))) | (with_reducible refine fin_0 ?_ (by first | rfl | (conv => lhs; simp only [go_sem, List.getElem?_map, hx, hy, Option.map_some])) ?_)
          | (with_reducible show evC _ _ _ _ _ _ _ _ _ _ _ _
             first
             | (refine c_doesE (hc) ?_ ?_ ?_
                · ((try (conv => rhs; simp (disch := omega) only [go_sem, List.getElem?_map, hx, hy, Option.map_some])); try rfl)
                · first | rfl | (conv => lhs; simp only [go_sem, List.getElem?_map, hx, hy, Option.map_some])))
          | exact Sub.refl _ | omega)
        refine ⟨hil, fun j x' y' hj hx' hy' => ?_, Wk.list [] rfl rfl ?_⟩
        · by_cases hji : j = i
          · subst hji
            rw [hx] at hx'
            rw [hy] at hy'
            cases hx'
            cases hy'
            exact h0
          · exact hJ j x' y' (by omega) hx' hy'
        · repeat' (first | (conv in hold _ => simp (disch := omega) only [go_sem]) | exact True.intro | exact Sub.refl _ | omega)
      · rw [cmpR_hit a b i x y hJ hx hy h0]
        repeat' (first
          | with_reducible refine acc_none ?_ | (conv in hold _ => simp (disch := omega) only [go_sem, List.getElem?_map, hx, hy, Option.map_some]) | refine Stp.go ?_ | (with_reducible first | refine it_pos rfl ?_ | refine it_neg (by decide) ?_ | refine st_nil rfl ?_ | refine s_op ?_ ?_ | exact True.intro) | ((with_reducible first | refine dw_reg0 ?_ | refine dw_regB ?_); (conv => arg 3; whnf)) | (refine Spl.go (fun hq he => ?_) (fun hq he => ?_) <;> first | (exfalso; clear hq; omega) | ((try (first | (conv => arg 8; simp only [hq]) | (conv => arg 4; simp only [hq]))); clear hq)) | ((with_reducible first | refine c_split (fun hq => ?_) (fun hq => ?_) | refine q_split (fun hq => ?_) (fun hq => ?_)) <;> (try (first | (conv => arg 8; simp only [hq]) | (conv => arg 4; simp only [hq])))) | (with_reducible refine fin_0 ?_ (by first | rfl | (conv => lhs; simp only [go_sem, List.getElem?_map, hx, hy, Option.map_some])) ?_)
          | (with_reducible show evC _ _ _ _ _ _ _ _ _ _ _ _
             first
             | (refine c_doesE (hc) ?_ ?_ ?_
                · ((try (conv => rhs; simp (disch := omega) only [go_sem, List.getElem?_map, hx, hy, Option.map_some])); try rfl)
                · first | rfl | (conv => lhs; simp only [go_sem, List.getElem?_map, hx, hy, Option.map_some])))
          | exact Sub.refl _ | omega)
    · rw [cmpR_end a b (fun j x y hx hy => hJ j x y (by have := (List.getElem?_eq_some_iff.1 hx).1; have := (List.getElem?_eq_some_iff.1 hy).1; omega) hx hy)]
      repeat' (first | with_reducible refine acc_none ?_ | (conv in hold _ => simp (disch := omega) only [go_sem]) | refine Stp.go ?_ | (with_reducible first | refine it_pos rfl ?_ | refine it_neg (by decide) ?_ | refine st_nil rfl ?_ | refine s_op ?_ ?_ | exact True.intro) | ((with_reducible first | refine dw_reg0 ?_ | refine dw_regB ?_); (conv => arg 3; whnf)) | (refine Spl.go (fun hq he => ?_) (fun hq he => ?_) <;> first | (exfalso; clear hq; omega) | ((try (first | (conv => arg 8; simp only [hq]) | (conv => arg 4; simp only [hq]))); clear hq)) | ((with_reducible first | refine c_split (fun hq => ?_) (fun hq => ?_) | refine q_split (fun hq => ?_) (fun hq => ?_)) <;> (try (first | (conv => arg 8; simp only [hq]) | (conv => arg 4; simp only [hq])))) | (with_reducible refine fin_0 ?_ (by first | rfl | (conv => lhs; simp only [go_sem])) ?_) | exact Sub.refl _ | omega)
theorem compareRows_impl (a b : List V) (hab : a.length = b.length) (hl : a.length < 2000000) (ha : ∀ v, v ∈ a → v.ok) (hb : ∀ v, v ∈ b → v.ok) : Does Try.prog 54 [] [rowD a, rowD b] (I (cmpR a b)) [] := by
  refine does0 c_impl_compareRows mixed (Nat.le_of_ble_eq_true rfl) ?_
  conv => arg 3; whnf
  repeat' (first | with_reducible refine acc_none ?_ | (conv in hold _ => simp (disch := omega) only [go_sem]) | refine Stp.go ?_ | (with_reducible first | refine it_pos rfl ?_ | refine it_neg (by decide) ?_ | refine st_nil rfl ?_ | refine s_op ?_ ?_ | exact True.intro) | ((with_reducible first | refine dw_reg0 ?_ | refine dw_regB ?_); (conv => arg 3; whnf)) | (refine Spl.go (fun hq he => ?_) (fun hq he => ?_) <;> first | (exfalso; clear hq; omega) | ((try (first | (conv => arg 8; simp only [hq]) | (conv => arg 4; simp only [hq]))); clear hq)) | ((with_reducible first | refine c_split (fun hq => ?_) (fun hq => ?_) | refine q_split (fun hq => ?_) (fun hq => ?_)) <;> (try (first | (conv => arg 8; simp only [hq]) | (conv => arg 4; simp only [hq])))) | (with_reducible refine fin_0 ?_ (by first | rfl | (conv => lhs; simp only [go_sem])) ?_) | exact Sub.refl _ | omega)
  refine dw_for (c := 0) (l := fun i => [(0, rowD a), (1, rowD b), (8, I a.length), (9, I i)]) a.length (fun i => ∀ (j : Nat) (x y : V), j < i → a[j]? = some x → b[j]? = some y → cmpV x y = 0) 0 (fun j x y hj => by omega) (Wk.list [] rfl rfl ?_) (fun i hi hJ => ?_) (Nat.zero_le _)
  · repeat' (first | (conv in hold _ => simp (disch := omega) only [go_sem]) | exact True.intro | exact Sub.refl _ | omega)
    exact rfl
  · by_cases hil : i < a.length
    · obtain ⟨x, hx⟩ : ∃ x, a[i]? = some x := ⟨_, List.getElem?_eq_getElem (by omega)⟩
      obtain ⟨y, hy⟩ : ∃ y, b[i]? = some y := ⟨_, List.getElem?_eq_getElem (by omega)⟩
      have hc := Value_compare_ok x y (ha x (List.mem_of_getElem? hx)) (hb y (List.mem_of_getElem? hy))
      by_cases h0 : cmpV x y = 0
      · repeat' (first
          | with_reducible refine acc_none ?_ | (conv in hold _ => simp (disch := omega) only [go_sem, List.getElem?_map, hx, hy, Option.map_some]) | refine Stp.go ?_ | (with_reducible first | refine it_pos rfl ?_ | refine it_neg (by decide) ?_ | refine st_nil rfl ?_ | refine s_op ?_ ?_ | exact True.intro) | ((with_reducible first | refine dw_reg0 ?_ | refine dw_regB ?_); (conv => arg 3; whnf)) | (refine Spl.go (fun hq he => ?_) (fun hq he => ?_) <;> first | (exfalso; clear hq; omega) | ((try (first | (conv => arg 8; simp only [hq]) | (conv => arg 4; simp only [hq]))); clear hq)) | ((with_reducible first | refine c_split (fun hq => ?_) (fun hq => ?_) | refine q_split (fun hq => ?_) (fun hq => ?_)) <;> (try (first | (conv => arg 8; simp only [hq]) | (conv => arg 4; simp only [hq])))) | (with_reducible refine fin_0 ?_ (by first | rfl | (conv => lhs; simp only [go_sem, List.getElem?_map, hx, hy, Option.map_some])) ?_)
          | (with_reducible show evC _ _ _ _ _ _ _ _ _ _ _ _
             first
             | (refine c_doesE (hc) ?_ ?_ ?_
                · ((try (conv => rhs; simp (disch := omega) only [go_sem, List.getElem?_map, hx, hy, Option.map_some])); try rfl)
                · first | rfl | (conv => lhs; simp only [go_sem, List.getElem?_map, hx, hy, Option.map_some])))
          | exact Sub.refl _ | omega)
        refine ⟨hil, fun j x' y' hj hx' hy' => ?_, Wk.list [] rfl rfl ?_⟩
        · by_cases hji : j = i
          · subst hji
            rw [hx] at hx'
            rw [hy] at hy'
            cases hx'
            cases hy'
            exact h0
          · exact hJ j x' y' (by omega) hx' hy'
        · repeat' (first | (conv in hold _ => simp (disch := omega) only [go_sem]) | exact True.intro | exact Sub.refl _ | omega)
      · rw [cmpR_hit a b i x y hJ hx hy h0]
        repeat' (first
          | with_reducible refine acc_none ?_ | (conv in hold _ => simp (disch := omega) only [go_sem, List.getElem?_map, hx, hy, Option.map_some]) | refine Stp.go ?_ | (with_reducible first | refine it_pos rfl ?_ | refine it_neg (by decide) ?_ | refine st_nil rfl ?_ | refine s_op ?_ ?_ | exact True.intro) | ((with_reducible first | refine dw_reg0 ?_ | refine dw_regB ?_); (conv => arg 3; whnf)) | (refine Spl.go (fun hq he => ?_) (fun hq he => ?_) <;> first | (exfalso; clear hq; omega) | ((try (first | (conv => arg 8; simp only [hq]) | (conv => arg 4; simp only [hq]))); clear hq)) | ((with_reducible first | refine c_split (fun hq => ?_) (fun hq => ?_) | refine q_split (fun hq => ?_) (fun hq => ?_)) <;> (try (first | (conv => arg 8; simp only [hq]) | (conv => arg 4; simp only [hq])))) | (with_reducible refine fin_0 ?_ (by first | rfl | (conv => lhs; simp only [go_sem, List.getElem?_map, hx, hy, Option.map_some])) ?_)
          | (with_reducible show evC _ _ _ _ _ _ _ _ _ _ _ _
             first
             | (refine c_doesE (hc) ?_ ?_ ?_
                · ((try (conv => rhs; simp (disch := omega) only [go_sem, List.getElem?_map, hx, hy, Option.map_some])); try rfl)
                · first | rfl | (conv => lhs; simp only [go_sem, List.getElem?_map, hx, hy, Option.map_some])))
          | exact Sub.refl _ | omega)
    · rw [cmpR_end a b (fun j x y hx hy => hJ j x y (by have := (List.getElem?_eq_some_iff.1 hx).1; omega) hx hy), show (a.length : Int) - b.length = 0 by omega]
      repeat' (first | with_reducible refine acc_none ?_ | (conv in hold _ => simp (disch := omega) only [go_sem]) | refine Stp.go ?_ | (with_reducible first | refine it_pos rfl ?_ | refine it_neg (by decide) ?_ | refine st_nil rfl ?_ | refine s_op ?_ ?_ | exact True.intro) | ((with_reducible first | refine dw_reg0 ?_ | refine dw_regB ?_); (conv => arg 3; whnf)) | (refine Spl.go (fun hq he => ?_) (fun hq he => ?_) <;> first | (exfalso; clear hq; omega) | ((try (first | (conv => arg 8; simp only [hq]) | (conv => arg 4; simp only [hq]))); clear hq)) | ((with_reducible first | refine c_split (fun hq => ?_) (fun hq => ?_) | refine q_split (fun hq => ?_) (fun hq => ?_)) <;> (try (first | (conv => arg 8; simp only [hq]) | (conv => arg 4; simp only [hq])))) | (with_reducible refine fin_0 ?_ (by first | rfl | (conv => lhs; simp only [go_sem])) ?_) | exact Sub.refl _ | omega)
theorem cmpV_anti {a b : V} (ha : a.ok) (hb : b.ok) : cmpV b a = - cmpV a b := by
  have h1 := ha.nul
  have h2 := hb.nul
  unfold cmpV
  cases hab : a.b <;> cases hbb : b.b <;> simp [hab, hbb] at h1 h2 ⊢
  all_goals (repeat' split) <;> omega
theorem cmpR_anti : ∀ (a b : List V), a.length = b.length → (∀ v, v ∈ a → v.ok) → (∀ v, v ∈ b → v.ok) → cmpR b a = - cmpR a b
  | [], [], _, _, _ => by decide
  | [], _ :: _, h, _, _ => by simp at h
  | _ :: _, [], h, _, _ => by simp at h
  | x :: a, y :: b, h, ha, hb => by
    have hv := cmpV_anti (ha x (List.mem_cons_self ..)) (hb y (List.mem_cons_self ..))
    have hr := cmpR_anti a b (by simpa using h) (fun v hv => ha v (List.mem_cons_of_mem _ hv)) (fun v hv => hb v (List.mem_cons_of_mem _ hv))
    rw [cmpR, cmpR, hv]
    by_cases h0 : cmpV x y = 0
    · rw [if_pos (by omega), if_pos h0, hr]
    · rw [if_neg (by omega), if_neg h0]
end Go.Proofs.Ytbojmjopkadnaaa
set_option maxHeartbeats 4000000
set_option maxRecDepth 100000
set_option linter.unusedVariables false
set_option linter.unusedSimpArgs false
namespace Go.Proofs.Ytbojmjopkadnaaa
open Go.RowKit

/-- The program's truths: 0, 1 for unknown, 2. -/
def itr (v : V) : Int := if v.b = true then 1 else if v.n = 0 then 0 else 2
def itv (n : Int) : V := if n = 0 then ⟨false, 0⟩ else if n = 2 then ⟨false, 1⟩ else ⟨true, 0⟩
theorem itr_range (v : V) : 0 ≤ itr v ∧ itr v ≤ 2 := by
  unfold itr
  split
  · decide
  · split <;> decide
theorem itv_b2i (b : Bool) : itv (if b = true then 2 else 0) = ⟨false, b2i b⟩ := by cases b <;> rfl
theorem itv_not (v : V) : itv (2 - itr v) = ofTr (notTr (tr v)) := by
  unfold itr tr
  split
  · rfl
  · split <;> rfl
theorem itv_and (a b : V) : itv (min (itr a) (itr b)) = ofTr (andTr (tr a) (tr b)) := by
  unfold itr tr
  repeat' split
  all_goals rfl
theorem itv_or (a b : V) : itv (max (itr a) (itr b)) = ofTr (notTr (andTr (notTr (tr a)) (notTr (tr b)))) := by
  unfold itr tr
  repeat' split
  all_goals rfl

theorem truth_of_ok (v : V) : Does Try.prog 103 [] [vD v] (I (itr v)) [] := by
  unfold itr
  refine does0 c_impl_Value_truth mixed (Nat.le_of_ble_eq_true rfl) ?_
  conv => arg 3; whnf
  repeat' (first | with_reducible refine acc_none ?_ | (conv in hold _ => simp (disch := omega) only [go_sem]) | refine Stp.go ?_ | (with_reducible first | refine it_pos rfl ?_ | refine it_neg (by decide) ?_ | refine st_nil rfl ?_ | refine s_op ?_ ?_ | exact True.intro) | ((with_reducible first | refine dw_reg0 ?_ | refine dw_regB ?_); (conv => arg 3; whnf)) | (refine Spl.go (fun hq he => ?_) (fun hq he => ?_) <;> first | (exfalso; clear hq; omega) | ((try (first | (conv => arg 8; simp only [hq]) | (conv => arg 4; simp only [hq]))); clear hq)) | ((with_reducible first | refine c_split (fun hq => ?_) (fun hq => ?_) | refine q_split (fun hq => ?_) (fun hq => ?_)) <;> (try (first | (conv => arg 8; simp only [hq]) | (conv => arg 4; simp only [hq])))) | (with_reducible refine fin_0 ?_ (by first | rfl | (conv => lhs; simp only [go_sem])) ?_) | exact Sub.refl _ | omega)
  · rw [if_pos hq]; exact Sub.refl _
  · rw [if_neg (by rw [hq]; decide), if_pos he]; exact Sub.refl _
  · rw [if_neg (by rw [hq]; decide), if_neg he]; exact Sub.refl _
end Go.Proofs.Ytbojmjopkadnaaa
