/-
  What the program makes of a plan's kids' widths. No condition.
-/
import Derived.Test.YtikfanemeglcoaaDcVWidB
import Derived.Test.YtikfanemeglcoaaDca
import Derived.Test.YtikfanemeglcoaaJVRwA
set_option maxHeartbeats 4000000
set_option maxRecDepth 100000
namespace Go.Proofs.Ytikfanemeglcoaa
open Go.RowKit

theorem sum_next {ns : List Int} {i : Nat} {x : Int} (h : ns[i]? = some x) : (ns.take (i + 1)).sum = (ns.take i).sum + x := by
  rw [take_next h, List.sum_append, List.sum_cons, List.sum_nil]
  omega
theorem sumOf_ok (ns : List Int) (hl : ns.length ≤ 1000) (hn : ∀ (j : Nat) (x : Int), ns[j]? = some x → 0 ≤ x ∧ x ≤ 6) : Does Try.prog 61 [] [intsD ns] (I ns.sum) [] := by
  refine does0 c_impl_sumOf mixed (Nat.le_of_ble_eq_true rfl) ?_
  conv => arg 3; whnf
  repeat' (first | with_reducible refine acc_none ?_ | (conv in hold _ => simp (disch := omega) only [go_sem]) | refine Stp.go ?_ | (with_reducible first | refine it_pos rfl ?_ | refine it_neg (by decide) ?_ | refine st_nil rfl ?_ | refine s_op ?_ ?_ | exact True.intro) | ((with_reducible first | refine dw_reg0 ?_ | refine dw_regB ?_); (conv => arg 3; whnf)) | (refine Spl.go (fun hq he => ?_) (fun hq he => ?_) <;> first | (exfalso; clear hq; omega) | ((try (first | (conv => arg 8; simp only [hq]) | (conv => arg 4; simp only [hq]))); clear hq)) | ((with_reducible first | refine c_split (fun hq => ?_) (fun hq => ?_) | refine q_split (fun hq => ?_) (fun hq => ?_)) <;> (try (first | (conv => arg 8; simp only [hq]) | (conv => arg 4; simp only [hq])))) | (with_reducible refine fin_0 ?_ (by first | rfl | (conv => lhs; simp only [go_sem])) ?_) | exact Sub.refl _ | omega)
  refine dw_for (c := 0) (l := fun i => [(3, I (ns.take i).sum), (6, intsD ns), (7, I ns.length), (8, I i)]) ns.length (fun i => 0 ≤ (ns.take i).sum ∧ (ns.take i).sum ≤ 6 * i) 0 (by simp) (Wk.list [] rfl rfl ?_) (fun i hi hJ => ?_) (Nat.zero_le _)
  · repeat' (first | (conv in hold _ => simp (disch := omega) only [go_sem]) | exact True.intro | exact Sub.refl _ | omega)
    exact ⟨rfl, rfl⟩
  · rcases at_or_end hi with ⟨x, hx, hlt⟩ | rfl
    · have h1 := hn i x hx
      have h2 := sum_next hx
      repeat' (first | with_reducible refine acc_none ?_ | (conv in hold _ => simp (disch := omega) only [go_sem, List.getElem?_map, hx, Option.map_some]) | refine Stp.go ?_ | (with_reducible first | refine it_pos rfl ?_ | refine it_neg (by decide) ?_ | refine st_nil rfl ?_ | refine s_op ?_ ?_ | exact True.intro) | ((with_reducible first | refine dw_reg0 ?_ | refine dw_regB ?_); (conv => arg 3; whnf)) | (refine Spl.go (fun hq he => ?_) (fun hq he => ?_) <;> first | (exfalso; clear hq; omega) | ((try (first | (conv => arg 8; simp only [hq]) | (conv => arg 4; simp only [hq]))); clear hq)) | ((with_reducible first | refine c_split (fun hq => ?_) (fun hq => ?_) | refine q_split (fun hq => ?_) (fun hq => ?_)) <;> (try (first | (conv => arg 8; simp only [hq]) | (conv => arg 4; simp only [hq])))) | (with_reducible refine fin_0 ?_ (by first | rfl | (conv => lhs; simp only [go_sem, List.getElem?_map, hx, Option.map_some])) ?_) | exact Sub.refl _ | omega)
      refine ⟨hlt, by omega, Wk.list [] rfl rfl ?_⟩
      repeat' (first | (conv in hold _ => simp (disch := omega) only [go_sem, h2]) | exact True.intro | exact Sub.refl _ | omega)
    · repeat' (first | with_reducible refine acc_none ?_ | (conv in hold _ => simp (disch := omega) only [go_sem, List.take_length]) | refine Stp.go ?_ | (with_reducible first | refine it_pos rfl ?_ | refine it_neg (by decide) ?_ | refine st_nil rfl ?_ | refine s_op ?_ ?_ | exact True.intro) | ((with_reducible first | refine dw_reg0 ?_ | refine dw_regB ?_); (conv => arg 3; whnf)) | (refine Spl.go (fun hq he => ?_) (fun hq he => ?_) <;> first | (exfalso; clear hq; omega) | ((try (first | (conv => arg 8; simp only [hq]) | (conv => arg 4; simp only [hq]))); clear hq)) | ((with_reducible first | refine c_split (fun hq => ?_) (fun hq => ?_) | refine q_split (fun hq => ?_) (fun hq => ?_)) <;> (try (first | (conv => arg 8; simp only [hq]) | (conv => arg 4; simp only [hq])))) | (with_reducible refine fin_0 ?_ (by first | rfl | (conv => lhs; simp only [go_sem, List.take_length])) ?_) | exact Sub.refl _ | omega)
/-- The kids' widths fit the plan. -/
def fitsV (p : Pl) (ns : List Int) : Prop := if p.k = 6 then ns.getD 0 0 = ns.getD 1 0 else if p.k = 8 then p.cs.length < 6 ∧ colsOk p.cs (ns.getD 0 0) else ∀ (j : Nat) (e : E), p.es[j]? = some e → (1 ≤ ns.sum ∧ ns.sum ≤ 6) ∧ eOk e ns.sum 8
noncomputable instance fitsDec (p : Pl) (ns : List Int) : Decidable (fitsV p ns) := Classical.propDecidable _
theorem get_at {ns : List Int} {i : Nat} (h : i < ns.length) : ns[i]? = some (ns.getD i 0) := by
  rw [List.getD_eq_getElem?_getD, List.getElem?_eq_getElem h, Option.getD_some]
theorem get_ex {ns : List Int} {i : Nat} (h : i < ns.length) : ∃ n, ns[i]? = some n ∧ ns.getD i 0 = n := ⟨_, get_at h, rfl⟩
theorem fitsKids_ok (p : Pl) (ns : List Int) (hl : ns.length ≤ 1000) (hc : p.cs.length ≤ 1048576) (he : p.es.length ≤ 1048576) (hn : ∀ (j : Nat) (x : Int), ns[j]? = some x → 0 ≤ x ∧ x ≤ 6) (h0 : 0 < ns.length) (h1 : p.k = 6 → 1 < ns.length) : Does Try.prog 46 [] [pD p, intsD ns] (Bo (decide (fitsV p ns))) [] := by
  obtain ⟨n0, e0, g0⟩ := get_ex h0
  by_cases h6 : p.k = 6
  · obtain ⟨n1, e1, g1⟩ := get_ex (h1 h6)
    rw [show decide (fitsV p ns) = decide (n0 = n1) from decide_eq_decide.2 (by unfold fitsV; rw [if_pos h6, g0, g1])]
    refine does0 c_impl_fitsKids mixed (Nat.le_of_ble_eq_true rfl) ?_
    conv => arg 3; whnf
    repeat' (first | with_reducible refine acc_none ?_ | (conv in hold _ => simp (disch := omega) only [go_sem, List.getElem?_map, e0, e1, Option.map_some]) | refine Stp.go ?_ | (with_reducible first | refine it_pos rfl ?_ | refine it_neg (by decide) ?_ | refine st_nil rfl ?_ | refine s_op ?_ ?_ | exact True.intro) | ((with_reducible first | refine dw_reg0 ?_ | refine dw_regB ?_); (conv => arg 3; whnf)) | (refine Spl.go (fun hq he => ?_) (fun hq he => ?_) <;> first | (exfalso; clear hq; omega) | ((try (first | (conv => arg 8; simp only [hq]) | (conv => arg 4; simp only [hq]))); clear hq)) | ((with_reducible first | refine c_split (fun hq => ?_) (fun hq => ?_) | refine q_split (fun hq => ?_) (fun hq => ?_)) <;> (try (first | (conv => arg 8; simp only [hq]) | (conv => arg 4; simp only [hq])))) | (with_reducible refine fin_0 ?_ (by first | rfl | (conv => lhs; simp only [go_sem, List.getElem?_map, e0, e1, Option.map_some])) ?_) | exact Sub.refl _ | omega)
  · by_cases h8 : p.k = 8
    · rw [show decide (fitsV p ns) = decide (p.cs.length < 6 ∧ colsOk p.cs n0) from decide_eq_decide.2 (by unfold fitsV; rw [if_neg h6, if_pos h8, g0])]
      have hv := validColumns_ok p.cs n0 hc
      refine does0 c_impl_fitsKids mixed (Nat.le_of_ble_eq_true rfl) ?_
      conv => arg 3; whnf
      repeat' (first
        | with_reducible refine acc_none ?_ | (conv in hold _ => simp (disch := omega) only [go_sem, List.getElem?_map, e0, Option.map_some]) | refine Stp.go ?_ | (with_reducible first | refine it_pos rfl ?_ | refine it_neg (by decide) ?_ | refine st_nil rfl ?_ | refine s_op ?_ ?_ | exact True.intro) | ((with_reducible first | refine dw_reg0 ?_ | refine dw_regB ?_); (conv => arg 3; whnf)) | (refine Spl.go (fun hq he => ?_) (fun hq he => ?_) <;> first | (exfalso; clear hq; omega) | ((try (first | (conv => arg 8; simp only [hq]) | (conv => arg 4; simp only [hq]))); clear hq)) | ((with_reducible first | refine c_split (fun hq => ?_) (fun hq => ?_) | refine q_split (fun hq => ?_) (fun hq => ?_)) <;> (try (first | (conv => arg 8; simp only [hq]) | (conv => arg 4; simp only [hq])))) | (with_reducible refine fin_0 ?_ (by first | rfl | (conv => lhs; simp only [go_sem, List.getElem?_map, e0, Option.map_some])) ?_)
        | (with_reducible show evC _ _ _ _ _ _ _ _ _ _ _ _
           first
           | (refine c_doesE (hv) ?_ ?_ ?_
              · ((try (conv => rhs; simp (disch := omega) only [go_sem, List.getElem?_map, e0, Option.map_some])); try rfl)
              · first | rfl | (conv => lhs; simp only [go_sem, List.getElem?_map, e0, Option.map_some])))
        | exact Sub.refl _ | omega)
    · have hs := sumOf_ok ns hl hn
      have hfv : fitsV p ns ↔ ∀ (j : Nat) (e : E), p.es[j]? = some e → (1 ≤ ns.sum ∧ ns.sum ≤ 6) ∧ eOk e ns.sum 8 := by unfold fitsV; rw [if_neg h6, if_neg h8]
      refine does0 c_impl_fitsKids mixed (Nat.le_of_ble_eq_true rfl) ?_
      conv => arg 3; whnf
      repeat' (first | with_reducible refine acc_none ?_ | (conv in hold _ => simp (disch := omega) only [go_sem]) | refine Stp.go ?_ | (with_reducible first | refine it_pos rfl ?_ | refine it_neg (by decide) ?_ | refine st_nil rfl ?_ | refine s_op ?_ ?_ | exact True.intro) | ((with_reducible first | refine dw_reg0 ?_ | refine dw_regB ?_); (conv => arg 3; whnf)) | (refine Spl.go (fun hq he => ?_) (fun hq he => ?_) <;> first | (exfalso; clear hq; omega) | ((try (first | (conv => arg 8; simp only [hq]) | (conv => arg 4; simp only [hq]))); clear hq)) | ((with_reducible first | refine c_split (fun hq => ?_) (fun hq => ?_) | refine q_split (fun hq => ?_) (fun hq => ?_)) <;> (try (first | (conv => arg 8; simp only [hq]) | (conv => arg 4; simp only [hq])))) | (with_reducible refine fin_0 ?_ (by first | rfl | (conv => lhs; simp only [go_sem])) ?_) | exact Sub.refl _ | omega)
      refine dw_for (c := 0) (l := fun i => [(1, intsD ns), (27, .sl 5 (p.es.map eD)), (28, I p.es.length), (29, I i)]) p.es.length (fun i => ∀ (j : Nat) (e : E), j < i → p.es[j]? = some e → (1 ≤ ns.sum ∧ ns.sum ≤ 6) ∧ eOk e ns.sum 8) 0 (fun j w hj => by omega) (Wk.list [] rfl rfl ?_) (fun i hi hJ => ?_) (Nat.zero_le _)
      · repeat' (first | (conv in hold _ => simp (disch := omega) only [go_sem]) | exact True.intro | exact Sub.refl _ | omega)
        exact rfl
      · rcases at_or_end hi with ⟨x, hx, hlt⟩ | rfl
        · have hr := implValidExpr_ok x ns.sum
          by_cases hv : (1 ≤ ns.sum ∧ ns.sum ≤ 6) ∧ eOk x ns.sum 8
          · rw [decide_eq_true hv] at hr
            repeat' (first
              | with_reducible refine acc_none ?_ | (conv in hold _ => simp (disch := omega) only [go_sem, List.getElem?_map, hx, Option.map_some]) | refine Stp.go ?_ | (with_reducible first | refine it_pos rfl ?_ | refine it_neg (by decide) ?_ | refine st_nil rfl ?_ | refine s_op ?_ ?_ | exact True.intro) | ((with_reducible first | refine dw_reg0 ?_ | refine dw_regB ?_); (conv => arg 3; whnf)) | (refine Spl.go (fun hq he => ?_) (fun hq he => ?_) <;> first | (exfalso; clear hq; omega) | ((try (first | (conv => arg 8; simp only [hq]) | (conv => arg 4; simp only [hq]))); clear hq)) | ((with_reducible first | refine c_split (fun hq => ?_) (fun hq => ?_) | refine q_split (fun hq => ?_) (fun hq => ?_)) <;> (try (first | (conv => arg 8; simp only [hq]) | (conv => arg 4; simp only [hq])))) | (with_reducible refine fin_0 ?_ (by first | rfl | (conv => lhs; simp only [go_sem, List.getElem?_map, hx, Option.map_some])) ?_)
              | (with_reducible show evC _ _ _ _ _ _ _ _ _ _ _ _
                 first
                 | (refine c_doesE (hs) ?_ ?_ ?_
                    · ((try (conv => rhs; simp (disch := omega) only [go_sem, List.getElem?_map, hx, Option.map_some])); try rfl)
                    · first | rfl | (conv => lhs; simp only [go_sem, List.getElem?_map, hx, Option.map_some]))
                 | (refine c_doesE (hr) ?_ ?_ ?_
                    · ((try (conv => rhs; simp (disch := omega) only [go_sem, List.getElem?_map, hx, Option.map_some])); try rfl)
                    · first | rfl | (conv => lhs; simp only [go_sem, List.getElem?_map, hx, Option.map_some])))
              | exact Sub.refl _ | omega)
            refine ⟨hlt, upto1 (P := fun _ e => (1 ≤ ns.sum ∧ ns.sum ≤ 6) ∧ eOk e ns.sum 8) hx hv hJ, Wk.list [] rfl rfl ?_⟩
            repeat' (first | (conv in hold _ => simp (disch := omega) only [go_sem]) | exact True.intro | exact Sub.refl _ | omega)
          · rw [decide_eq_false hv] at hr
            repeat' (first
              | with_reducible refine acc_none ?_ | (conv in hold _ => simp (disch := omega) only [go_sem, List.getElem?_map, hx, Option.map_some]) | refine Stp.go ?_ | (with_reducible first | refine it_pos rfl ?_ | refine it_neg (by decide) ?_ | refine st_nil rfl ?_ | refine s_op ?_ ?_ | exact True.intro) | ((with_reducible first | refine dw_reg0 ?_ | refine dw_regB ?_); (conv => arg 3; whnf)) | (refine Spl.go (fun hq he => ?_) (fun hq he => ?_) <;> first | (exfalso; clear hq; omega) | ((try (first | (conv => arg 8; simp only [hq]) | (conv => arg 4; simp only [hq]))); clear hq)) | ((with_reducible first | refine c_split (fun hq => ?_) (fun hq => ?_) | refine q_split (fun hq => ?_) (fun hq => ?_)) <;> (try (first | (conv => arg 8; simp only [hq]) | (conv => arg 4; simp only [hq])))) | (with_reducible refine fin_0 ?_ (by first | rfl | (conv => lhs; simp only [go_sem, List.getElem?_map, hx, Option.map_some])) ?_)
              | (with_reducible show evC _ _ _ _ _ _ _ _ _ _ _ _
                 first
                 | (refine c_doesE (hs) ?_ ?_ ?_
                    · ((try (conv => rhs; simp (disch := omega) only [go_sem, List.getElem?_map, hx, Option.map_some])); try rfl)
                    · first | rfl | (conv => lhs; simp only [go_sem, List.getElem?_map, hx, Option.map_some]))
                 | (refine c_doesE (hr) ?_ ?_ ?_
                    · ((try (conv => rhs; simp (disch := omega) only [go_sem, List.getElem?_map, hx, Option.map_some])); try rfl)
                    · first | rfl | (conv => lhs; simp only [go_sem, List.getElem?_map, hx, Option.map_some])))
              | exact Sub.refl _ | omega)
            exact sub_f (fun h => hv (hfv.1 h i x hx))
        · repeat' (first | with_reducible refine acc_none ?_ | (conv in hold _ => simp (disch := omega) only [go_sem]) | refine Stp.go ?_ | (with_reducible first | refine it_pos rfl ?_ | refine it_neg (by decide) ?_ | refine st_nil rfl ?_ | refine s_op ?_ ?_ | exact True.intro) | ((with_reducible first | refine dw_reg0 ?_ | refine dw_regB ?_); (conv => arg 3; whnf)) | (refine Spl.go (fun hq he => ?_) (fun hq he => ?_) <;> first | (exfalso; clear hq; omega) | ((try (first | (conv => arg 8; simp only [hq]) | (conv => arg 4; simp only [hq]))); clear hq)) | ((with_reducible first | refine c_split (fun hq => ?_) (fun hq => ?_) | refine q_split (fun hq => ?_) (fun hq => ?_)) <;> (try (first | (conv => arg 8; simp only [hq]) | (conv => arg 4; simp only [hq])))) | (with_reducible refine fin_0 ?_ (by first | rfl | (conv => lhs; simp only [go_sem])) ?_) | exact Sub.refl _ | omega)
          exact sub_iff ⟨fun _ => hfv.2 (upto0 (P := fun _ e => (1 ≤ ns.sum ∧ ns.sum ≤ 6) ∧ eOk e ns.sum 8) hJ), fun _ => rfl⟩
/-- The width of a plan whose kids fit. -/
def fromV (p : Pl) (ns : List Int) : Int := if p.k = 3 then p.es.length else if p.k = 4 ∨ p.k = 5 then ns.sum else if p.k = 8 then p.cs.length + 1 else ns.getD 0 0
theorem widthFrom_ok (p : Pl) (ns : List Int) (hl : ns.length ≤ 1000) (hc : p.cs.length ≤ 1048576) (hn : ∀ (j : Nat) (x : Int), ns[j]? = some x → 0 ≤ x ∧ x ≤ 6) (h0 : 0 < ns.length) : Does Try.prog 47 [] [pD p, intsD ns] (I (fromV p ns)) [] := by
  obtain ⟨n0, e0, g0⟩ := get_ex h0
  have hs := sumOf_ok ns hl hn
  unfold fromV
  rw [g0]
  by_cases h3 : p.k = 3
  · rw [if_pos h3]
    refine does0 c_impl_widthFrom mixed (Nat.le_of_ble_eq_true rfl) ?_
    conv => arg 3; whnf
    repeat' (first | with_reducible refine acc_none ?_ | (conv in hold _ => simp (disch := omega) only [go_sem]) | refine Stp.go ?_ | (with_reducible first | refine it_pos rfl ?_ | refine it_neg (by decide) ?_ | refine st_nil rfl ?_ | refine s_op ?_ ?_ | exact True.intro) | ((with_reducible first | refine dw_reg0 ?_ | refine dw_regB ?_); (conv => arg 3; whnf)) | (refine Spl.go (fun hq he => ?_) (fun hq he => ?_) <;> first | (exfalso; clear hq; omega) | ((try (first | (conv => arg 8; simp only [hq]) | (conv => arg 4; simp only [hq]))); clear hq)) | ((with_reducible first | refine c_split (fun hq => ?_) (fun hq => ?_) | refine q_split (fun hq => ?_) (fun hq => ?_)) <;> (try (first | (conv => arg 8; simp only [hq]) | (conv => arg 4; simp only [hq])))) | (with_reducible refine fin_0 ?_ (by first | rfl | (conv => lhs; simp only [go_sem])) ?_) | exact Sub.refl _ | omega)
  · rw [if_neg h3]
    by_cases h4 : p.k = 4 ∨ p.k = 5
    · rw [if_pos h4]
      refine does0 c_impl_widthFrom mixed (Nat.le_of_ble_eq_true rfl) ?_
      conv => arg 3; whnf
      repeat' (first | with_reducible refine acc_none ?_ | (conv in hold _ => simp (disch := omega) only [go_sem]) | refine Stp.go ?_ | (with_reducible first | refine it_pos rfl ?_ | refine it_neg (by decide) ?_ | refine st_nil rfl ?_ | refine s_op ?_ ?_ | exact True.intro) | ((with_reducible first | refine dw_reg0 ?_ | refine dw_regB ?_); (conv => arg 3; whnf)) | (refine Spl.go (fun hq he => ?_) (fun hq he => ?_) <;> first | (exfalso; clear hq; omega) | ((try (first | (conv => arg 8; simp only [hq]) | (conv => arg 4; simp only [hq]))); clear hq)) | ((with_reducible first | refine c_split (fun hq => ?_) (fun hq => ?_) | refine q_split (fun hq => ?_) (fun hq => ?_)) <;> (try (first | (conv => arg 8; simp only [hq]) | (conv => arg 4; simp only [hq])))) | (with_reducible refine fin_0 ?_ (by first | rfl | (conv => lhs; simp only [go_sem])) ?_) | exact Sub.refl _ | omega)
      all_goals
        refine c_doesE (hs) ?_ ?_ ?_
        · ((try (conv => rhs; simp (disch := omega) only [go_sem])); try rfl)
        · first | rfl | (conv => lhs; simp only [go_sem])
        repeat' (first | with_reducible refine acc_none ?_ | (conv in hold _ => simp (disch := omega) only [go_sem]) | refine Stp.go ?_ | (with_reducible first | refine it_pos rfl ?_ | refine it_neg (by decide) ?_ | refine st_nil rfl ?_ | refine s_op ?_ ?_ | exact True.intro) | ((with_reducible first | refine dw_reg0 ?_ | refine dw_regB ?_); (conv => arg 3; whnf)) | (refine Spl.go (fun hq he => ?_) (fun hq he => ?_) <;> first | (exfalso; clear hq; omega) | ((try (first | (conv => arg 8; simp only [hq]) | (conv => arg 4; simp only [hq]))); clear hq)) | ((with_reducible first | refine c_split (fun hq => ?_) (fun hq => ?_) | refine q_split (fun hq => ?_) (fun hq => ?_)) <;> (try (first | (conv => arg 8; simp only [hq]) | (conv => arg 4; simp only [hq])))) | (with_reducible refine fin_0 ?_ (by first | rfl | (conv => lhs; simp only [go_sem])) ?_) | exact Sub.refl _ | omega)
    · rw [if_neg h4]
      by_cases h8 : p.k = 8
      · rw [if_pos h8]
        refine does0 c_impl_widthFrom mixed (Nat.le_of_ble_eq_true rfl) ?_
        conv => arg 3; whnf
        repeat' (first | with_reducible refine acc_none ?_ | (conv in hold _ => simp (disch := omega) only [go_sem]) | refine Stp.go ?_ | (with_reducible first | refine it_pos rfl ?_ | refine it_neg (by decide) ?_ | refine st_nil rfl ?_ | refine s_op ?_ ?_ | exact True.intro) | ((with_reducible first | refine dw_reg0 ?_ | refine dw_regB ?_); (conv => arg 3; whnf)) | (refine Spl.go (fun hq he => ?_) (fun hq he => ?_) <;> first | (exfalso; clear hq; omega) | ((try (first | (conv => arg 8; simp only [hq]) | (conv => arg 4; simp only [hq]))); clear hq)) | ((with_reducible first | refine c_split (fun hq => ?_) (fun hq => ?_) | refine q_split (fun hq => ?_) (fun hq => ?_)) <;> (try (first | (conv => arg 8; simp only [hq]) | (conv => arg 4; simp only [hq])))) | (with_reducible refine fin_0 ?_ (by first | rfl | (conv => lhs; simp only [go_sem])) ?_) | exact Sub.refl _ | omega)
      · rw [if_neg h8]
        refine does0 c_impl_widthFrom mixed (Nat.le_of_ble_eq_true rfl) ?_
        conv => arg 3; whnf
        repeat' (first | with_reducible refine acc_none ?_ | (conv in hold _ => simp (disch := omega) only [go_sem, List.getElem?_map, e0, Option.map_some]) | refine Stp.go ?_ | (with_reducible first | refine it_pos rfl ?_ | refine it_neg (by decide) ?_ | refine st_nil rfl ?_ | refine s_op ?_ ?_ | exact True.intro) | ((with_reducible first | refine dw_reg0 ?_ | refine dw_regB ?_); (conv => arg 3; whnf)) | (refine Spl.go (fun hq he => ?_) (fun hq he => ?_) <;> first | (exfalso; clear hq; omega) | ((try (first | (conv => arg 8; simp only [hq]) | (conv => arg 4; simp only [hq]))); clear hq)) | ((with_reducible first | refine c_split (fun hq => ?_) (fun hq => ?_) | refine q_split (fun hq => ?_) (fun hq => ?_)) <;> (try (first | (conv => arg 8; simp only [hq]) | (conv => arg 4; simp only [hq])))) | (with_reducible refine fin_0 ?_ (by first | rfl | (conv => lhs; simp only [go_sem, List.getElem?_map, e0, Option.map_some])) ?_) | exact Sub.refl _ | omega)
end Go.Proofs.Ytikfanemeglcoaa
