/-
  The fields of plans, in both packages. No condition.
-/
import Derived.Test.YtpfedjaedlfdfaaDcVWid
import Derived.Test.YtpfedjaedlfdfaaDca
import Derived.Test.YtpfedjaedlfdfaaJVPlC
import Derived.Test.YtpfedjaedlfdfaaVEvI
import Derived.Test.YtpfedjaedlfdfaaJVCond
import Derived.Test.YtpfedjaedlfdfaaVVal
import Derived.Test.YtpfedjaedlfdfaaVLib
import Derived.Test.YtpfedjaedlfdfaaDcVWidB
import Derived.Test.YtpfedjaedlfdfaaKVWidA
import Derived.Test.YtpfedjaedlfdfaaDcVWidC
import Derived.Test.YtpfedjaedlfdfaaVFrzB
set_option maxHeartbeats 4000000
set_option maxRecDepth 100000
namespace Go.Proofs.Ytpfedjaedlfdfaa
open Go.RowKit

/-- A plan has the fields of its kind, and no others. -/
def fields (p : Pl) : Prop := (1 ≤ p.k ∧ p.k ≤ 8) ∧ (p.k = 1 → p.ks.length = 0) ∧ (p.k = 4 ∨ p.k = 5 ∨ p.k = 6 → p.ks.length = 2) ∧ (p.k = 2 ∨ p.k = 3 ∨ p.k = 7 ∨ p.k = 8 → p.ks.length = 1) ∧
  (p.k = 2 ∨ p.k = 4 ∨ p.k = 5 → p.es.length = 1) ∧ (p.k = 1 ∨ p.k = 6 ∨ p.k = 7 ∨ p.k = 8 → p.es.length = 0) ∧ (p.t = 0 ∨ p.k = 1) ∧ (p.cs.length = 0 ∨ p.k = 8)
noncomputable instance fieldsDec (p : Pl) : Decidable (fields p) := Classical.propDecidable _
theorem onlyFields_ok (p : Pl) : Does Try.prog 80 [] [pD p] (Bo (decide (fields p))) [] := by
  have hr := inRange_ok p.k 1 8
  by_cases hk : 1 ≤ p.k ∧ p.k ≤ 8
  · rw [decide_eq_true hk] at hr
    refine does0 c_spec_onlyFields mixed (Nat.le_of_ble_eq_true rfl) ?_
    conv => arg 3; whnf
    repeat' (first | with_reducible refine acc_none ?_ | (conv in hold _ => simp (disch := omega) only [go_sem]) | refine Stp.go ?_ | (with_reducible first | refine it_pos rfl ?_ | refine it_neg (by decide) ?_ | refine st_nil rfl ?_ | refine s_op ?_ ?_ | exact True.intro) | ((with_reducible first | refine dw_reg0 ?_ | refine dw_regB ?_); (conv => arg 3; whnf)) | (refine Spl.go (fun hq he => ?_) (fun hq he => ?_) <;> first | (exfalso; clear hq; omega) | ((try (first | (conv => arg 8; simp only [hq]) | (conv => arg 4; simp only [hq]))); clear hq)) | ((with_reducible first | refine c_split (fun hq => ?_) (fun hq => ?_) | refine q_split (fun hq => ?_) (fun hq => ?_)) <;> (try (first | (conv => arg 8; simp only [hq]) | (conv => arg 4; simp only [hq])))) | (with_reducible refine fin_0 ?_ (by first | rfl | (conv => lhs; simp only [go_sem])) ?_) | exact Sub.refl _ | omega)
    all_goals
      refine c_doesE (hr) ?_ ?_ ?_
      · ((try (conv => rhs; simp (disch := omega) only [go_sem])); try rfl)
      · first | rfl | (conv => lhs; simp only [go_sem])
      repeat' (first | with_reducible refine acc_none ?_ | (conv in hold _ => simp (disch := omega) only [go_sem]) | refine Stp.go ?_ | (with_reducible first | refine it_pos rfl ?_ | refine it_neg (by decide) ?_ | refine st_nil rfl ?_ | refine s_op ?_ ?_ | exact True.intro) | ((with_reducible first | refine dw_reg0 ?_ | refine dw_regB ?_); (conv => arg 3; whnf)) | (refine Spl.go (fun hq he => ?_) (fun hq he => ?_) <;> first | (exfalso; clear hq; omega) | ((try (first | (conv => arg 8; simp only [hq]) | (conv => arg 4; simp only [hq]))); clear hq)) | ((with_reducible first | refine c_split (fun hq => ?_) (fun hq => ?_) | refine q_split (fun hq => ?_) (fun hq => ?_)) <;> (try (first | (conv => arg 8; simp only [hq]) | (conv => arg 4; simp only [hq])))) | (with_reducible refine fin_0 ?_ (by first | rfl | (conv => lhs; simp only [go_sem])) ?_) | exact Sub.refl _ | omega)
    all_goals first
      | exact sub_f (fun h => by unfold fields at h; omega)
      | exact sub_iff ⟨fun _ => by unfold fields; omega, fun _ => rfl⟩
      | exact sub_iff ⟨fun h' => by unfold fields; simp at h'; omega, fun h' => by unfold fields at h'; simp; omega⟩
  · rw [decide_eq_false hk] at hr
    refine does0 c_spec_onlyFields mixed (Nat.le_of_ble_eq_true rfl) ?_
    conv => arg 3; whnf
    repeat' (first
      | with_reducible refine acc_none ?_ | (conv in hold _ => simp (disch := omega) only [go_sem]) | refine Stp.go ?_ | (with_reducible first | refine it_pos rfl ?_ | refine it_neg (by decide) ?_ | refine st_nil rfl ?_ | refine s_op ?_ ?_ | exact True.intro) | ((with_reducible first | refine dw_reg0 ?_ | refine dw_regB ?_); (conv => arg 3; whnf)) | (refine Spl.go (fun hq he => ?_) (fun hq he => ?_) <;> first | (exfalso; clear hq; omega) | ((try (first | (conv => arg 8; simp only [hq]) | (conv => arg 4; simp only [hq]))); clear hq)) | ((with_reducible first | refine c_split (fun hq => ?_) (fun hq => ?_) | refine q_split (fun hq => ?_) (fun hq => ?_)) <;> (try (first | (conv => arg 8; simp only [hq]) | (conv => arg 4; simp only [hq])))) | (with_reducible refine fin_0 ?_ (by first | rfl | (conv => lhs; simp only [go_sem])) ?_)
      | (with_reducible show evC _ _ _ _ _ _ _ _ _ _ _ _
         first
         | (refine c_doesE (hr) ?_ ?_ ?_
            · ((try (conv => rhs; simp (disch := omega) only [go_sem])); try rfl)
            · first | rfl | (conv => lhs; simp only [go_sem])))
      | exact Sub.refl _ | omega)
    exact sub_f (fun h => hk h.1)
/-- What the program asks besides. -/
def fieldsI (p : Pl) : Prop := fields p ∧ (p.k = 3 → 1 ≤ p.es.length ∧ p.es.length ≤ 6)
noncomputable instance fieldsIDec (p : Pl) : Decidable (fieldsI p) := Classical.propDecidable _
theorem shapeOf_ok (k : Int) (h : 1 ≤ k ∧ k ≤ 8) : Does Try.prog 84 [] [I k] (.tup [.agg [I (if k = 2 ∨ k = 3 ∨ k = 4 ∨ k = 5 then 1 else 0), I (if k = 3 then 6 else if k = 2 ∨ k = 4 ∨ k = 5 then 1 else 0), I (if k = 1 then 0 else if k = 4 ∨ k = 5 ∨ k = 6 then 2 else 1)], Bo true]) [] := by
  refine does0 c_impl_shapeOf mixed (Nat.le_of_ble_eq_true rfl) ?_
  conv => arg 3; whnf
  repeat' (first | with_reducible refine acc_none ?_ | (conv in hold _ => simp (disch := omega) only [go_sem]) | refine Stp.go ?_ | (with_reducible first | refine it_pos rfl ?_ | refine it_neg (by decide) ?_ | refine st_nil rfl ?_ | refine s_op ?_ ?_ | exact True.intro) | ((with_reducible first | refine dw_reg0 ?_ | refine dw_regB ?_); (conv => arg 3; whnf)) | (refine Spl.go (fun hq he => ?_) (fun hq he => ?_) <;> first | (exfalso; clear hq; omega) | ((try (first | (conv => arg 8; simp only [hq]) | (conv => arg 4; simp only [hq]))); clear hq)) | ((with_reducible first | refine c_split (fun hq => ?_) (fun hq => ?_) | refine q_split (fun hq => ?_) (fun hq => ?_)) <;> (try (first | (conv => arg 8; simp only [hq]) | (conv => arg 4; simp only [hq])))) | (with_reducible refine fin_0 ?_ (by first | rfl | (conv => lhs; simp only [go_sem])) ?_) | exact Sub.refl _ | omega)
  all_goals exact Sub.of_eq (by subst he; rfl)
theorem shapeOf_no (k : Int) (h : ¬ (1 ≤ k ∧ k ≤ 8)) : Does Try.prog 84 [] [I k] (.tup [.agg [I 0, I 0, I 0], Bo false]) [] := by
  refine does0 c_impl_shapeOf mixed (Nat.le_of_ble_eq_true rfl) ?_
  conv => arg 3; whnf
  repeat' (first | with_reducible refine acc_none ?_ | (conv in hold _ => simp (disch := omega) only [go_sem]) | refine Stp.go ?_ | (with_reducible first | refine it_pos rfl ?_ | refine it_neg (by decide) ?_ | refine st_nil rfl ?_ | refine s_op ?_ ?_ | exact True.intro) | ((with_reducible first | refine dw_reg0 ?_ | refine dw_regB ?_); (conv => arg 3; whnf)) | (refine Spl.go (fun hq he => ?_) (fun hq he => ?_) <;> first | (exfalso; clear hq; omega) | ((try (first | (conv => arg 8; simp only [hq]) | (conv => arg 4; simp only [hq]))); clear hq)) | ((with_reducible first | refine c_split (fun hq => ?_) (fun hq => ?_) | refine q_split (fun hq => ?_) (fun hq => ?_)) <;> (try (first | (conv => arg 8; simp only [hq]) | (conv => arg 4; simp only [hq])))) | (with_reducible refine fin_0 ?_ (by first | rfl | (conv => lhs; simp only [go_sem])) ?_) | exact Sub.refl _ | omega)
theorem hasOwnFields_ok (p : Pl) : Does Try.prog 56 [] [pD p] (Bo (decide (fieldsI p))) [] := by
  by_cases hk : 1 ≤ p.k ∧ p.k ≤ 8
  · have hs := shapeOf_ok p.k hk
    refine does0 c_impl_hasOwnFields mixed (Nat.le_of_ble_eq_true rfl) ?_
    conv => arg 3; whnf
    repeat' (first
      | with_reducible refine acc_none ?_ | (conv in hold _ => simp (disch := omega) only [go_sem]) | refine Stp.go ?_ | (with_reducible first | refine it_pos rfl ?_ | refine it_neg (by decide) ?_ | refine st_nil rfl ?_ | refine s_op ?_ ?_ | exact True.intro) | ((with_reducible first | refine dw_reg0 ?_ | refine dw_regB ?_); (conv => arg 3; whnf)) | (refine Spl.go (fun hq he => ?_) (fun hq he => ?_) <;> first | (exfalso; clear hq; omega) | ((try (first | (conv => arg 8; simp only [hq]) | (conv => arg 4; simp only [hq]))); clear hq)) | ((with_reducible first | refine c_split (fun hq => ?_) (fun hq => ?_) | refine q_split (fun hq => ?_) (fun hq => ?_)) <;> (try (first | (conv => arg 8; simp only [hq]) | (conv => arg 4; simp only [hq])))) | (with_reducible refine fin_0 ?_ (by first | rfl | (conv => lhs; simp only [go_sem])) ?_)
      | (with_reducible show evC _ _ _ _ _ _ _ _ _ _ _ _
         first
         | (refine c_doesE (hs) ?_ ?_ ?_
            · ((try (conv => rhs; simp (disch := omega) only [go_sem])); try rfl)
            · first | rfl | (conv => lhs; simp only [go_sem])))
      | exact Sub.refl _ | omega)
    all_goals first
      | exact sub_f (fun h => by unfold fieldsI fields at h; omega)
      | exact sub_iff ⟨fun _ => by unfold fieldsI fields; omega, fun _ => rfl⟩
      | exact sub_iff ⟨fun h' => by unfold fieldsI fields; simp at h'; omega, fun h' => by unfold fieldsI fields at h'; simp; omega⟩
      | (by_cases h0 : p.cs.length = 0
         · exact Sub.of_eq (by rw [h0, decide_eq_true (show fieldsI p by unfold fieldsI fields; omega)]; rfl)
         · exact Sub.of_eq (by rw [decide_eq_false (fun h : fieldsI p => by unfold fieldsI fields at h; omega), beq_eq_false_iff_ne.2 (by omega)]))
  · have hs := shapeOf_no p.k hk
    refine does0 c_impl_hasOwnFields mixed (Nat.le_of_ble_eq_true rfl) ?_
    conv => arg 3; whnf
    repeat' (first
      | with_reducible refine acc_none ?_ | (conv in hold _ => simp (disch := omega) only [go_sem]) | refine Stp.go ?_ | (with_reducible first | refine it_pos rfl ?_ | refine it_neg (by decide) ?_ | refine st_nil rfl ?_ | refine s_op ?_ ?_ | exact True.intro) | ((with_reducible first | refine dw_reg0 ?_ | refine dw_regB ?_); (conv => arg 3; whnf)) | (refine Spl.go (fun hq he => ?_) (fun hq he => ?_) <;> first | (exfalso; clear hq; omega) | ((try (first | (conv => arg 8; simp only [hq]) | (conv => arg 4; simp only [hq]))); clear hq)) | ((with_reducible first | refine c_split (fun hq => ?_) (fun hq => ?_) | refine q_split (fun hq => ?_) (fun hq => ?_)) <;> (try (first | (conv => arg 8; simp only [hq]) | (conv => arg 4; simp only [hq])))) | (with_reducible refine fin_0 ?_ (by first | rfl | (conv => lhs; simp only [go_sem])) ?_)
      | (with_reducible show evC _ _ _ _ _ _ _ _ _ _ _ _
         first
         | (refine c_doesE (hs) ?_ ?_ ?_
            · ((try (conv => rhs; simp (disch := omega) only [go_sem])); try rfl)
            · first | rfl | (conv => lhs; simp only [go_sem])))
      | exact Sub.refl _ | omega)
    exact sub_f (fun h => hk h.1.1)
end Go.Proofs.Ytpfedjaedlfdfaa
set_option maxHeartbeats 4000000
set_option maxRecDepth 100000
namespace Go.Proofs.Ytpfedjaedlfdfaa
open Go.RowKit

theorem sum_next {ns : List Int} {i : Nat} {x : Int} (h : ns[i]? = some x) : (ns.take (i + 1)).sum = (ns.take i).sum + x := by
  rw [take_next h, List.sum_append, List.sum_cons, List.sum_nil]
  omega
theorem sumOf_ok (ns : List Int) (hl : ns.length ≤ 1000) (hn : ∀ (j : Nat) (x : Int), ns[j]? = some x → 0 ≤ x ∧ x ≤ 6) : Does Try.prog 87 [] [intsD ns] (I ns.sum) [] := by
  refine does0 c_impl_sumOf mixed (Nat.le_of_ble_eq_true rfl) ?_
  conv => arg 3; whnf
  repeat' (first | with_reducible refine acc_none ?_ | (conv in hold _ => simp (disch := omega) only [go_sem]) | refine Stp.go ?_ | (with_reducible first | refine it_pos rfl ?_ | refine it_neg (by decide) ?_ | refine st_nil rfl ?_ | refine s_op ?_ ?_ | exact True.intro) | ((with_reducible first | refine dw_reg0 ?_ | refine dw_regB ?_); (conv => arg 3; whnf)) | (refine Spl.go (fun hq he => ?_) (fun hq he => ?_) <;> first | (exfalso; clear hq; omega) | ((try (first | (conv => arg 8; simp only [hq]) | (conv => arg 4; simp only [hq]))); clear hq)) | ((with_reducible first | refine c_split (fun hq => ?_) (fun hq => ?_) | refine q_split (fun hq => ?_) (fun hq => ?_)) <;> (try (first | (conv => arg 8; simp only [hq]) | (conv => arg 4; simp only [hq])))) | (with_reducible refine fin_0 ?_ (by first | rfl | (conv => lhs; simp only [go_sem])) ?_) | exact Sub.refl _ | omega)
  refine dw_for (c := 0) (l := fun i => [(3, I (ns.take i).sum), (6, intsD ns), (7, I ns.length), (8, I i)]) ns.length (fun i => 0 ≤ (ns.take i).sum ∧ (ns.take i).sum ≤ 6 * i) 0 (by simp) (Wk.list [] rfl rfl ?_) (fun i hi hJ => ?_) (Nat.zero_le _)
  · repeat' (first | (conv in hold _ => simp (disch := omega) only [go_sem]) | exact True.intro | exact Sub.refl _ | omega)
    exact ⟨rfl, rfl⟩
  · rcases at_or_end hi with ⟨x, hx, hlt⟩ | rfl
    · have h1 := hn i x hx
      have h2 := sum_next hx
      repeat' (first | with_reducible refine acc_none ?_ | (conv in hold _ => simp (disch := omega) only [go_sem, List.getElem?_map, hx, Option.map_some]) | refine Stp.go ?_ | (with_reducible first | refine it_pos rfl ?_ | refine it_neg (by decide) ?_ | refine st_nil rfl ?_ | refine s_op ?_ ?_ | exact True.intro) | ((with_reducible first | refine dw_reg0 ?_ | refine dw_regB ?_); (conv => arg 3; whnf)) | (refine Spl.go (fun hq he => ?_) (fun hq he => ?_) <;> first | (exfalso; clear hq; omega) | ((try (first | (conv => arg 8; simp only [hq]) | (conv => arg 4; simp only [hq]))); clear hq)) | ((with_reducible first | refine c_split (fun hq => ?_) (fun hq => ?_) | refine q_split (fun hq => ?_) (fun hq => ?_)) <;> (try (first | (conv => arg 8; simp only [hq]) | (conv => arg 4; simp only [hq])))) | (with_reducible refine fin_0 ?_ (by first | rfl | (conv => lhs; simp only [go_sem, List.getElem?_map, hx, Option.map_some])) ?_) | exact Sub.refl _ | omega)
      refine ⟨hlt, by omega, Wk.list [] rfl rfl ?_⟩
      repeat' (first | (conv in hold _ => simp (disch := omega) only [go_sem, h2]) | exact True.intro | exact Sub.refl _ | omega)
    · repeat' (first | with_reducible refine acc_none ?_ | (conv in hold _ => simp (disch := omega) only [go_sem, List.take_length]) | refine Stp.go ?_ | (with_reducible first | refine it_pos rfl ?_ | refine it_neg (by decide) ?_ | refine st_nil rfl ?_ | refine s_op ?_ ?_ | exact True.intro) | ((with_reducible first | refine dw_reg0 ?_ | refine dw_regB ?_); (conv => arg 3; whnf)) | (refine Spl.go (fun hq he => ?_) (fun hq he => ?_) <;> first | (exfalso; clear hq; omega) | ((try (first | (conv => arg 8; simp only [hq]) | (conv => arg 4; simp only [hq]))); clear hq)) | ((with_reducible first | refine c_split (fun hq => ?_) (fun hq => ?_) | refine q_split (fun hq => ?_) (fun hq => ?_)) <;> (try (first | (conv => arg 8; simp only [hq]) | (conv => arg 4; simp only [hq])))) | (with_reducible refine fin_0 ?_ (by first | rfl | (conv => lhs; simp only [go_sem, List.take_length])) ?_) | exact Sub.refl _ | omega)
/-- The kids' widths fit the plan. -/
def fitsV (p : Pl) (ns : List Int) : Prop := if p.k = 6 then ns.getD 0 0 = ns.getD 1 0 else if p.k = 8 then p.cs.length < 6 ∧ colsOk p.cs (ns.getD 0 0) else ∀ (j : Nat) (e : E), p.es[j]? = some e → (1 ≤ ns.sum ∧ ns.sum ≤ 6) ∧ eOk e ns.sum 8
noncomputable instance fitsDec (p : Pl) (ns : List Int) : Decidable (fitsV p ns) := Classical.propDecidable _
theorem get_at {ns : List Int} {i : Nat} (h : i < ns.length) : ns[i]? = some (ns.getD i 0) := by
  rw [List.getD_eq_getElem?_getD, List.getElem?_eq_getElem h, Option.getD_some]
theorem get_ex {ns : List Int} {i : Nat} (h : i < ns.length) : ∃ n, ns[i]? = some n ∧ ns.getD i 0 = n := ⟨_, get_at h, rfl⟩
theorem fitsKids_ok (p : Pl) (ns : List Int) (hl : ns.length ≤ 1000) (hc : p.cs.length ≤ 1048576) (he : p.es.length ≤ 1048576) (hn : ∀ (j : Nat) (x : Int), ns[j]? = some x → 0 ≤ x ∧ x ≤ 6) (h0 : 0 < ns.length) (h1 : p.k = 6 → 1 < ns.length) : Does Try.prog 57 [] [pD p, intsD ns] (Bo (decide (fitsV p ns))) [] := by
  obtain ⟨n0, e0, g0⟩ := get_ex h0
  by_cases h6 : p.k = 6
  · obtain ⟨n1, e1, g1⟩ := get_ex (h1 h6)
    rw [show decide (fitsV p ns) = decide (n0 = n1) from decide_eq_decide.2 (by unfold fitsV; rw [if_pos h6, g0, g1])]
    refine does0 c_impl_fitsKids mixed (Nat.le_of_ble_eq_true rfl) ?_
    conv => arg 3; whnf
    repeat' (first | with_reducible refine acc_none ?_ | (conv in hold _ => simp (disch := omega) only [go_sem, List.getElem?_map, e0, e1, Option.map_some]) | refine Stp.go ?_ | (with_reducible first | refine it_pos rfl ?_ | refine it_neg (by decide) ?_ | refine st_nil rfl ?_ | refine s_op ?_ ?_ | exact True.intro) | ((with_reducible first | refine dw_reg0 ?_ | refine dw_regB ?_); (conv => arg 3; whnf)) | (refine Spl.go (fun hq he => ?_) (fun hq he => ?_) <;> first | (exfalso; clear hq; omega) | ((try (first | (conv => arg 8; simp only [hq]) | (conv => arg 4; simp only [hq]))); clear hq)) | ((with_reducible first | refine c_split (fun hq => ?_) (fun hq => ?_) | refine q_split (fun hq => ?_) (fun hq => ?_)) <;> (try (first | (conv => arg 8; simp only [hq]) | (conv => arg 4; simp only [hq])))) | (with_reducible refine fin_0 ?_ (by first | rfl | (conv => lhs; simp only [go_sem, List.getElem?_map, e0, e1, Option.map_some])) ?_) | exact Sub.refl _ | omega)
  · by_cases h8 : p.k = 8
    · rw [show decide (fitsV p ns) = decide (p.cs.length < 6 ∧ colsOk p.cs n0) from decide_eq_decide.2 (by unfold fitsV; rw [if_neg h6, if_pos h8, g0])]
      have hv := validColumns_ok p.cs n0 hc
      refine does0 c_impl_fitsKids mixed (Nat.le_of_ble_eq_true rfl) ?_
      conv => arg 3; whnf
      repeat' (first
        | with_reducible refine acc_none ?_ | (conv in hold _ => simp (disch := omega) only [go_sem, List.getElem?_map, e0, Option.map_some]) | refine Stp.go ?_ | (with_reducible first | refine it_pos rfl ?_ | refine it_neg (by decide) ?_ | refine st_nil rfl ?_ | refine s_op ?_ ?_ | exact True.intro) | ((with_reducible first | refine dw_reg0 ?_ | refine dw_regB ?_); (conv => arg 3; whnf)) | (refine Spl.go (fun hq he => ?_) (fun hq he => ?_) <;> first | (exfalso; clear hq; omega) | ((try (first | (conv => arg 8; simp only [hq]) | (conv => arg 4; simp only [hq]))); clear hq)) | ((with_reducible first | refine c_split (fun hq => ?_) (fun hq => ?_) | refine q_split (fun hq => ?_) (fun hq => ?_)) <;> (try (first | (conv => arg 8; simp only [hq]) | (conv => arg 4; simp only [hq])))) | (with_reducible refine fin_0 ?_ (by first | rfl | (conv => lhs; simp only [go_sem, List.getElem?_map, e0, Option.map_some])) ?_)
        | (with_reducible show evC _ _ _ _ _ _ _ _ _ _ _ _
           first
           | (refine c_doesE (hv) ?_ ?_ ?_
              · ((try (conv => rhs; simp (disch := omega) only [go_sem, List.getElem?_map, e0, Option.map_some])); try rfl)
              · first | rfl | (conv => lhs; simp only [go_sem, List.getElem?_map, e0, Option.map_some])))
        | exact Sub.refl _ | omega)
    · have hs := sumOf_ok ns hl hn
      have hfv : fitsV p ns ↔ ∀ (j : Nat) (e : E), p.es[j]? = some e → (1 ≤ ns.sum ∧ ns.sum ≤ 6) ∧ eOk e ns.sum 8 := by unfold fitsV; rw [if_neg h6, if_neg h8]
      refine does0 c_impl_fitsKids mixed (Nat.le_of_ble_eq_true rfl) ?_
      conv => arg 3; whnf
      repeat' (first | with_reducible refine acc_none ?_ | (conv in hold _ => simp (disch := omega) only [go_sem]) | refine Stp.go ?_ | (with_reducible first | refine it_pos rfl ?_ | refine it_neg (by decide) ?_ | refine st_nil rfl ?_ | refine s_op ?_ ?_ | exact True.intro) | ((with_reducible first | refine dw_reg0 ?_ | refine dw_regB ?_); (conv => arg 3; whnf)) | (refine Spl.go (fun hq he => ?_) (fun hq he => ?_) <;> first | (exfalso; clear hq; omega) | ((try (first | (conv => arg 8; simp only [hq]) | (conv => arg 4; simp only [hq]))); clear hq)) | ((with_reducible first | refine c_split (fun hq => ?_) (fun hq => ?_) | refine q_split (fun hq => ?_) (fun hq => ?_)) <;> (try (first | (conv => arg 8; simp only [hq]) | (conv => arg 4; simp only [hq])))) | (with_reducible refine fin_0 ?_ (by first | rfl | (conv => lhs; simp only [go_sem])) ?_) | exact Sub.refl _ | omega)
      refine dw_for (c := 0) (l := fun i => [(1, intsD ns), (27, .sl 5 (p.es.map eD)), (28, I p.es.length), (29, I i)]) p.es.length (fun i => ∀ (j : Nat) (e : E), j < i → p.es[j]? = some e → (1 ≤ ns.sum ∧ ns.sum ≤ 6) ∧ eOk e ns.sum 8) 0 (fun j w hj => by omega) (Wk.list [] rfl rfl ?_) (fun i hi hJ => ?_) (Nat.zero_le _)
      · repeat' (first | (conv in hold _ => simp (disch := omega) only [go_sem]) | exact True.intro | exact Sub.refl _ | omega)
        exact rfl
      · rcases at_or_end hi with ⟨x, hx, hlt⟩ | rfl
        · have hr := implValidExpr_ok x ns.sum
          by_cases hv : (1 ≤ ns.sum ∧ ns.sum ≤ 6) ∧ eOk x ns.sum 8
          · rw [decide_eq_true hv] at hr
            repeat' (first
              | with_reducible refine acc_none ?_ | (conv in hold _ => simp (disch := omega) only [go_sem, List.getElem?_map, hx, Option.map_some]) | refine Stp.go ?_ | (with_reducible first | refine it_pos rfl ?_ | refine it_neg (by decide) ?_ | refine st_nil rfl ?_ | refine s_op ?_ ?_ | exact True.intro) | ((with_reducible first | refine dw_reg0 ?_ | refine dw_regB ?_); (conv => arg 3; whnf)) | (refine Spl.go (fun hq he => ?_) (fun hq he => ?_) <;> first | (exfalso; clear hq; omega) | ((try (first | (conv => arg 8; simp only [hq]) | (conv => arg 4; simp only [hq]))); clear hq)) | ((with_reducible first | refine c_split (fun hq => ?_) (fun hq => ?_) | refine q_split (fun hq => ?_) (fun hq => ?_)) <;> (try (first | (conv => arg 8; simp only [hq]) | (conv => arg 4; simp only [hq])))) | (with_reducible refine fin_0 ?_ (by first | rfl | (conv => lhs; simp only [go_sem, List.getElem?_map, hx, Option.map_some])) ?_)
              | (with_reducible show evC _ _ _ _ _ _ _ _ _ _ _ _
                 first
                 | (refine c_doesE (hs) ?_ ?_ ?_
                    · ((try (conv => rhs; simp (disch := omega) only [go_sem, List.getElem?_map, hx, Option.map_some])); try rfl)
                    · first | rfl | (conv => lhs; simp only [go_sem, List.getElem?_map, hx, Option.map_some]))
                 | (refine c_doesE (hr) ?_ ?_ ?_
                    · ((try (conv => rhs; simp (disch := omega) only [go_sem, List.getElem?_map, hx, Option.map_some])); try rfl)
                    · first | rfl | (conv => lhs; simp only [go_sem, List.getElem?_map, hx, Option.map_some])))
              | exact Sub.refl _ | omega)
            refine ⟨hlt, upto1 (P := fun _ e => (1 ≤ ns.sum ∧ ns.sum ≤ 6) ∧ eOk e ns.sum 8) hx hv hJ, Wk.list [] rfl rfl ?_⟩
            repeat' (first | (conv in hold _ => simp (disch := omega) only [go_sem]) | exact True.intro | exact Sub.refl _ | omega)
          · rw [decide_eq_false hv] at hr
            repeat' (first
              | with_reducible refine acc_none ?_ | (conv in hold _ => simp (disch := omega) only [go_sem, List.getElem?_map, hx, Option.map_some]) | refine Stp.go ?_ | (with_reducible first | refine it_pos rfl ?_ | refine it_neg (by decide) ?_ | refine st_nil rfl ?_ | refine s_op ?_ ?_ | exact True.intro) | ((with_reducible first | refine dw_reg0 ?_ | refine dw_regB ?_); (conv => arg 3; whnf)) | (refine Spl.go (fun hq he => ?_) (fun hq he => ?_) <;> first | (exfalso; clear hq; omega) | ((try (first | (conv => arg 8; simp only [hq]) | (conv => arg 4; simp only [hq]))); clear hq)) | ((with_reducible first | refine c_split (fun hq => ?_) (fun hq => ?_) | refine q_split (fun hq => ?_) (fun hq => ?_)) <;> (try (first | (conv => arg 8; simp only [hq]) | (conv => arg 4; simp only [hq])))) | (with_reducible refine fin_0 ?_ (by first | rfl | (conv => lhs; simp only [go_sem, List.getElem?_map, hx, Option.map_some])) ?_)
              | (with_reducible show evC _ _ _ _ _ _ _ _ _ _ _ _
                 first
                 | (refine c_doesE (hs) ?_ ?_ ?_
                    · ((try (conv => rhs; simp (disch := omega) only [go_sem, List.getElem?_map, hx, Option.map_some])); try rfl)
                    · first | rfl | (conv => lhs; simp only [go_sem, List.getElem?_map, hx, Option.map_some]))
                 | (refine c_doesE (hr) ?_ ?_ ?_
                    · ((try (conv => rhs; simp (disch := omega) only [go_sem, List.getElem?_map, hx, Option.map_some])); try rfl)
                    · first | rfl | (conv => lhs; simp only [go_sem, List.getElem?_map, hx, Option.map_some])))
              | exact Sub.refl _ | omega)
            exact sub_f (fun h => hv (hfv.1 h i x hx))
        · repeat' (first | with_reducible refine acc_none ?_ | (conv in hold _ => simp (disch := omega) only [go_sem]) | refine Stp.go ?_ | (with_reducible first | refine it_pos rfl ?_ | refine it_neg (by decide) ?_ | refine st_nil rfl ?_ | refine s_op ?_ ?_ | exact True.intro) | ((with_reducible first | refine dw_reg0 ?_ | refine dw_regB ?_); (conv => arg 3; whnf)) | (refine Spl.go (fun hq he => ?_) (fun hq he => ?_) <;> first | (exfalso; clear hq; omega) | ((try (first | (conv => arg 8; simp only [hq]) | (conv => arg 4; simp only [hq]))); clear hq)) | ((with_reducible first | refine c_split (fun hq => ?_) (fun hq => ?_) | refine q_split (fun hq => ?_) (fun hq => ?_)) <;> (try (first | (conv => arg 8; simp only [hq]) | (conv => arg 4; simp only [hq])))) | (with_reducible refine fin_0 ?_ (by first | rfl | (conv => lhs; simp only [go_sem])) ?_) | exact Sub.refl _ | omega)
          exact sub_iff ⟨fun _ => hfv.2 (upto0 (P := fun _ e => (1 ≤ ns.sum ∧ ns.sum ≤ 6) ∧ eOk e ns.sum 8) hJ), fun _ => rfl⟩
/-- The width of a plan whose kids fit. -/
def fromV (p : Pl) (ns : List Int) : Int := if p.k = 3 then p.es.length else if p.k = 4 ∨ p.k = 5 then ns.sum else if p.k = 8 then p.cs.length + 1 else ns.getD 0 0
theorem widthFrom_ok (p : Pl) (ns : List Int) (hl : ns.length ≤ 1000) (hc : p.cs.length ≤ 1048576) (hn : ∀ (j : Nat) (x : Int), ns[j]? = some x → 0 ≤ x ∧ x ≤ 6) (h0 : 0 < ns.length) : Does Try.prog 58 [] [pD p, intsD ns] (I (fromV p ns)) [] := by
  obtain ⟨n0, e0, g0⟩ := get_ex h0
  have hs := sumOf_ok ns hl hn
  unfold fromV
  rw [g0]
  by_cases h3 : p.k = 3
  · rw [if_pos h3]
    refine does0 c_impl_widthFrom mixed (Nat.le_of_ble_eq_true rfl) ?_
    conv => arg 3; whnf
    repeat' (first | with_reducible refine acc_none ?_ | (conv in hold _ => simp (disch := omega) only [go_sem]) | refine Stp.go ?_ | (with_reducible first | refine it_pos rfl ?_ | refine it_neg (by decide) ?_ | refine st_nil rfl ?_ | refine s_op ?_ ?_ | exact True.intro) | ((with_reducible first | refine dw_reg0 ?_ | refine dw_regB ?_); (conv => arg 3; whnf)) | (refine Spl.go (fun hq he => ?_) (fun hq he => ?_) <;> first | (exfalso; clear hq; omega) | ((try (first | (conv => arg 8; simp only [hq]) | (conv => arg 4; simp only [hq]))); clear hq)) | ((with_reducible first | refine c_split (fun hq => ?_) (fun hq => ?_) | refine q_split (fun hq => ?_) (fun hq => ?_)) <;> (try (first | (conv => arg 8; simp only [hq]) | (conv => arg 4; simp only [hq])))) | (with_reducible refine fin_0 ?_ (by first | rfl | (conv => lhs; simp only [go_sem])) ?_) | exact Sub.refl _ | omega)
  · rw [if_neg h3]
    by_cases h4 : p.k = 4 ∨ p.k = 5
    · rw [if_pos h4]
      refine does0 c_impl_widthFrom mixed (Nat.le_of_ble_eq_true rfl) ?_
      conv => arg 3; whnf
      repeat' (first | with_reducible refine acc_none ?_ | (conv in hold _ => simp (disch := omega) only [go_sem]) | refine Stp.go ?_ | (with_reducible first | refine it_pos rfl ?_ | refine it_neg (by decide) ?_ | refine st_nil rfl ?_ | refine s_op ?_ ?_ | exact True.intro) | ((with_reducible first | refine dw_reg0 ?_ | refine dw_regB ?_); (conv => arg 3; whnf)) | (refine Spl.go (fun hq he => ?_) (fun hq he => ?_) <;> first | (exfalso; clear hq; omega) | ((try (first | (conv => arg 8; simp only [hq]) | (conv => arg 4; simp only [hq]))); clear hq)) | ((with_reducible first | refine c_split (fun hq => ?_) (fun hq => ?_) | refine q_split (fun hq => ?_) (fun hq => ?_)) <;> (try (first | (conv => arg 8; simp only [hq]) | (conv => arg 4; simp only [hq])))) | (with_reducible refine fin_0 ?_ (by first | rfl | (conv => lhs; simp only [go_sem])) ?_) | exact Sub.refl _ | omega)
      all_goals
        refine c_doesE (hs) ?_ ?_ ?_
        · ((try (conv => rhs; simp (disch := omega) only [go_sem])); try rfl)
        · first | rfl | (conv => lhs; simp only [go_sem])
        repeat' (first | with_reducible refine acc_none ?_ | (conv in hold _ => simp (disch := omega) only [go_sem]) | refine Stp.go ?_ | (with_reducible first | refine it_pos rfl ?_ | refine it_neg (by decide) ?_ | refine st_nil rfl ?_ | refine s_op ?_ ?_ | exact True.intro) | ((with_reducible first | refine dw_reg0 ?_ | refine dw_regB ?_); (conv => arg 3; whnf)) | (refine Spl.go (fun hq he => ?_) (fun hq he => ?_) <;> first | (exfalso; clear hq; omega) | ((try (first | (conv => arg 8; simp only [hq]) | (conv => arg 4; simp only [hq]))); clear hq)) | ((with_reducible first | refine c_split (fun hq => ?_) (fun hq => ?_) | refine q_split (fun hq => ?_) (fun hq => ?_)) <;> (try (first | (conv => arg 8; simp only [hq]) | (conv => arg 4; simp only [hq])))) | (with_reducible refine fin_0 ?_ (by first | rfl | (conv => lhs; simp only [go_sem])) ?_) | exact Sub.refl _ | omega)
    · rw [if_neg h4]
      by_cases h8 : p.k = 8
      · rw [if_pos h8]
        refine does0 c_impl_widthFrom mixed (Nat.le_of_ble_eq_true rfl) ?_
        conv => arg 3; whnf
        repeat' (first | with_reducible refine acc_none ?_ | (conv in hold _ => simp (disch := omega) only [go_sem]) | refine Stp.go ?_ | (with_reducible first | refine it_pos rfl ?_ | refine it_neg (by decide) ?_ | refine st_nil rfl ?_ | refine s_op ?_ ?_ | exact True.intro) | ((with_reducible first | refine dw_reg0 ?_ | refine dw_regB ?_); (conv => arg 3; whnf)) | (refine Spl.go (fun hq he => ?_) (fun hq he => ?_) <;> first | (exfalso; clear hq; omega) | ((try (first | (conv => arg 8; simp only [hq]) | (conv => arg 4; simp only [hq]))); clear hq)) | ((with_reducible first | refine c_split (fun hq => ?_) (fun hq => ?_) | refine q_split (fun hq => ?_) (fun hq => ?_)) <;> (try (first | (conv => arg 8; simp only [hq]) | (conv => arg 4; simp only [hq])))) | (with_reducible refine fin_0 ?_ (by first | rfl | (conv => lhs; simp only [go_sem])) ?_) | exact Sub.refl _ | omega)
      · rw [if_neg h8]
        refine does0 c_impl_widthFrom mixed (Nat.le_of_ble_eq_true rfl) ?_
        conv => arg 3; whnf
        repeat' (first | with_reducible refine acc_none ?_ | (conv in hold _ => simp (disch := omega) only [go_sem, List.getElem?_map, e0, Option.map_some]) | refine Stp.go ?_ | (with_reducible first | refine it_pos rfl ?_ | refine it_neg (by decide) ?_ | refine st_nil rfl ?_ | refine s_op ?_ ?_ | exact True.intro) | ((with_reducible first | refine dw_reg0 ?_ | refine dw_regB ?_); (conv => arg 3; whnf)) | (refine Spl.go (fun hq he => ?_) (fun hq he => ?_) <;> first | (exfalso; clear hq; omega) | ((try (first | (conv => arg 8; simp only [hq]) | (conv => arg 4; simp only [hq]))); clear hq)) | ((with_reducible first | refine c_split (fun hq => ?_) (fun hq => ?_) | refine q_split (fun hq => ?_) (fun hq => ?_)) <;> (try (first | (conv => arg 8; simp only [hq]) | (conv => arg 4; simp only [hq])))) | (with_reducible refine fin_0 ?_ (by first | rfl | (conv => lhs; simp only [go_sem, List.getElem?_map, e0, Option.map_some])) ?_) | exact Sub.refl _ | omega)
end Go.Proofs.Ytpfedjaedlfdfaa
set_option maxHeartbeats 4000000
set_option maxRecDepth 100000
namespace Go.Proofs.Ytpfedjaedlfdfaa
open Go.RowKit

/-- A kid without a width. -/
def zeroIn (ns : List Int) : Prop := ∃ j : Nat, ns[j]? = some (0 : Int)
noncomputable instance zeroDec (ns : List Int) : Decidable (zeroIn ns) := Classical.propDecidable _
noncomputable instance resDec (p : Pl) (ns : List Int) : Decidable (fieldsI p ∧ fitsV p ns) := Classical.propDecidable _
/-- The width of a plan, out of those of its kids. -/
noncomputable def resV (p : Pl) (ns : List Int) : Int := if zeroIn ns then 0 else if fieldsI p ∧ fitsV p ns then fromV p ns else 0
theorem resV_z {p : Pl} {ns : List Int} (h : zeroIn ns) : resV p ns = 0 := if_pos h
theorem resV_t {p : Pl} {ns : List Int} (h : ¬ zeroIn ns) (h1 : fieldsI p) (h2 : fitsV p ns) : resV p ns = fromV p ns := by unfold resV; rw [if_neg h, if_pos ⟨h1, h2⟩]
theorem resV_f {p : Pl} {ns : List Int} (h2 : ¬ (fieldsI p ∧ fitsV p ns)) : resV p ns = 0 := by
  unfold resV
  by_cases hz : zeroIn ns
  · rw [if_pos hz]
  · rw [if_neg hz, if_neg h2]
theorem widthWithin_main (p : Pl) (ws : List Int) (d : Nat) (hd : d < 1000) (hf : fieldsI p) (hk : ¬ p.k = 1) (hc : p.cs.length ≤ 1048576) (he : p.es.length ≤ 1048576) (ns : List Int) (hl : ns.length = p.ks.length) (hn : ∀ (j : Nat) (x : Int), ns[j]? = some x → 0 ≤ x ∧ x ≤ 6)
    (hB : ∀ (i : Nat) (x : Pl) (n : Int), p.ks[i]? = some x → ns[i]? = some n → Does Try.prog 36 [] [pD x, intsD ws, I ((d : Int) - 1)] (I n) []) : Does Try.prog 36 [] [pD p, intsD ws, I d] (I (resV p ns)) [] := by
  have ho := hasOwnFields_ok p
  rw [decide_eq_true hf] at ho
  have hf1 := hf.1
  have hks : 1 ≤ p.ks.length ∧ p.ks.length ≤ 2 := by unfold fields at hf1; omega
  have hk6 : p.k = 6 → 1 < ns.length := by unfold fields at hf1; omega
  have hfit := fitsKids_ok p ns (by omega) hc he hn (by omega) hk6
  have hfrom := widthFrom_ok p ns (by omega) hc hn (by omega)
  refine does0 c_impl_widthWithin mixed (Nat.le_of_ble_eq_true rfl) ?_
  conv => arg 3; whnf
  repeat' (first
    | with_reducible refine acc_none ?_ | (conv in hold _ => simp (disch := omega) only [go_sem]) | refine Stp.go ?_ | (with_reducible first | refine it_pos rfl ?_ | refine it_neg (by decide) ?_ | refine st_nil rfl ?_ | refine s_op ?_ ?_ | exact True.intro) | ((with_reducible first | refine dw_reg0 ?_ | refine dw_regB ?_); (conv => arg 3; whnf)) | (refine Spl.go (fun hq he => ?_) (fun hq he => ?_) <;> first | (exfalso; clear hq; omega) | ((try (first | (conv => arg 8; simp only [hq]) | (conv => arg 4; simp only [hq]))); clear hq)) | ((with_reducible first | refine c_split (fun hq => ?_) (fun hq => ?_) | refine q_split (fun hq => ?_) (fun hq => ?_)) <;> (try (first | (conv => arg 8; simp only [hq]) | (conv => arg 4; simp only [hq])))) | (with_reducible refine fin_0 ?_ (by first | rfl | (conv => lhs; simp only [go_sem])) ?_)
    | (with_reducible show evC _ _ _ _ _ _ _ _ _ _ _ _
       first
       | (refine c_doesE (ho) ?_ ?_ ?_
          · ((try (conv => rhs; simp (disch := omega) only [go_sem])); try rfl)
          · first | rfl | (conv => lhs; simp only [go_sem])))
    | exact Sub.refl _ | omega)
  refine dw_for (c := 2) (l := fun i => [(1, intsD ws), (2, I d), (3, .ref 1000000 0), (7, .own 1000001 1 i), (37, .sl 5 (p.ks.map pD)), (38, I p.ks.length), (39, I i), (1000000, .obj [I p.k, I p.t, .sl 5 (p.es.map eD), intsD p.cs, .sl 5 (p.ks.map pD)]), (1000001, .row 1 ((ns.take i).map I))]) p.ks.length (fun i => ∀ (j : Nat) (n : Int), j < i → ns[j]? = some n → ¬ n = 0) 0 (fun j n hj => by omega) ((wk_row 7 2000053 1 (by decide) (by decide) rfl rfl).trans (Wk.list [2000003, 2000053] rfl rfl ?_)) (fun i hi hJ => ?_) (Nat.zero_le _)
  · repeat' (first | (conv in hold _ => simp (disch := omega) only [go_sem]) | exact True.intro | exact Sub.refl _ | omega)
    exact rfl
  · have hlt := take_len (vs := ns) (i := i) (by omega)
    have hmt := take_map I (vs := ns) (i := i) (by omega)
    by_cases hil : i < p.ks.length
    · obtain ⟨x, hx⟩ : ∃ x, p.ks[i]? = some x := ⟨_, List.getElem?_eq_getElem hil⟩
      obtain ⟨n, hnx, _⟩ := get_ex (ns := ns) (i := i) (by omega)
      have hix := hB i x n hx hnx
      have htn := take_next hnx
      by_cases hn0 : n = 0
      · rw [resV_z ⟨i, by rw [hnx, hn0]⟩]
        repeat' (first
          | with_reducible refine acc_none ?_ | (conv in hold _ => simp (disch := omega) only [go_sem, List.getElem?_map, hx, Option.map_some]) | refine Stp.go ?_ | (with_reducible first | refine it_pos rfl ?_ | refine it_neg (by decide) ?_ | refine st_nil rfl ?_ | refine s_op ?_ ?_ | exact True.intro) | ((with_reducible first | refine dw_reg0 ?_ | refine dw_regB ?_); (conv => arg 3; whnf)) | (refine Spl.go (fun hq he => ?_) (fun hq he => ?_) <;> first | (exfalso; clear hq; omega) | ((try (first | (conv => arg 8; simp only [hq]) | (conv => arg 4; simp only [hq]))); clear hq)) | ((with_reducible first | refine c_split (fun hq => ?_) (fun hq => ?_) | refine q_split (fun hq => ?_) (fun hq => ?_)) <;> (try (first | (conv => arg 8; simp only [hq]) | (conv => arg 4; simp only [hq])))) | (with_reducible refine fin_0 ?_ (by first | rfl | (conv => lhs; simp only [go_sem, List.getElem?_map, hx, Option.map_some])) ?_)
          | (with_reducible show evC _ _ _ _ _ _ _ _ _ _ _ _
             first
             | (refine c_doesE (hix) ?_ ?_ ?_
                · ((try (conv => rhs; simp (disch := omega) only [go_sem, List.getElem?_map, hx, Option.map_some])); try rfl)
                · first | rfl | (conv => lhs; simp only [go_sem, List.getElem?_map, hx, Option.map_some])))
          | exact Sub.refl _ | omega)
      · repeat' (first
          | with_reducible refine acc_none ?_ | (conv in hold _ => simp (disch := omega) only [go_sem, List.getElem?_map, hx, Option.map_some]) | refine Stp.go ?_ | (with_reducible first | refine it_pos rfl ?_ | refine it_neg (by decide) ?_ | refine st_nil rfl ?_ | refine s_op ?_ ?_ | exact True.intro) | ((with_reducible first | refine dw_reg0 ?_ | refine dw_regB ?_); (conv => arg 3; whnf)) | (refine Spl.go (fun hq he => ?_) (fun hq he => ?_) <;> first | (exfalso; clear hq; omega) | ((try (first | (conv => arg 8; simp only [hq]) | (conv => arg 4; simp only [hq]))); clear hq)) | ((with_reducible first | refine c_split (fun hq => ?_) (fun hq => ?_) | refine q_split (fun hq => ?_) (fun hq => ?_)) <;> (try (first | (conv => arg 8; simp only [hq]) | (conv => arg 4; simp only [hq])))) | (with_reducible refine fin_0 ?_ (by first | rfl | (conv => lhs; simp only [go_sem, List.getElem?_map, hx, Option.map_some])) ?_)
          | (with_reducible show evC _ _ _ _ _ _ _ _ _ _ _ _
             first
             | (refine c_doesE (hix) ?_ ?_ ?_
                · ((try (conv => rhs; simp (disch := omega) only [go_sem, List.getElem?_map, hx, Option.map_some])); try rfl)
                · first | rfl | (conv => lhs; simp only [go_sem, List.getElem?_map, hx, Option.map_some])))
          | exact Sub.refl _ | omega)
        refine ⟨hil, upto1 (P := fun _ n => ¬ n = 0) hnx hn0 hJ, Wk.list [1000000, 2000053] rfl rfl ?_⟩
        repeat' (first | (conv in hold _ => simp (disch := omega) only [go_sem]) | exact True.intro | exact Sub.refl _ | omega)
        rw [hmt, htn, List.map_append, List.map_cons, List.map_nil]
    · obtain rfl : i = p.ks.length := by omega
      have hz : ¬ zeroIn ns := fun ⟨j, hj⟩ => hJ j 0 (by rw [← hl]; exact (List.getElem?_eq_some_iff.1 hj).1) hj rfl
      have e1 : ns.take p.ks.length = ns := List.take_of_length_le (by omega)
      have e2 : (ns.map I).take p.ks.length = ns.map I := List.take_of_length_le (by rw [List.length_map]; omega)
      by_cases hv : fitsV p ns
      · rw [decide_eq_true hv] at hfit
        rw [resV_t hz hf hv]
        repeat' ((fail_if_success (with_reducible first | refine s_call ?_ | refine s_cal ?_ | refine s_inv ?_)); first | with_reducible refine acc_none ?_ | (conv in hold _ => simp (disch := omega) only [go_sem, e1]) | refine Stp.go ?_ | (with_reducible first | refine it_pos rfl ?_ | refine it_neg (by decide) ?_ | refine st_nil rfl ?_ | refine s_op ?_ ?_ | exact True.intro) | ((with_reducible first | refine dw_reg0 ?_ | refine dw_regB ?_); (conv => arg 3; whnf)) | (refine Spl.go (fun hq he => ?_) (fun hq he => ?_) <;> first | (exfalso; clear hq; omega) | ((try (first | (conv => arg 8; simp only [hq]) | (conv => arg 4; simp only [hq]))); clear hq)) | ((with_reducible first | refine c_split (fun hq => ?_) (fun hq => ?_) | refine q_split (fun hq => ?_) (fun hq => ?_)) <;> (try (first | (conv => arg 8; simp only [hq]) | (conv => arg 4; simp only [hq])))) | (with_reducible refine fin_0 ?_ (by first | rfl | (conv => lhs; simp only [go_sem, e1])) ?_) | exact Sub.refl _ | omega)
        refine s_pre (pre_frz2 (t := 56) (u := 7) (g := 1000001) (by decide) (by decide) (by decide) rfl ?_) ?_
        rotate_left
        repeat' (first | with_reducible refine acc_none ?_ | (conv in hold _ => simp (disch := omega) only [go_sem, e1, e2, hl, Nat.le_refl]) | refine Stp.go ?_ | (with_reducible first | refine it_pos rfl ?_ | refine it_neg (by decide) ?_ | refine st_nil rfl ?_ | refine s_op ?_ ?_ | exact True.intro) | ((with_reducible first | refine dw_reg0 ?_ | refine dw_regB ?_); (conv => arg 3; whnf)) | (refine Spl.go (fun hq he => ?_) (fun hq he => ?_) <;> first | (exfalso; clear hq; omega) | ((try (first | (conv => arg 8; simp only [hq]) | (conv => arg 4; simp only [hq]))); clear hq)) | ((with_reducible first | refine c_split (fun hq => ?_) (fun hq => ?_) | refine q_split (fun hq => ?_) (fun hq => ?_)) <;> (try (first | (conv => arg 8; simp only [hq]) | (conv => arg 4; simp only [hq])))) | (with_reducible refine fin_0 ?_ (by first | rfl | (conv => lhs; simp only [go_sem, e1, e2, hl, Nat.le_refl])) ?_) | exact Sub.refl _ | omega)
        · refine c_doesE (hfit) ?_ ?_ ?_
          · ((try (conv => rhs; simp (disch := omega) only [go_sem])); try rfl)
          · first | rfl | (conv => lhs; simp only [go_sem])
          repeat' (first
            | with_reducible refine acc_none ?_ | (conv in hold _ => simp (disch := omega) only [go_sem]) | refine Stp.go ?_ | (with_reducible first | refine it_pos rfl ?_ | refine it_neg (by decide) ?_ | refine st_nil rfl ?_ | refine s_op ?_ ?_ | exact True.intro) | ((with_reducible first | refine dw_reg0 ?_ | refine dw_regB ?_); (conv => arg 3; whnf)) | (refine Spl.go (fun hq he => ?_) (fun hq he => ?_) <;> first | (exfalso; clear hq; omega) | ((try (first | (conv => arg 8; simp only [hq]) | (conv => arg 4; simp only [hq]))); clear hq)) | ((with_reducible first | refine c_split (fun hq => ?_) (fun hq => ?_) | refine q_split (fun hq => ?_) (fun hq => ?_)) <;> (try (first | (conv => arg 8; simp only [hq]) | (conv => arg 4; simp only [hq])))) | (with_reducible refine fin_0 ?_ (by first | rfl | (conv => lhs; simp only [go_sem])) ?_)
            | (with_reducible show evC _ _ _ _ _ _ _ _ _ _ _ _
               first
               | (refine c_doesE (hfrom) ?_ ?_ ?_
                  · ((try (conv => rhs; simp (disch := omega) only [go_sem])); try rfl)
                  · first | rfl | (conv => lhs; simp only [go_sem])))
            | exact Sub.refl _ | omega)
        · exact ints_pur _
      · rw [decide_eq_false hv] at hfit
        rw [resV_f (fun h => hv h.2)]
        repeat' ((fail_if_success (with_reducible first | refine s_call ?_ | refine s_cal ?_ | refine s_inv ?_)); first | with_reducible refine acc_none ?_ | (conv in hold _ => simp (disch := omega) only [go_sem, e1]) | refine Stp.go ?_ | (with_reducible first | refine it_pos rfl ?_ | refine it_neg (by decide) ?_ | refine st_nil rfl ?_ | refine s_op ?_ ?_ | exact True.intro) | ((with_reducible first | refine dw_reg0 ?_ | refine dw_regB ?_); (conv => arg 3; whnf)) | (refine Spl.go (fun hq he => ?_) (fun hq he => ?_) <;> first | (exfalso; clear hq; omega) | ((try (first | (conv => arg 8; simp only [hq]) | (conv => arg 4; simp only [hq]))); clear hq)) | ((with_reducible first | refine c_split (fun hq => ?_) (fun hq => ?_) | refine q_split (fun hq => ?_) (fun hq => ?_)) <;> (try (first | (conv => arg 8; simp only [hq]) | (conv => arg 4; simp only [hq])))) | (with_reducible refine fin_0 ?_ (by first | rfl | (conv => lhs; simp only [go_sem, e1])) ?_) | exact Sub.refl _ | omega)
        refine s_pre (pre_frz2 (t := 56) (u := 7) (g := 1000001) (by decide) (by decide) (by decide) rfl ?_) ?_
        rotate_left
        repeat' (first | with_reducible refine acc_none ?_ | (conv in hold _ => simp (disch := omega) only [go_sem, e1, e2, hl, Nat.le_refl]) | refine Stp.go ?_ | (with_reducible first | refine it_pos rfl ?_ | refine it_neg (by decide) ?_ | refine st_nil rfl ?_ | refine s_op ?_ ?_ | exact True.intro) | ((with_reducible first | refine dw_reg0 ?_ | refine dw_regB ?_); (conv => arg 3; whnf)) | (refine Spl.go (fun hq he => ?_) (fun hq he => ?_) <;> first | (exfalso; clear hq; omega) | ((try (first | (conv => arg 8; simp only [hq]) | (conv => arg 4; simp only [hq]))); clear hq)) | ((with_reducible first | refine c_split (fun hq => ?_) (fun hq => ?_) | refine q_split (fun hq => ?_) (fun hq => ?_)) <;> (try (first | (conv => arg 8; simp only [hq]) | (conv => arg 4; simp only [hq])))) | (with_reducible refine fin_0 ?_ (by first | rfl | (conv => lhs; simp only [go_sem, e1, e2, hl, Nat.le_refl])) ?_) | exact Sub.refl _ | omega)
        · refine c_doesE (hfit) ?_ ?_ ?_
          · ((try (conv => rhs; simp (disch := omega) only [go_sem])); try rfl)
          · first | rfl | (conv => lhs; simp only [go_sem])
          repeat' (first | with_reducible refine acc_none ?_ | (conv in hold _ => simp (disch := omega) only [go_sem]) | refine Stp.go ?_ | (with_reducible first | refine it_pos rfl ?_ | refine it_neg (by decide) ?_ | refine st_nil rfl ?_ | refine s_op ?_ ?_ | exact True.intro) | ((with_reducible first | refine dw_reg0 ?_ | refine dw_regB ?_); (conv => arg 3; whnf)) | (refine Spl.go (fun hq he => ?_) (fun hq he => ?_) <;> first | (exfalso; clear hq; omega) | ((try (first | (conv => arg 8; simp only [hq]) | (conv => arg 4; simp only [hq]))); clear hq)) | ((with_reducible first | refine c_split (fun hq => ?_) (fun hq => ?_) | refine q_split (fun hq => ?_) (fun hq => ?_)) <;> (try (first | (conv => arg 8; simp only [hq]) | (conv => arg 4; simp only [hq])))) | (with_reducible refine fin_0 ?_ (by first | rfl | (conv => lhs; simp only [go_sem])) ?_) | exact Sub.refl _ | omega)
        · exact ints_pur _
end Go.Proofs.Ytpfedjaedlfdfaa
