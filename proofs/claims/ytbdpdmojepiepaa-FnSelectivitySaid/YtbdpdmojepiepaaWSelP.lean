/-
  The law that selectivities are permilles. No condition.
-/
import Derived.Test.YtbdpdmojepiepaaVSelB
import Derived.Test.YtbdpdmojepiepaaVDrawQ
import Derived.Test.YtbdpdmojepiepaaVCond
import Derived.Test.YtbdpdmojepiepaaVLaw
import Derived.Test.YtbdpdmojepiepaaDc17
set_option maxHeartbeats 4000000
set_option maxRecDepth 100000
set_option linter.unusedVariables false
set_option linter.unusedSimpArgs false
namespace Go.Proofs.Ytbdpdmojepiepaa
open Go.RowKit

theorem not1_ok {a : E} {w : Int} {d : Nat} (hd : d ≠ 0) : eOk (.mk 10 0 ⟨false, 0⟩ [a]) w d ↔ eOk a w (d - 1) := by
  rw [eOk_iff]
  constructor
  · exact fun h => h.2.2.1 a (List.mem_cons_self ..)
  · intro h
    refine ⟨rfl, fun _ => hd, fun x hx => ?_, rfl, rfl, rfl⟩
    obtain rfl := List.mem_singleton.1 hx
    exact h
theorem and2_ok {a : E} {w : Int} {d : Nat} (hd : d ≠ 0) : eOk (.mk 8 0 ⟨false, 0⟩ [a, a]) w d ↔ eOk a w (d - 1) := by
  rw [eOk_iff]
  constructor
  · exact fun h => h.2.2.1 a (List.mem_cons_self ..)
  · intro h
    refine ⟨rfl, fun _ => hd, fun x hx => ?_, rfl, rfl, rfl⟩
    rcases List.mem_cons.1 hx with rfl | hx
    · exact h
    · obtain rfl := List.mem_singleton.1 hx
      exact h
theorem two1_ok (k : Int) (a b : E) : Does Try.prog 17 [] [I k, eD a, eD b] (eD (.mk k 0 ⟨false, 0⟩ [a, b])) [] := by
  refine does0 c_laws_two mixed (Nat.le_of_ble_eq_true rfl) ?_
  conv => arg 3; whnf
  repeat' (first
    | with_reducible refine acc_none ?_
    | (conv in hold _ => simp (disch := omega) only [go_sem])
    | refine Stp.go ?_
    | with_reducible first | refine it_pos rfl ?_ | refine it_neg (by decide) ?_ | refine st_nil rfl ?_ | refine s_op ?_ ?_ | exact True.intro
    | ((with_reducible first | refine dw_reg0 ?_ | refine dw_regB ?_); (conv => arg 3; whnf))
    | (refine Spl.go (fun hq he => ?_) (fun hq he => ?_) <;> first | (exfalso; clear hq; omega) | ((try (first | (conv => arg 8; simp only [hq]) | (conv => arg 4; simp only [hq]))); clear hq))
    | ((with_reducible first | refine c_split (fun hq => ?_) (fun hq => ?_) | refine q_split (fun hq => ?_) (fun hq => ?_)) <;> (try (first | (conv => arg 8; simp only [hq]) | (conv => arg 4; simp only [hq]))))
    | (with_reducible refine fin_0 ?_ (by first | rfl | (conv => lhs; simp only [go_sem])) ?_)
    | exact Sub.refl _
    | omega)
theorem not1_expr (a : E) : Does Try.prog 16 [] [eD a] (eD (.mk 10 0 ⟨false, 0⟩ [a])) [] := by
  refine does0 c_laws_not mixed (Nat.le_of_ble_eq_true rfl) ?_
  conv => arg 3; whnf
  repeat' (first
    | with_reducible refine acc_none ?_
    | (conv in hold _ => simp (disch := omega) only [go_sem])
    | refine Stp.go ?_
    | with_reducible first | refine it_pos rfl ?_ | refine it_neg (by decide) ?_ | refine st_nil rfl ?_ | refine s_op ?_ ?_ | exact True.intro
    | ((with_reducible first | refine dw_reg0 ?_ | refine dw_regB ?_); (conv => arg 3; whnf))
    | (refine Spl.go (fun hq he => ?_) (fun hq he => ?_) <;> first | (exfalso; clear hq; omega) | ((try (first | (conv => arg 8; simp only [hq]) | (conv => arg 4; simp only [hq]))); clear hq))
    | ((with_reducible first | refine c_split (fun hq => ?_) (fun hq => ?_) | refine q_split (fun hq => ?_) (fun hq => ?_)) <;> (try (first | (conv => arg 8; simp only [hq]) | (conv => arg 4; simp only [hq]))))
    | (with_reducible refine fin_0 ?_ (by first | rfl | (conv => lhs; simp only [go_sem])) ?_)
    | exact Sub.refl _
    | omega)
theorem Sel_no (e : E) (s : St) (hd : s.ds.length ≤ 1048576) (h : ¬ (((1 ≤ (s.ds.length : Int) ∧ (s.ds.length : Int) ≤ 6) ∧ stIn s s.ds.length) ∧ eOk e s.ds.length 8)) : Does Try.prog 15 [] [eD e, stD s] (I (-1)) [] ∧ Does Try.prog 14 [] [eD e, stD s] (I (-1)) [] := by
  have h1 := ValidStats_spec s s.ds.length
  have h2 := ValidStats_impl s s.ds.length
  by_cases hs : (1 ≤ (s.ds.length : Int) ∧ (s.ds.length : Int) ≤ 6) ∧ stIn s s.ds.length
  · rw [decide_eq_true hs] at h1 h2
    have h3 := ValidExpr_ok e s.ds.length (by omega)
    have h4 := implValidExpr_ok e s.ds.length
    rw [decide_eq_false (fun he => h ⟨hs, he.2⟩)] at h3 h4
    refine ⟨?_, ?_⟩
    · refine does0 c_spec_Selectivity mixed (Nat.le_of_ble_eq_true rfl) ?_
      conv => arg 3; whnf
      repeat' (first
        | with_reducible refine acc_none ?_
        | (conv in hold _ => simp (disch := omega) only [go_sem, stD, intsD])
        | refine Stp.go ?_
        | with_reducible first | refine it_pos rfl ?_ | refine it_neg (by decide) ?_ | refine st_nil rfl ?_ | refine s_op ?_ ?_ | exact True.intro
        | ((with_reducible first | refine dw_reg0 ?_ | refine dw_regB ?_); (conv => arg 3; whnf))
        | (refine Spl.go (fun hq he => ?_) (fun hq he => ?_) <;> first | (exfalso; clear hq; omega) | ((try (first | (conv => arg 8; simp only [hq]) | (conv => arg 4; simp only [hq]))); clear hq))
        | ((with_reducible first | refine c_split (fun hq => ?_) (fun hq => ?_) | refine q_split (fun hq => ?_) (fun hq => ?_)) <;> (try (first | (conv => arg 8; simp only [hq]) | (conv => arg 4; simp only [hq]))))
        | (with_reducible refine fin_0 ?_ (by first | rfl | (conv => lhs; simp only [go_sem, stD, intsD])) ?_)
        | (with_reducible show evC _ _ _ _ _ _ _ _ _ _ _ _
           first
           | (refine c_doesE (h1) ?_ ?_ ?_
              · ((try (conv => rhs; simp (disch := omega) only [go_sem, stD, intsD])); try rfl)
              · first | rfl | (conv => lhs; simp only [go_sem, stD, intsD]))
           | (refine c_doesE (h3) ?_ ?_ ?_
              · ((try (conv => rhs; simp (disch := omega) only [go_sem, stD, intsD])); try rfl)
              · first | rfl | (conv => lhs; simp only [go_sem, stD, intsD])))
        | exact Sub.refl _
        | omega)
    · refine does0 c_impl_Selectivity mixed (Nat.le_of_ble_eq_true rfl) ?_
      conv => arg 3; whnf
      repeat' (first
        | with_reducible refine acc_none ?_
        | (conv in hold _ => simp (disch := omega) only [go_sem, stD, intsD])
        | refine Stp.go ?_
        | with_reducible first | refine it_pos rfl ?_ | refine it_neg (by decide) ?_ | refine st_nil rfl ?_ | refine s_op ?_ ?_ | exact True.intro
        | ((with_reducible first | refine dw_reg0 ?_ | refine dw_regB ?_); (conv => arg 3; whnf))
        | (refine Spl.go (fun hq he => ?_) (fun hq he => ?_) <;> first | (exfalso; clear hq; omega) | ((try (first | (conv => arg 8; simp only [hq]) | (conv => arg 4; simp only [hq]))); clear hq))
        | ((with_reducible first | refine c_split (fun hq => ?_) (fun hq => ?_) | refine q_split (fun hq => ?_) (fun hq => ?_)) <;> (try (first | (conv => arg 8; simp only [hq]) | (conv => arg 4; simp only [hq]))))
        | (with_reducible refine fin_0 ?_ (by first | rfl | (conv => lhs; simp only [go_sem, stD, intsD])) ?_)
        | (with_reducible show evC _ _ _ _ _ _ _ _ _ _ _ _
           first
           | (refine c_doesE (h2) ?_ ?_ ?_
              · ((try (conv => rhs; simp (disch := omega) only [go_sem, stD, intsD])); try rfl)
              · first | rfl | (conv => lhs; simp only [go_sem, stD, intsD]))
           | (refine c_doesE (h4) ?_ ?_ ?_
              · ((try (conv => rhs; simp (disch := omega) only [go_sem, stD, intsD])); try rfl)
              · first | rfl | (conv => lhs; simp only [go_sem, stD, intsD])))
        | exact Sub.refl _
        | omega)
  · rw [decide_eq_false hs] at h1 h2
    refine ⟨?_, ?_⟩
    · refine does0 c_spec_Selectivity mixed (Nat.le_of_ble_eq_true rfl) ?_
      conv => arg 3; whnf
      repeat' (first
        | with_reducible refine acc_none ?_
        | (conv in hold _ => simp (disch := omega) only [go_sem, stD, intsD])
        | refine Stp.go ?_
        | with_reducible first | refine it_pos rfl ?_ | refine it_neg (by decide) ?_ | refine st_nil rfl ?_ | refine s_op ?_ ?_ | exact True.intro
        | ((with_reducible first | refine dw_reg0 ?_ | refine dw_regB ?_); (conv => arg 3; whnf))
        | (refine Spl.go (fun hq he => ?_) (fun hq he => ?_) <;> first | (exfalso; clear hq; omega) | ((try (first | (conv => arg 8; simp only [hq]) | (conv => arg 4; simp only [hq]))); clear hq))
        | ((with_reducible first | refine c_split (fun hq => ?_) (fun hq => ?_) | refine q_split (fun hq => ?_) (fun hq => ?_)) <;> (try (first | (conv => arg 8; simp only [hq]) | (conv => arg 4; simp only [hq]))))
        | (with_reducible refine fin_0 ?_ (by first | rfl | (conv => lhs; simp only [go_sem, stD, intsD])) ?_)
        | (with_reducible show evC _ _ _ _ _ _ _ _ _ _ _ _
           first
           | (refine c_doesE (h1) ?_ ?_ ?_
              · ((try (conv => rhs; simp (disch := omega) only [go_sem, stD, intsD])); try rfl)
              · first | rfl | (conv => lhs; simp only [go_sem, stD, intsD])))
        | exact Sub.refl _
        | omega)
    · refine does0 c_impl_Selectivity mixed (Nat.le_of_ble_eq_true rfl) ?_
      conv => arg 3; whnf
      repeat' (first
        | with_reducible refine acc_none ?_
        | (conv in hold _ => simp (disch := omega) only [go_sem, stD, intsD])
        | refine Stp.go ?_
        | with_reducible first | refine it_pos rfl ?_ | refine it_neg (by decide) ?_ | refine st_nil rfl ?_ | refine s_op ?_ ?_ | exact True.intro
        | ((with_reducible first | refine dw_reg0 ?_ | refine dw_regB ?_); (conv => arg 3; whnf))
        | (refine Spl.go (fun hq he => ?_) (fun hq he => ?_) <;> first | (exfalso; clear hq; omega) | ((try (first | (conv => arg 8; simp only [hq]) | (conv => arg 4; simp only [hq]))); clear hq))
        | ((with_reducible first | refine c_split (fun hq => ?_) (fun hq => ?_) | refine q_split (fun hq => ?_) (fun hq => ?_)) <;> (try (first | (conv => arg 8; simp only [hq]) | (conv => arg 4; simp only [hq]))))
        | (with_reducible refine fin_0 ?_ (by first | rfl | (conv => lhs; simp only [go_sem, stD, intsD])) ?_)
        | (with_reducible show evC _ _ _ _ _ _ _ _ _ _ _ _
           first
           | (refine c_doesE (h2) ?_ ?_ ?_
              · ((try (conv => rhs; simp (disch := omega) only [go_sem, stD, intsD])); try rfl)
              · first | rfl | (conv => lhs; simp only [go_sem, stD, intsD])))
        | exact Sub.refl _
        | omega)
theorem Sel_yes (e : E) (s : St) (h : ((1 ≤ (s.ds.length : Int) ∧ (s.ds.length : Int) ≤ 6) ∧ stIn s s.ds.length) ∧ eOk e s.ds.length 8) {n : Int} (hB : Does Try.prog 42 [] [stD s, eD e] (I n) []) : Does Try.prog 14 [] [eD e, stD s] (I n) [] := by
  have h2 := ValidStats_impl s s.ds.length
  have h4 := implValidExpr_ok e s.ds.length
  rw [decide_eq_true h.1] at h2
  rw [decide_eq_true ⟨h.1.1, h.2⟩] at h4
  refine does0 c_impl_Selectivity mixed (Nat.le_of_ble_eq_true rfl) ?_
  conv => arg 3; whnf
  repeat' (first
    | with_reducible refine acc_none ?_
    | (conv in hold _ => simp (disch := omega) only [go_sem, stD, intsD])
    | refine Stp.go ?_
    | with_reducible first | refine it_pos rfl ?_ | refine it_neg (by decide) ?_ | refine st_nil rfl ?_ | refine s_op ?_ ?_ | exact True.intro
    | ((with_reducible first | refine dw_reg0 ?_ | refine dw_regB ?_); (conv => arg 3; whnf))
    | (refine Spl.go (fun hq he => ?_) (fun hq he => ?_) <;> first | (exfalso; clear hq; omega) | ((try (first | (conv => arg 8; simp only [hq]) | (conv => arg 4; simp only [hq]))); clear hq))
    | ((with_reducible first | refine c_split (fun hq => ?_) (fun hq => ?_) | refine q_split (fun hq => ?_) (fun hq => ?_)) <;> (try (first | (conv => arg 8; simp only [hq]) | (conv => arg 4; simp only [hq]))))
    | (with_reducible refine fin_0 ?_ (by first | rfl | (conv => lhs; simp only [go_sem, stD, intsD])) ?_)
    | (with_reducible show evC _ _ _ _ _ _ _ _ _ _ _ _
       first
       | (refine c_doesE (h2) ?_ ?_ ?_
          · ((try (conv => rhs; simp (disch := omega) only [go_sem, stD, intsD])); try rfl)
          · first | rfl | (conv => lhs; simp only [go_sem, stD, intsD]))
       | (refine c_doesE (h4) ?_ ?_ ?_
          · ((try (conv => rhs; simp (disch := omega) only [go_sem, stD, intsD])); try rfl)
          · first | rfl | (conv => lhs; simp only [go_sem, stD, intsD]))
       | (refine c_doesE (hB) ?_ ?_ ?_
          · ((try (conv => rhs; simp (disch := omega) only [go_sem, stD, intsD])); try rfl)
          · first | rfl | (conv => lhs; simp only [go_sem, stD, intsD])))
    | exact Sub.refl _
    | omega)
theorem Sel_spec (e : E) (s : St) (h : ((1 ≤ (s.ds.length : Int) ∧ (s.ds.length : Int) ≤ 6) ∧ stIn s s.ds.length) ∧ eOk e s.ds.length 8) {n : Int} (hA : Does Try.prog 45 [] [eD e, stD s] (I n) []) : Does Try.prog 15 [] [eD e, stD s] (I n) [] := by
  have h1 := ValidStats_spec s s.ds.length
  have h3 := ValidExpr_ok e s.ds.length (by omega)
  rw [decide_eq_true h.1] at h1
  rw [decide_eq_true ⟨h.1.1, h.2⟩] at h3
  refine does0 c_spec_Selectivity mixed (Nat.le_of_ble_eq_true rfl) ?_
  conv => arg 3; whnf
  repeat' (first
    | with_reducible refine acc_none ?_
    | (conv in hold _ => simp (disch := omega) only [go_sem, stD, intsD])
    | refine Stp.go ?_
    | with_reducible first | refine it_pos rfl ?_ | refine it_neg (by decide) ?_ | refine st_nil rfl ?_ | refine s_op ?_ ?_ | exact True.intro
    | ((with_reducible first | refine dw_reg0 ?_ | refine dw_regB ?_); (conv => arg 3; whnf))
    | (refine Spl.go (fun hq he => ?_) (fun hq he => ?_) <;> first | (exfalso; clear hq; omega) | ((try (first | (conv => arg 8; simp only [hq]) | (conv => arg 4; simp only [hq]))); clear hq))
    | ((with_reducible first | refine c_split (fun hq => ?_) (fun hq => ?_) | refine q_split (fun hq => ?_) (fun hq => ?_)) <;> (try (first | (conv => arg 8; simp only [hq]) | (conv => arg 4; simp only [hq]))))
    | (with_reducible refine fin_0 ?_ (by first | rfl | (conv => lhs; simp only [go_sem, stD, intsD])) ?_)
    | (with_reducible show evC _ _ _ _ _ _ _ _ _ _ _ _
       first
       | (refine c_doesE (h1) ?_ ?_ ?_
          · ((try (conv => rhs; simp (disch := omega) only [go_sem, stD, intsD])); try rfl)
          · first | rfl | (conv => lhs; simp only [go_sem, stD, intsD]))
       | (refine c_doesE (h3) ?_ ?_ ?_
          · ((try (conv => rhs; simp (disch := omega) only [go_sem, stD, intsD])); try rfl)
          · first | rfl | (conv => lhs; simp only [go_sem, stD, intsD]))
       | (refine c_doesE (hA) ?_ ?_ ?_
          · ((try (conv => rhs; simp (disch := omega) only [go_sem, stD, intsD])); try rfl)
          · first | rfl | (conv => lhs; simp only [go_sem, stD, intsD])))
    | exact Sub.refl _
    | omega)
theorem sel_not {s : St} {e : E} {n : Int} (hn : 0 ≤ n ∧ n ≤ 1000) (hB : Does Try.prog 42 [] [stD s, eD e] (I n) []) : Does Try.prog 42 [] [stD s, eD (.mk 10 0 ⟨false, 0⟩ [e])] (I (1000 - n)) [] := by
  refine does0 c_impl_Stats_selectivity mixed (Nat.le_of_ble_eq_true rfl) ?_
  conv => arg 3; whnf
  repeat' (first
    | with_reducible refine acc_none ?_
    | (conv in hold _ => simp (disch := omega) only [go_sem, stD, intsD])
    | refine Stp.go ?_
    | with_reducible first | refine it_pos rfl ?_ | refine it_neg (by decide) ?_ | refine st_nil rfl ?_ | refine s_op ?_ ?_ | exact True.intro
    | ((with_reducible first | refine dw_reg0 ?_ | refine dw_regB ?_); (conv => arg 3; whnf))
    | (refine Spl.go (fun hq he => ?_) (fun hq he => ?_) <;> first | (exfalso; clear hq; omega) | ((try (first | (conv => arg 8; simp only [hq]) | (conv => arg 4; simp only [hq]))); clear hq))
    | ((with_reducible first | refine c_split (fun hq => ?_) (fun hq => ?_) | refine q_split (fun hq => ?_) (fun hq => ?_)) <;> (try (first | (conv => arg 8; simp only [hq]) | (conv => arg 4; simp only [hq]))))
    | (with_reducible refine fin_0 ?_ (by first | rfl | (conv => lhs; simp only [go_sem, stD, intsD])) ?_)
    | (with_reducible show evC _ _ _ _ _ _ _ _ _ _ _ _
       first
       | (refine c_doesE (hB) ?_ ?_ ?_
          · ((try (conv => rhs; simp (disch := omega) only [go_sem, stD, intsD])); try rfl)
          · first | rfl | (conv => lhs; simp only [go_sem, stD, intsD])))
    | exact Sub.refl _
    | omega)
theorem sel_and {s : St} {e : E} {n : Int} (hn : 0 ≤ n ∧ n ≤ 1000) (hB : Does Try.prog 42 [] [stD s, eD e] (I n) []) : Does Try.prog 42 [] [stD s, eD (.mk 8 0 ⟨false, 0⟩ [e, e])] (I ((n * n).tdiv 1000)) [] := by
  have hm := mul_range hn hn
  have hr := red_range hn hn
  have hred := reduced_ok hn hn
  refine does0 c_impl_Stats_selectivity mixed (Nat.le_of_ble_eq_true rfl) ?_
  conv => arg 3; whnf
  repeat' (first
    | with_reducible refine acc_none ?_
    | (conv in hold _ => simp (disch := omega) only [go_sem, stD, intsD])
    | refine Stp.go ?_
    | with_reducible first | refine it_pos rfl ?_ | refine it_neg (by decide) ?_ | refine st_nil rfl ?_ | refine s_op ?_ ?_ | exact True.intro
    | ((with_reducible first | refine dw_reg0 ?_ | refine dw_regB ?_); (conv => arg 3; whnf))
    | (refine Spl.go (fun hq he => ?_) (fun hq he => ?_) <;> first | (exfalso; clear hq; omega) | ((try (first | (conv => arg 8; simp only [hq]) | (conv => arg 4; simp only [hq]))); clear hq))
    | ((with_reducible first | refine c_split (fun hq => ?_) (fun hq => ?_) | refine q_split (fun hq => ?_) (fun hq => ?_)) <;> (try (first | (conv => arg 8; simp only [hq]) | (conv => arg 4; simp only [hq]))))
    | (with_reducible refine fin_0 ?_ (by first | rfl | (conv => lhs; simp only [go_sem, stD, intsD])) ?_)
    | (with_reducible show evC _ _ _ _ _ _ _ _ _ _ _ _
       first
       | (refine c_doesE (hB) ?_ ?_ ?_
          · ((try (conv => rhs; simp (disch := omega) only [go_sem, stD, intsD])); try rfl)
          · first | rfl | (conv => lhs; simp only [go_sem, stD, intsD]))
       | (refine c_doesE (hB) ?_ ?_ ?_
          · ((try (conv => rhs; simp (disch := omega) only [go_sem, stD, intsD])); try rfl)
          · first | rfl | (conv => lhs; simp only [go_sem, stD, intsD]))
       | (refine c_doesE (hred) ?_ ?_ ?_
          · ((try (conv => rhs; simp (disch := omega) only [go_sem, stD, intsD])); try rfl)
          · first | rfl | (conv => lhs; simp only [go_sem, stD, intsD])))
    | exact Sub.refl _
    | omega)
theorem DrawSelectivity_ok (bs : List Nat) (hb : ∀ b, b ∈ bs → b < 256) : ∃ (e : E) (s : St), Does Try.prog 13 [] [bytesD bs] (.tup [eD e, stD s]) [] ∧ s.ds.length ≤ 10 := by
  have hs : Src (bs.take 2000) := ⟨fun b h => hb b (List.mem_of_mem_take h), by rw [List.length_take]; omega⟩
  have hr := newReader_ok bs
  generalize bs.take 2000 = rs at hs hr
  obtain ⟨w, hw, w0, w1, _⟩ := pick_ok hs 0 (by omega) 3 (by omega)
  have hw1 := w1 (by omega)
  obtain ⟨m, rfl⟩ := Int.eq_ofNat_of_zero_le w0
  obtain ⟨s, q, ⟨hst, hl, _⟩, hq0, hq1⟩ := anyStats_ok hs (m + 1) (by omega) (by omega) 1 (by omega)
  have hm : ((m + 1 : Nat) : Int) = 1 + (m : Int) := by omega
  rw [hm] at hst
  obtain ⟨k, hk, _⟩ := pick_ok hs q (by omega) 2 (by omega)
  by_cases hk0 : k = 0
  · obtain ⟨e, q2, hce, _⟩ := randomCondition_ok hs (1 + m) (by omega) (q + 1) (by omega)
    refine ⟨e, s, ?_, by omega⟩
    refine does0 c_spec_DrawSelectivity mixed (Nat.le_of_ble_eq_true rfl) ?_
    conv => arg 3; whnf
    repeat' (first
      | with_reducible refine acc_none ?_
      | (conv in hold _ => simp (disch := omega) only [go_sem, stD, intsD])
      | refine Stp.go ?_
      | with_reducible first | refine it_pos rfl ?_ | refine it_neg (by decide) ?_ | refine st_nil rfl ?_ | refine s_op ?_ ?_ | exact True.intro
      | ((with_reducible first | refine dw_reg0 ?_ | refine dw_regB ?_); (conv => arg 3; whnf))
      | (refine Spl.go (fun hq he => ?_) (fun hq he => ?_) <;> first | (exfalso; clear hq; omega) | ((try (first | (conv => arg 8; simp only [hq]) | (conv => arg 4; simp only [hq]))); clear hq))
      | ((with_reducible first | refine c_split (fun hq => ?_) (fun hq => ?_) | refine q_split (fun hq => ?_) (fun hq => ?_)) <;> (try (first | (conv => arg 8; simp only [hq]) | (conv => arg 4; simp only [hq]))))
      | (with_reducible refine fin_0 ?_ (by first | rfl | (conv => lhs; simp only [go_sem, stD, intsD])) ?_)
      | (with_reducible show evC _ _ _ _ _ _ _ _ _ _ _ _
         first
         | (refine c_doesR [3000001] (hr) (callOK_of rfl (Nat.le_of_ble_eq_true rfl) rfl ?_ ?_) ?_ ?_
            iterate 2 · repeat' (first | (conv in hold _ => simp (disch := omega) only [go_sem, stD, intsD]) | exact True.intro | exact Sub.refl _ | omega)
            · ((conv => rhs; simp (disch := omega) only [go_sem, stD, intsD]); try rfl))
         | (refine c_doesR [3000001] (hw) (callOK_of rfl (Nat.le_of_ble_eq_true rfl) rfl ?_ ?_) ?_ ?_
            iterate 2 · repeat' (first | (conv in hold _ => simp (disch := omega) only [go_sem, stD, intsD]) | exact True.intro | exact Sub.refl _ | omega)
            · ((conv => rhs; simp (disch := omega) only [go_sem, stD, intsD]); try rfl))
         | (refine c_doesR [3000001] (hst) (callOK_of rfl (Nat.le_of_ble_eq_true rfl) rfl ?_ ?_) ?_ ?_
            iterate 2 · repeat' (first | (conv in hold _ => simp (disch := omega) only [go_sem, stD, intsD]) | exact True.intro | exact Sub.refl _ | omega)
            · ((conv => rhs; simp (disch := omega) only [go_sem, stD, intsD]); try rfl))
         | (refine c_doesR [3000001] (hk) (callOK_of rfl (Nat.le_of_ble_eq_true rfl) rfl ?_ ?_) ?_ ?_
            iterate 2 · repeat' (first | (conv in hold _ => simp (disch := omega) only [go_sem, stD, intsD]) | exact True.intro | exact Sub.refl _ | omega)
            · ((conv => rhs; simp (disch := omega) only [go_sem, stD, intsD]); try rfl))
         | (refine c_doesR [3000001] (hce) (callOK_of rfl (Nat.le_of_ble_eq_true rfl) rfl ?_ ?_) ?_ ?_
            iterate 2 · repeat' (first | (conv in hold _ => simp (disch := omega) only [go_sem, stD, intsD]) | exact True.intro | exact Sub.refl _ | omega)
            · ((conv => rhs; simp (disch := omega) only [go_sem, stD, intsD]); try rfl)))
      | exact Sub.refl _
      | omega)
  · obtain ⟨e, q2, hae, _⟩ := anyExpr_ok hs (1 + m) (by omega) (q + 1) (by omega)
    refine ⟨e, s, ?_, by omega⟩
    refine does0 c_spec_DrawSelectivity mixed (Nat.le_of_ble_eq_true rfl) ?_
    conv => arg 3; whnf
    repeat' (first
      | with_reducible refine acc_none ?_
      | (conv in hold _ => simp (disch := omega) only [go_sem, stD, intsD])
      | refine Stp.go ?_
      | with_reducible first | refine it_pos rfl ?_ | refine it_neg (by decide) ?_ | refine st_nil rfl ?_ | refine s_op ?_ ?_ | exact True.intro
      | ((with_reducible first | refine dw_reg0 ?_ | refine dw_regB ?_); (conv => arg 3; whnf))
      | (refine Spl.go (fun hq he => ?_) (fun hq he => ?_) <;> first | (exfalso; clear hq; omega) | ((try (first | (conv => arg 8; simp only [hq]) | (conv => arg 4; simp only [hq]))); clear hq))
      | ((with_reducible first | refine c_split (fun hq => ?_) (fun hq => ?_) | refine q_split (fun hq => ?_) (fun hq => ?_)) <;> (try (first | (conv => arg 8; simp only [hq]) | (conv => arg 4; simp only [hq]))))
      | (with_reducible refine fin_0 ?_ (by first | rfl | (conv => lhs; simp only [go_sem, stD, intsD])) ?_)
      | (with_reducible show evC _ _ _ _ _ _ _ _ _ _ _ _
         first
         | (refine c_doesR [3000001] (hr) (callOK_of rfl (Nat.le_of_ble_eq_true rfl) rfl ?_ ?_) ?_ ?_
            iterate 2 · repeat' (first | (conv in hold _ => simp (disch := omega) only [go_sem, stD, intsD]) | exact True.intro | exact Sub.refl _ | omega)
            · ((conv => rhs; simp (disch := omega) only [go_sem, stD, intsD]); try rfl))
         | (refine c_doesR [3000001] (hw) (callOK_of rfl (Nat.le_of_ble_eq_true rfl) rfl ?_ ?_) ?_ ?_
            iterate 2 · repeat' (first | (conv in hold _ => simp (disch := omega) only [go_sem, stD, intsD]) | exact True.intro | exact Sub.refl _ | omega)
            · ((conv => rhs; simp (disch := omega) only [go_sem, stD, intsD]); try rfl))
         | (refine c_doesR [3000001] (hst) (callOK_of rfl (Nat.le_of_ble_eq_true rfl) rfl ?_ ?_) ?_ ?_
            iterate 2 · repeat' (first | (conv in hold _ => simp (disch := omega) only [go_sem, stD, intsD]) | exact True.intro | exact Sub.refl _ | omega)
            · ((conv => rhs; simp (disch := omega) only [go_sem, stD, intsD]); try rfl))
         | (refine c_doesR [3000001] (hk) (callOK_of rfl (Nat.le_of_ble_eq_true rfl) rfl ?_ ?_) ?_ ?_
            iterate 2 · repeat' (first | (conv in hold _ => simp (disch := omega) only [go_sem, stD, intsD]) | exact True.intro | exact Sub.refl _ | omega)
            · ((conv => rhs; simp (disch := omega) only [go_sem, stD, intsD]); try rfl))
         | (refine c_doesR [3000001] (hae) (callOK_of rfl (Nat.le_of_ble_eq_true rfl) rfl ?_ ?_) ?_ ?_
            iterate 2 · repeat' (first | (conv in hold _ => simp (disch := omega) only [go_sem, stD, intsD]) | exact True.intro | exact Sub.refl _ | omega)
            · ((conv => rhs; simp (disch := omega) only [go_sem, stD, intsD]); try rfl)))
      | exact Sub.refl _
      | omega)
theorem does_FnSelectivity (bs : List Nat) (hb : ∀ b, b ∈ bs → b < 256) : Does Try.prog 4 [] [bytesD bs] (Bo true) [] := by
  obtain ⟨e, s, hd, hl⟩ := DrawSelectivity_ok bs hb
  have hnot := not1_expr e
  have htwo := two1_ok 8 e e
  by_cases hl1 : bs.length ≤ 1048576
  · by_cases hv : ((1 ≤ (s.ds.length : Int) ∧ (s.ds.length : Int) ≤ 6) ∧ stIn s s.ds.length) ∧ eOk e s.ds.length 8
    · by_cases h7 : eOk e s.ds.length 7
      · obtain ⟨n, hn, hA, hB⟩ := sel_ok hv.1.2 e 7 h7
        have h1 := Sel_yes e s hv hB
        have h2 := Sel_spec e s hv hA
        have h3 := Sel_yes (.mk 10 0 ⟨false, 0⟩ [e]) s ⟨hv.1, (not1_ok (by decide)).2 h7⟩ (sel_not hn hB)
        have h4 := Sel_yes (.mk 8 0 ⟨false, 0⟩ [e, e]) s ⟨hv.1, (and2_ok (by decide)).2 h7⟩ (sel_and hn hB)
        have hr := red_range hn hn
        generalize (n * n).tdiv 1000 = m at h4 hr
        refine does0 c_laws_FnSelectivity mixed (Nat.le_of_ble_eq_true rfl) ?_
        conv => arg 3; whnf
        repeat' (first
          | with_reducible refine acc_none ?_
          | (conv in hold _ => simp (disch := omega) only [go_sem, stD, intsD, bytesD, List.length_map, beq_self_eq_true, bne_self_eq_false])
          | refine Stp.go ?_
          | with_reducible first | refine it_pos rfl ?_ | refine it_neg (by decide) ?_ | refine st_nil rfl ?_ | refine s_op ?_ ?_ | exact True.intro
          | ((with_reducible first | refine dw_reg0 ?_ | refine dw_regB ?_); (conv => arg 3; whnf))
          | (refine Spl.go (fun hq he => ?_) (fun hq he => ?_) <;> first | (exfalso; clear hq; omega) | ((try (first | (conv => arg 8; simp only [hq]) | (conv => arg 4; simp only [hq]))); clear hq))
          | ((with_reducible first | refine c_split (fun hq => ?_) (fun hq => ?_) | refine q_split (fun hq => ?_) (fun hq => ?_)) <;> (try (first | (conv => arg 8; simp only [hq]) | (conv => arg 4; simp only [hq]))))
          | (with_reducible refine fin_0 ?_ (by first | rfl | (conv => lhs; simp only [go_sem, stD, intsD, bytesD, List.length_map, beq_self_eq_true, bne_self_eq_false])) ?_)
          | (with_reducible show evC _ _ _ _ _ _ _ _ _ _ _ _
             first
             | (refine c_doesE (hd) ?_ ?_ ?_
                · ((try (conv => rhs; simp (disch := omega) only [go_sem, stD, intsD, bytesD, List.length_map, beq_self_eq_true, bne_self_eq_false])); try rfl)
                · first | rfl | (conv => lhs; simp only [go_sem, stD, intsD, bytesD, List.length_map, beq_self_eq_true, bne_self_eq_false]))
             | (refine c_doesE (h1) ?_ ?_ ?_
                · ((try (conv => rhs; simp (disch := omega) only [go_sem, stD, intsD, bytesD, List.length_map, beq_self_eq_true, bne_self_eq_false])); try rfl)
                · first | rfl | (conv => lhs; simp only [go_sem, stD, intsD, bytesD, List.length_map, beq_self_eq_true, bne_self_eq_false]))
             | (refine c_doesE (h2) ?_ ?_ ?_
                · ((try (conv => rhs; simp (disch := omega) only [go_sem, stD, intsD, bytesD, List.length_map, beq_self_eq_true, bne_self_eq_false])); try rfl)
                · first | rfl | (conv => lhs; simp only [go_sem, stD, intsD, bytesD, List.length_map, beq_self_eq_true, bne_self_eq_false]))
             | (refine c_doesE (hnot) ?_ ?_ ?_
                · ((try (conv => rhs; simp (disch := omega) only [go_sem, stD, intsD, bytesD, List.length_map, beq_self_eq_true, bne_self_eq_false])); try rfl)
                · first | rfl | (conv => lhs; simp only [go_sem, stD, intsD, bytesD, List.length_map, beq_self_eq_true, bne_self_eq_false]))
             | (refine c_doesE (h3) ?_ ?_ ?_
                · ((try (conv => rhs; simp (disch := omega) only [go_sem, stD, intsD, bytesD, List.length_map, beq_self_eq_true, bne_self_eq_false])); try rfl)
                · first | rfl | (conv => lhs; simp only [go_sem, stD, intsD, bytesD, List.length_map, beq_self_eq_true, bne_self_eq_false]))
             | (refine c_doesE (htwo) ?_ ?_ ?_
                · ((try (conv => rhs; simp (disch := omega) only [go_sem, stD, intsD, bytesD, List.length_map, beq_self_eq_true, bne_self_eq_false])); try rfl)
                · first | rfl | (conv => lhs; simp only [go_sem, stD, intsD, bytesD, List.length_map, beq_self_eq_true, bne_self_eq_false]))
             | (refine c_doesE (h4) ?_ ?_ ?_
                · ((try (conv => rhs; simp (disch := omega) only [go_sem, stD, intsD, bytesD, List.length_map, beq_self_eq_true, bne_self_eq_false])); try rfl)
                · first | rfl | (conv => lhs; simp only [go_sem, stD, intsD, bytesD, List.length_map, beq_self_eq_true, bne_self_eq_false])))
          | exact Sub.refl _
          | omega)
        exact Sub.of_eq (by rw [decide_eq_true hr.2.1])
      · obtain ⟨n, hn, hA, hB⟩ := sel_ok hv.1.2 e 8 hv.2
        have h1 := Sel_yes e s hv hB
        have h2 := Sel_spec e s hv hA
        obtain ⟨_, h3⟩ := Sel_no (.mk 10 0 ⟨false, 0⟩ [e]) s (by omega) (fun h => h7 ((not1_ok (by decide)).1 h.2))
        obtain ⟨_, h4⟩ := Sel_no (.mk 8 0 ⟨false, 0⟩ [e, e]) s (by omega) (fun h => h7 ((and2_ok (by decide)).1 h.2))
        refine does0 c_laws_FnSelectivity mixed (Nat.le_of_ble_eq_true rfl) ?_
        conv => arg 3; whnf
        repeat' (first
          | with_reducible refine acc_none ?_
          | (conv in hold _ => simp (disch := omega) only [go_sem, stD, intsD, bytesD, List.length_map, beq_self_eq_true, bne_self_eq_false])
          | refine Stp.go ?_
          | with_reducible first | refine it_pos rfl ?_ | refine it_neg (by decide) ?_ | refine st_nil rfl ?_ | refine s_op ?_ ?_ | exact True.intro
          | ((with_reducible first | refine dw_reg0 ?_ | refine dw_regB ?_); (conv => arg 3; whnf))
          | (refine Spl.go (fun hq he => ?_) (fun hq he => ?_) <;> first | (exfalso; clear hq; omega) | ((try (first | (conv => arg 8; simp only [hq]) | (conv => arg 4; simp only [hq]))); clear hq))
          | ((with_reducible first | refine c_split (fun hq => ?_) (fun hq => ?_) | refine q_split (fun hq => ?_) (fun hq => ?_)) <;> (try (first | (conv => arg 8; simp only [hq]) | (conv => arg 4; simp only [hq]))))
          | (with_reducible refine fin_0 ?_ (by first | rfl | (conv => lhs; simp only [go_sem, stD, intsD, bytesD, List.length_map, beq_self_eq_true, bne_self_eq_false])) ?_)
          | (with_reducible show evC _ _ _ _ _ _ _ _ _ _ _ _
             first
             | (refine c_doesE (hd) ?_ ?_ ?_
                · ((try (conv => rhs; simp (disch := omega) only [go_sem, stD, intsD, bytesD, List.length_map, beq_self_eq_true, bne_self_eq_false])); try rfl)
                · first | rfl | (conv => lhs; simp only [go_sem, stD, intsD, bytesD, List.length_map, beq_self_eq_true, bne_self_eq_false]))
             | (refine c_doesE (h1) ?_ ?_ ?_
                · ((try (conv => rhs; simp (disch := omega) only [go_sem, stD, intsD, bytesD, List.length_map, beq_self_eq_true, bne_self_eq_false])); try rfl)
                · first | rfl | (conv => lhs; simp only [go_sem, stD, intsD, bytesD, List.length_map, beq_self_eq_true, bne_self_eq_false]))
             | (refine c_doesE (h2) ?_ ?_ ?_
                · ((try (conv => rhs; simp (disch := omega) only [go_sem, stD, intsD, bytesD, List.length_map, beq_self_eq_true, bne_self_eq_false])); try rfl)
                · first | rfl | (conv => lhs; simp only [go_sem, stD, intsD, bytesD, List.length_map, beq_self_eq_true, bne_self_eq_false]))
             | (refine c_doesE (hnot) ?_ ?_ ?_
                · ((try (conv => rhs; simp (disch := omega) only [go_sem, stD, intsD, bytesD, List.length_map, beq_self_eq_true, bne_self_eq_false])); try rfl)
                · first | rfl | (conv => lhs; simp only [go_sem, stD, intsD, bytesD, List.length_map, beq_self_eq_true, bne_self_eq_false]))
             | (refine c_doesE (h3) ?_ ?_ ?_
                · ((try (conv => rhs; simp (disch := omega) only [go_sem, stD, intsD, bytesD, List.length_map, beq_self_eq_true, bne_self_eq_false])); try rfl)
                · first | rfl | (conv => lhs; simp only [go_sem, stD, intsD, bytesD, List.length_map, beq_self_eq_true, bne_self_eq_false]))
             | (refine c_doesE (htwo) ?_ ?_ ?_
                · ((try (conv => rhs; simp (disch := omega) only [go_sem, stD, intsD, bytesD, List.length_map, beq_self_eq_true, bne_self_eq_false])); try rfl)
                · first | rfl | (conv => lhs; simp only [go_sem, stD, intsD, bytesD, List.length_map, beq_self_eq_true, bne_self_eq_false]))
             | (refine c_doesE (h4) ?_ ?_ ?_
                · ((try (conv => rhs; simp (disch := omega) only [go_sem, stD, intsD, bytesD, List.length_map, beq_self_eq_true, bne_self_eq_false])); try rfl)
                · first | rfl | (conv => lhs; simp only [go_sem, stD, intsD, bytesD, List.length_map, beq_self_eq_true, bne_self_eq_false])))
          | exact Sub.refl _
          | omega)
        exact Sub.of_eq (by rw [decide_eq_true (show (-1 : Int) ≤ n by omega)])
    · obtain ⟨h2, h1⟩ := Sel_no e s (by omega) hv
      refine does0 c_laws_FnSelectivity mixed (Nat.le_of_ble_eq_true rfl) ?_
      conv => arg 3; whnf
      repeat' (first
        | with_reducible refine acc_none ?_
        | (conv in hold _ => simp (disch := omega) only [go_sem, stD, intsD, bytesD, List.length_map, beq_self_eq_true, bne_self_eq_false])
        | refine Stp.go ?_
        | with_reducible first | refine it_pos rfl ?_ | refine it_neg (by decide) ?_ | refine st_nil rfl ?_ | refine s_op ?_ ?_ | exact True.intro
        | ((with_reducible first | refine dw_reg0 ?_ | refine dw_regB ?_); (conv => arg 3; whnf))
        | (refine Spl.go (fun hq he => ?_) (fun hq he => ?_) <;> first | (exfalso; clear hq; omega) | ((try (first | (conv => arg 8; simp only [hq]) | (conv => arg 4; simp only [hq]))); clear hq))
        | ((with_reducible first | refine c_split (fun hq => ?_) (fun hq => ?_) | refine q_split (fun hq => ?_) (fun hq => ?_)) <;> (try (first | (conv => arg 8; simp only [hq]) | (conv => arg 4; simp only [hq]))))
        | (with_reducible refine fin_0 ?_ (by first | rfl | (conv => lhs; simp only [go_sem, stD, intsD, bytesD, List.length_map, beq_self_eq_true, bne_self_eq_false])) ?_)
        | (with_reducible show evC _ _ _ _ _ _ _ _ _ _ _ _
           first
           | (refine c_doesE (hd) ?_ ?_ ?_
              · ((try (conv => rhs; simp (disch := omega) only [go_sem, stD, intsD, bytesD, List.length_map, beq_self_eq_true, bne_self_eq_false])); try rfl)
              · first | rfl | (conv => lhs; simp only [go_sem, stD, intsD, bytesD, List.length_map, beq_self_eq_true, bne_self_eq_false]))
           | (refine c_doesE (h1) ?_ ?_ ?_
              · ((try (conv => rhs; simp (disch := omega) only [go_sem, stD, intsD, bytesD, List.length_map, beq_self_eq_true, bne_self_eq_false])); try rfl)
              · first | rfl | (conv => lhs; simp only [go_sem, stD, intsD, bytesD, List.length_map, beq_self_eq_true, bne_self_eq_false]))
           | (refine c_doesE (h2) ?_ ?_ ?_
              · ((try (conv => rhs; simp (disch := omega) only [go_sem, stD, intsD, bytesD, List.length_map, beq_self_eq_true, bne_self_eq_false])); try rfl)
              · first | rfl | (conv => lhs; simp only [go_sem, stD, intsD, bytesD, List.length_map, beq_self_eq_true, bne_self_eq_false]))
           | (refine c_doesE (h2) ?_ ?_ ?_
              · ((try (conv => rhs; simp (disch := omega) only [go_sem, stD, intsD, bytesD, List.length_map, beq_self_eq_true, bne_self_eq_false])); try rfl)
              · first | rfl | (conv => lhs; simp only [go_sem, stD, intsD, bytesD, List.length_map, beq_self_eq_true, bne_self_eq_false])))
        | exact Sub.refl _
        | omega)
  · refine does0 c_laws_FnSelectivity mixed (Nat.le_of_ble_eq_true rfl) ?_
    conv => arg 3; whnf
    repeat' (first
      | with_reducible refine acc_none ?_
      | (conv in hold _ => simp (disch := omega) only [go_sem, stD, intsD, bytesD, List.length_map, beq_self_eq_true, bne_self_eq_false])
      | refine Stp.go ?_
      | with_reducible first | refine it_pos rfl ?_ | refine it_neg (by decide) ?_ | refine st_nil rfl ?_ | refine s_op ?_ ?_ | exact True.intro
      | ((with_reducible first | refine dw_reg0 ?_ | refine dw_regB ?_); (conv => arg 3; whnf))
      | (refine Spl.go (fun hq he => ?_) (fun hq he => ?_) <;> first | (exfalso; clear hq; omega) | ((try (first | (conv => arg 8; simp only [hq]) | (conv => arg 4; simp only [hq]))); clear hq))
      | ((with_reducible first | refine c_split (fun hq => ?_) (fun hq => ?_) | refine q_split (fun hq => ?_) (fun hq => ?_)) <;> (try (first | (conv => arg 8; simp only [hq]) | (conv => arg 4; simp only [hq]))))
      | (with_reducible refine fin_0 ?_ (by first | rfl | (conv => lhs; simp only [go_sem, stD, intsD, bytesD, List.length_map, beq_self_eq_true, bne_self_eq_false])) ?_)
      | exact Sub.refl _
      | omega)
theorem walk_FnSelectivity (a : Option Addr) (len cap : Nat) (zs : List Int) (w : World) (h : IsRow .u8 w a len cap zs) :
    Calls Try.prog 4 #[.slice a len cap] w fun e W' => e = .returned (.bool true) ∧ Below w.heap.size w W' := walk_of does_FnSelectivity a len cap zs w h
end Go.Proofs.Ytbdpdmojepiepaa
