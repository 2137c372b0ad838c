/-
  The law that sizes of plans add up. No condition.
-/
import Derived.Test.YtpfedjaedlfdfaaDcWPSizeL
import Derived.Test.YtpfedjaedlfdfaaDca
import Derived.Test.YtpfedjaedlfdfaaDci
import Derived.Test.YtpfedjaedlfdfaaKVPlanE
import Derived.Test.YtpfedjaedlfdfaaKVScn
import Derived.Test.YtpfedjaedlfdfaaVLaw
set_option maxHeartbeats 4000000
set_option maxRecDepth 100000
set_option linter.unusedVariables false
set_option linter.unusedSimpArgs false
namespace Go.Proofs.Ytpfedjaedlfdfaa
open Go.RowKit

theorem DrawPlanSize_ok (bs : List Nat) (hb : ∀ b, b ∈ bs → b < 256) : ∃ (x : Pl) (ws : List Int), Does Try.prog 10 [] [bytesD bs] (.tup [pD x, intsD ws]) [] ∧ psz x ≤ 11100 ∧ ws.length ≤ 3 := by
  have hs : Src (bs.take 2000) := ⟨fun b h => hb b (List.mem_of_mem_take h), by rw [List.length_take]; omega⟩
  have hr := newReader_ok bs
  generalize bs.take 2000 = rs at hs hr
  obtain ⟨x, ws, q, hx, hl, _, hz, hq0, hq1⟩ := planAndWidths_ok hs 0 (by omega)
  refine ⟨x, ws, ?_, hz, by omega⟩
  refine does0 c_spec_DrawPlanSize mixed (Nat.le_of_ble_eq_true rfl) ?_
  conv => arg 3; whnf
  repeat' (first
    | with_reducible refine acc_none ?_ | (conv in hold _ => simp (disch := omega) only [go_sem]) | refine Stp.go ?_ | (with_reducible first | refine it_pos rfl ?_ | refine it_neg (by decide) ?_ | refine st_nil rfl ?_ | refine s_op ?_ ?_ | exact True.intro) | ((with_reducible first | refine dw_reg0 ?_ | refine dw_regB ?_); (conv => arg 3; whnf)) | (refine Spl.go (fun hq he => ?_) (fun hq he => ?_) <;> first | (exfalso; clear hq; omega) | ((try (first | (conv => arg 8; simp only [hq]) | (conv => arg 4; simp only [hq]))); clear hq)) | ((with_reducible first | refine c_split (fun hq => ?_) (fun hq => ?_) | refine q_split (fun hq => ?_) (fun hq => ?_)) <;> (try (first | (conv => arg 8; simp only [hq]) | (conv => arg 4; simp only [hq])))) | (with_reducible refine fin_0 ?_ (by first | rfl | (conv => lhs; simp only [go_sem])) ?_)
    | (with_reducible show evC _ _ _ _ _ _ _ _ _ _ _ _
       first
       | (refine c_doesR [3000001] (hr) (callOK_of rfl (Nat.le_of_ble_eq_true rfl) rfl ?_ ?_) ?_ ?_
          iterate 2 · repeat' (first | (conv in hold _ => simp (disch := omega) only [go_sem]) | exact True.intro | exact Sub.refl _ | omega)
          · ((conv => rhs; simp (disch := omega) only [go_sem]); try rfl))
       | (refine c_doesR [3000001] (hx) (callOK_of rfl (Nat.le_of_ble_eq_true rfl) rfl ?_ ?_) ?_ ?_
          iterate 2 · repeat' (first | (conv in hold _ => simp (disch := omega) only [go_sem]) | exact True.intro | exact Sub.refl _ | omega)
          · ((conv => rhs; simp (disch := omega) only [go_sem]); try rfl)))
    | exact Sub.refl _ | omega)
theorem PlanSize_fn (p : Pl) (hs : psz p ≤ 1048576) (ws : List Int) (hl : ws.length ≤ 1048576) : Does Try.prog 12 [] [pD p, intsD ws] (I (if PV ws p = 0 then 0 else (pn p : Int))) [] ∧ Does Try.prog 11 [] [pD p, intsD ws] (I (if PV ws p = 0 then 0 else (pn p : Int))) [] := by
  obtain ⟨_, h1, h2⟩ := PlanWidth_fn p hs ws hl
  have h3 := planSize_spec p hs
  have h4 := planSize_impl p hs
  by_cases hw : PV ws p = 0
  · rw [if_pos hw]
    rw [hw] at h1 h2
    refine ⟨?_, ?_⟩
    · refine does0 c_spec_PlanSize mixed (Nat.le_of_ble_eq_true rfl) ?_
      conv => arg 3; whnf
      repeat' (first
        | with_reducible refine acc_none ?_ | (conv in hold _ => simp (disch := omega) only [go_sem]) | refine Stp.go ?_ | (with_reducible first | refine it_pos rfl ?_ | refine it_neg (by decide) ?_ | refine st_nil rfl ?_ | refine s_op ?_ ?_ | exact True.intro) | ((with_reducible first | refine dw_reg0 ?_ | refine dw_regB ?_); (conv => arg 3; whnf)) | (refine Spl.go (fun hq he => ?_) (fun hq he => ?_) <;> first | (exfalso; clear hq; omega) | ((try (first | (conv => arg 8; simp only [hq]) | (conv => arg 4; simp only [hq]))); clear hq)) | ((with_reducible first | refine c_split (fun hq => ?_) (fun hq => ?_) | refine q_split (fun hq => ?_) (fun hq => ?_)) <;> (try (first | (conv => arg 8; simp only [hq]) | (conv => arg 4; simp only [hq])))) | (with_reducible refine fin_0 ?_ (by first | rfl | (conv => lhs; simp only [go_sem])) ?_)
        | (with_reducible show evC _ _ _ _ _ _ _ _ _ _ _ _
           first
           | (refine c_doesE (h1) ?_ ?_ ?_
              · ((try (conv => rhs; simp (disch := omega) only [go_sem])); try rfl)
              · first | rfl | (conv => lhs; simp only [go_sem])))
        | exact Sub.refl _ | omega)
    · refine does0 c_impl_PlanSize mixed (Nat.le_of_ble_eq_true rfl) ?_
      conv => arg 3; whnf
      repeat' (first
        | with_reducible refine acc_none ?_ | (conv in hold _ => simp (disch := omega) only [go_sem]) | refine Stp.go ?_ | (with_reducible first | refine it_pos rfl ?_ | refine it_neg (by decide) ?_ | refine st_nil rfl ?_ | refine s_op ?_ ?_ | exact True.intro) | ((with_reducible first | refine dw_reg0 ?_ | refine dw_regB ?_); (conv => arg 3; whnf)) | (refine Spl.go (fun hq he => ?_) (fun hq he => ?_) <;> first | (exfalso; clear hq; omega) | ((try (first | (conv => arg 8; simp only [hq]) | (conv => arg 4; simp only [hq]))); clear hq)) | ((with_reducible first | refine c_split (fun hq => ?_) (fun hq => ?_) | refine q_split (fun hq => ?_) (fun hq => ?_)) <;> (try (first | (conv => arg 8; simp only [hq]) | (conv => arg 4; simp only [hq])))) | (with_reducible refine fin_0 ?_ (by first | rfl | (conv => lhs; simp only [go_sem])) ?_)
        | (with_reducible show evC _ _ _ _ _ _ _ _ _ _ _ _
           first
           | (refine c_doesE (h2) ?_ ?_ ?_
              · ((try (conv => rhs; simp (disch := omega) only [go_sem])); try rfl)
              · first | rfl | (conv => lhs; simp only [go_sem])))
        | exact Sub.refl _ | omega)
  · rw [if_neg hw]
    generalize PV ws p = w at *
    refine ⟨?_, ?_⟩
    · refine does0 c_spec_PlanSize mixed (Nat.le_of_ble_eq_true rfl) ?_
      conv => arg 3; whnf
      repeat' (first
        | with_reducible refine acc_none ?_ | (conv in hold _ => simp (disch := omega) only [go_sem]) | refine Stp.go ?_ | (with_reducible first | refine it_pos rfl ?_ | refine it_neg (by decide) ?_ | refine st_nil rfl ?_ | refine s_op ?_ ?_ | exact True.intro) | ((with_reducible first | refine dw_reg0 ?_ | refine dw_regB ?_); (conv => arg 3; whnf)) | (refine Spl.go (fun hq he => ?_) (fun hq he => ?_) <;> first | (exfalso; clear hq; omega) | ((try (first | (conv => arg 8; simp only [hq]) | (conv => arg 4; simp only [hq]))); clear hq)) | ((with_reducible first | refine c_split (fun hq => ?_) (fun hq => ?_) | refine q_split (fun hq => ?_) (fun hq => ?_)) <;> (try (first | (conv => arg 8; simp only [hq]) | (conv => arg 4; simp only [hq])))) | (with_reducible refine fin_0 ?_ (by first | rfl | (conv => lhs; simp only [go_sem])) ?_)
        | (with_reducible show evC _ _ _ _ _ _ _ _ _ _ _ _
           first
           | (refine c_doesE (h1) ?_ ?_ ?_
              · ((try (conv => rhs; simp (disch := omega) only [go_sem])); try rfl)
              · first | rfl | (conv => lhs; simp only [go_sem]))
           | (refine c_doesE (h3) ?_ ?_ ?_
              · ((try (conv => rhs; simp (disch := omega) only [go_sem])); try rfl)
              · first | rfl | (conv => lhs; simp only [go_sem])))
        | exact Sub.refl _ | omega)
    · refine does0 c_impl_PlanSize mixed (Nat.le_of_ble_eq_true rfl) ?_
      conv => arg 3; whnf
      repeat' (first
        | with_reducible refine acc_none ?_ | (conv in hold _ => simp (disch := omega) only [go_sem]) | refine Stp.go ?_ | (with_reducible first | refine it_pos rfl ?_ | refine it_neg (by decide) ?_ | refine st_nil rfl ?_ | refine s_op ?_ ?_ | exact True.intro) | ((with_reducible first | refine dw_reg0 ?_ | refine dw_regB ?_); (conv => arg 3; whnf)) | (refine Spl.go (fun hq he => ?_) (fun hq he => ?_) <;> first | (exfalso; clear hq; omega) | ((try (first | (conv => arg 8; simp only [hq]) | (conv => arg 4; simp only [hq]))); clear hq)) | ((with_reducible first | refine c_split (fun hq => ?_) (fun hq => ?_) | refine q_split (fun hq => ?_) (fun hq => ?_)) <;> (try (first | (conv => arg 8; simp only [hq]) | (conv => arg 4; simp only [hq])))) | (with_reducible refine fin_0 ?_ (by first | rfl | (conv => lhs; simp only [go_sem])) ?_)
        | (with_reducible show evC _ _ _ _ _ _ _ _ _ _ _ _
           first
           | (refine c_doesE (h2) ?_ ?_ ?_
              · ((try (conv => rhs; simp (disch := omega) only [go_sem])); try rfl)
              · first | rfl | (conv => lhs; simp only [go_sem]))
           | (refine c_doesE (h4) ?_ ?_ ?_
              · ((try (conv => rhs; simp (disch := omega) only [go_sem])); try rfl)
              · first | rfl | (conv => lhs; simp only [go_sem])))
        | exact Sub.refl _ | omega)
theorem does_FnPlanSize (bs : List Nat) (hb : ∀ b, b ∈ bs → b < 256) : Does Try.prog 3 [] [bytesD bs] (Bo true) [] := by
  obtain ⟨x, ws, hd, hz, hl⟩ := DrawPlanSize_ok bs hb
  by_cases hb1 : bs.length ≤ 1048576
  · obtain ⟨h1, h2⟩ := PlanSize_fn x (by omega) ws (by omega)
    obtain ⟨_, _, h3⟩ := PlanWidth_fn x (by omega) ws (by omega)
    by_cases hw : PV ws x = 0
    · rw [if_pos hw] at h1 h2
      rw [hw] at h3
      refine does0 c_laws_FnPlanSize mixed (Nat.le_of_ble_eq_true rfl) ?_
      conv => arg 3; whnf
      repeat' (first
        | with_reducible refine acc_none ?_ | (conv in hold _ => simp (disch := omega) only [go_sem, bytesD, List.length_map, beq_self_eq_true, bne_self_eq_false]) | refine Stp.go ?_ | (with_reducible first | refine it_pos rfl ?_ | refine it_neg (by decide) ?_ | refine st_nil rfl ?_ | refine s_op ?_ ?_ | exact True.intro) | ((with_reducible first | refine dw_reg0 ?_ | refine dw_regB ?_); (conv => arg 3; whnf)) | (refine Spl.go (fun hq he => ?_) (fun hq he => ?_) <;> first | (exfalso; clear hq; omega) | ((try (first | (conv => arg 8; simp only [hq]) | (conv => arg 4; simp only [hq]))); clear hq)) | ((with_reducible first | refine c_split (fun hq => ?_) (fun hq => ?_) | refine q_split (fun hq => ?_) (fun hq => ?_)) <;> (try (first | (conv => arg 8; simp only [hq]) | (conv => arg 4; simp only [hq])))) | (with_reducible refine fin_0 ?_ (by first | rfl | (conv => lhs; simp only [go_sem, bytesD, List.length_map, beq_self_eq_true, bne_self_eq_false])) ?_)
        | (with_reducible show evC _ _ _ _ _ _ _ _ _ _ _ _
           first
           | (refine c_doesE (hd) ?_ ?_ ?_
              · ((try (conv => rhs; simp (disch := omega) only [go_sem, bytesD, List.length_map, beq_self_eq_true, bne_self_eq_false])); try rfl)
              · first | rfl | (conv => lhs; simp only [go_sem, bytesD, List.length_map, beq_self_eq_true, bne_self_eq_false]))
           | (refine c_doesE (h2) ?_ ?_ ?_
              · ((try (conv => rhs; simp (disch := omega) only [go_sem, bytesD, List.length_map, beq_self_eq_true, bne_self_eq_false])); try rfl)
              · first | rfl | (conv => lhs; simp only [go_sem, bytesD, List.length_map, beq_self_eq_true, bne_self_eq_false]))
           | (refine c_doesE (h1) ?_ ?_ ?_
              · ((try (conv => rhs; simp (disch := omega) only [go_sem, bytesD, List.length_map, beq_self_eq_true, bne_self_eq_false])); try rfl)
              · first | rfl | (conv => lhs; simp only [go_sem, bytesD, List.length_map, beq_self_eq_true, bne_self_eq_false]))
           | (refine c_doesE (h1) ?_ ?_ ?_
              · ((try (conv => rhs; simp (disch := omega) only [go_sem, bytesD, List.length_map, beq_self_eq_true, bne_self_eq_false])); try rfl)
              · first | rfl | (conv => lhs; simp only [go_sem, bytesD, List.length_map, beq_self_eq_true, bne_self_eq_false]))
           | (refine c_doesE (h3) ?_ ?_ ?_
              · ((try (conv => rhs; simp (disch := omega) only [go_sem, bytesD, List.length_map, beq_self_eq_true, bne_self_eq_false])); try rfl)
              · first | rfl | (conv => lhs; simp only [go_sem, bytesD, List.length_map, beq_self_eq_true, bne_self_eq_false])))
        | exact Sub.refl _ | omega)
    · rw [if_neg hw] at h1 h2
      have hz' := hz
      rw [psz_eq] at hz'
      have hlen := pszL_len x.ks
      have hpn := pn_eq x
      have hsm := pn_small x
      have hat : ∀ (j : Nat) (y : Pl), x.ks[j]? = some y → Does Try.prog 11 [] [pD y, intsD ws] (I (pn y)) [] := fun j y hy => by
        have hm := List.mem_of_getElem? hy
        have h := (PlanSize_fn y (by have := pszL_mem hm; omega) ws (by omega)).2
        rwa [if_neg (PV_kid hw hm)] at h
      have h4 := TablesOf_impl (by omega) (by omega) hw
      obtain ⟨b1, b2⟩ := tbs_bound (PV_fine hw)
      have e1 : decide (((tbs x ws.length).length : Int) ≤ (pn x : Int)) = true := decide_eq_true (by omega)
      have e2 : decide (0 < ((tbs x ws.length).length : Int)) = true := decide_eq_true (by omega)
      generalize tbs x ws.length = ts at *
      refine does0 c_laws_FnPlanSize mixed (Nat.le_of_ble_eq_true rfl) ?_
      conv => arg 3; whnf
      repeat' (first
        | with_reducible refine acc_none ?_ | (conv in hold _ => simp (disch := omega) only [go_sem, bytesD, List.length_map, beq_self_eq_true, bne_self_eq_false]) | refine Stp.go ?_ | (with_reducible first | refine it_pos rfl ?_ | refine it_neg (by decide) ?_ | refine st_nil rfl ?_ | refine s_op ?_ ?_ | exact True.intro) | ((with_reducible first | refine dw_reg0 ?_ | refine dw_regB ?_); (conv => arg 3; whnf)) | (refine Spl.go (fun hq he => ?_) (fun hq he => ?_) <;> first | (exfalso; clear hq; omega) | ((try (first | (conv => arg 8; simp only [hq]) | (conv => arg 4; simp only [hq]))); clear hq)) | ((with_reducible first | refine c_split (fun hq => ?_) (fun hq => ?_) | refine q_split (fun hq => ?_) (fun hq => ?_)) <;> (try (first | (conv => arg 8; simp only [hq]) | (conv => arg 4; simp only [hq])))) | (with_reducible refine fin_0 ?_ (by first | rfl | (conv => lhs; simp only [go_sem, bytesD, List.length_map, beq_self_eq_true, bne_self_eq_false])) ?_)
        | (with_reducible show evC _ _ _ _ _ _ _ _ _ _ _ _
           first
           | (refine c_doesE (hd) ?_ ?_ ?_
              · ((try (conv => rhs; simp (disch := omega) only [go_sem, bytesD, List.length_map, beq_self_eq_true, bne_self_eq_false])); try rfl)
              · first | rfl | (conv => lhs; simp only [go_sem, bytesD, List.length_map, beq_self_eq_true, bne_self_eq_false]))
           | (refine c_doesE (h2) ?_ ?_ ?_
              · ((try (conv => rhs; simp (disch := omega) only [go_sem, bytesD, List.length_map, beq_self_eq_true, bne_self_eq_false])); try rfl)
              · first | rfl | (conv => lhs; simp only [go_sem, bytesD, List.length_map, beq_self_eq_true, bne_self_eq_false]))
           | (refine c_doesE (h1) ?_ ?_ ?_
              · ((try (conv => rhs; simp (disch := omega) only [go_sem, bytesD, List.length_map, beq_self_eq_true, bne_self_eq_false])); try rfl)
              · first | rfl | (conv => lhs; simp only [go_sem, bytesD, List.length_map, beq_self_eq_true, bne_self_eq_false])))
        | exact Sub.refl _ | omega)
      refine dw_for (c := 1) (l := fun i => [(3, .ref 1000000 0), (4, intsD ws), (5, I (pn x)), (6, I ((1 + pnL (x.ks.take i) : Nat) : Int)), (7, I i), (1000000, .obj [I x.k, I x.t, .sl 5 (x.es.map eD), intsD x.cs, .sl 5 (x.ks.map pD)])]) x.ks.length (fun _ => True) 0 trivial (Wk.list [2000003] rfl rfl ?_) (fun i hi _ => ?_) (Nat.zero_le _)
      · repeat' (first | (conv in hold _ => simp (disch := omega) only [go_sem, bytesD, List.length_map, beq_self_eq_true, bne_self_eq_false]) | exact True.intro | exact Sub.refl _ | omega)
        exact ⟨rfl, rfl⟩
      · by_cases hil : i < x.ks.length
        · obtain ⟨y, hy⟩ : ∃ y, x.ks[i]? = some y := ⟨_, List.getElem?_eq_getElem hil⟩
          have hnx := pnL_next hy
          have hle := pnL_le (ps := x.ks) (i + 1)
          have hix := hat i y hy
          repeat' (first
            | with_reducible refine acc_none ?_ | (conv in hold _ => simp (disch := omega) only [go_sem, bytesD, List.length_map, beq_self_eq_true, bne_self_eq_false, List.getElem?_map, hy, Option.map_some]) | refine Stp.go ?_ | (with_reducible first | refine it_pos rfl ?_ | refine it_neg (by decide) ?_ | refine st_nil rfl ?_ | refine s_op ?_ ?_ | exact True.intro) | ((with_reducible first | refine dw_reg0 ?_ | refine dw_regB ?_); (conv => arg 3; whnf)) | (refine Spl.go (fun hq he => ?_) (fun hq he => ?_) <;> first | (exfalso; clear hq; omega) | ((try (first | (conv => arg 8; simp only [hq]) | (conv => arg 4; simp only [hq]))); clear hq)) | ((with_reducible first | refine c_split (fun hq => ?_) (fun hq => ?_) | refine q_split (fun hq => ?_) (fun hq => ?_)) <;> (try (first | (conv => arg 8; simp only [hq]) | (conv => arg 4; simp only [hq])))) | (with_reducible refine fin_0 ?_ (by first | rfl | (conv => lhs; simp only [go_sem, bytesD, List.length_map, beq_self_eq_true, bne_self_eq_false, List.getElem?_map, hy, Option.map_some])) ?_)
            | (with_reducible show evC _ _ _ _ _ _ _ _ _ _ _ _
               first
               | (refine c_doesE (hix) ?_ ?_ ?_
                  · ((try (conv => rhs; simp (disch := omega) only [go_sem, bytesD, List.length_map, beq_self_eq_true, bne_self_eq_false, List.getElem?_map, hy, Option.map_some])); try rfl)
                  · first | rfl | (conv => lhs; simp only [go_sem, bytesD, List.length_map, beq_self_eq_true, bne_self_eq_false, List.getElem?_map, hy, Option.map_some])))
            | exact Sub.refl _ | omega)
          refine ⟨hil, trivial, Wk.list [1000000] rfl rfl ?_⟩
          repeat' (first | (conv in hold _ => simp (disch := omega) only [go_sem, bytesD, List.length_map, beq_self_eq_true, bne_self_eq_false]) | exact True.intro | exact Sub.refl _ | omega)
          exact congrArg (fun n => D.v (Value.int .i64 n)) (by omega)
        · obtain rfl : i = x.ks.length := by omega
          have e3 : x.ks.take x.ks.length = x.ks := List.take_length
          have e4 : (((1 + pnL x.ks : Nat) : Int) == (pn x : Int)) = true := by rw [beq_iff_eq]; omega
          repeat' (first
            | with_reducible refine acc_none ?_ | (conv in hold _ => simp (disch := omega) only [go_sem, bytesD, List.length_map, beq_self_eq_true, bne_self_eq_false, e3, e4, e1, e2]) | refine Stp.go ?_ | (with_reducible first | refine it_pos rfl ?_ | refine it_neg (by decide) ?_ | refine st_nil rfl ?_ | refine s_op ?_ ?_ | exact True.intro) | ((with_reducible first | refine dw_reg0 ?_ | refine dw_regB ?_); (conv => arg 3; whnf)) | (refine Spl.go (fun hq he => ?_) (fun hq he => ?_) <;> first | (exfalso; clear hq; omega) | ((try (first | (conv => arg 8; simp only [hq]) | (conv => arg 4; simp only [hq]))); clear hq)) | ((with_reducible first | refine c_split (fun hq => ?_) (fun hq => ?_) | refine q_split (fun hq => ?_) (fun hq => ?_)) <;> (try (first | (conv => arg 8; simp only [hq]) | (conv => arg 4; simp only [hq])))) | (with_reducible refine fin_0 ?_ (by first | rfl | (conv => lhs; simp only [go_sem, bytesD, List.length_map, beq_self_eq_true, bne_self_eq_false, e3, e4, e1, e2])) ?_)
            | (with_reducible show evC _ _ _ _ _ _ _ _ _ _ _ _
               first
               | (refine c_doesE (h4) ?_ ?_ ?_
                  · ((try (conv => rhs; simp (disch := omega) only [go_sem, bytesD, List.length_map, beq_self_eq_true, bne_self_eq_false, e3, e4, e1, e2])); try rfl)
                  · first | rfl | (conv => lhs; simp only [go_sem, bytesD, List.length_map, beq_self_eq_true, bne_self_eq_false, e3, e4, e1, e2]))
               | (refine c_doesE (h4) ?_ ?_ ?_
                  · ((try (conv => rhs; simp (disch := omega) only [go_sem, bytesD, List.length_map, beq_self_eq_true, bne_self_eq_false, e3, e4, e1, e2])); try rfl)
                  · first | rfl | (conv => lhs; simp only [go_sem, bytesD, List.length_map, beq_self_eq_true, bne_self_eq_false, e3, e4, e1, e2])))
            | exact Sub.refl _ | omega)
  · refine does0 c_laws_FnPlanSize mixed (Nat.le_of_ble_eq_true rfl) ?_
    conv => arg 3; whnf
    repeat' (first | with_reducible refine acc_none ?_ | (conv in hold _ => simp (disch := omega) only [go_sem, bytesD, List.length_map, beq_self_eq_true, bne_self_eq_false]) | refine Stp.go ?_ | (with_reducible first | refine it_pos rfl ?_ | refine it_neg (by decide) ?_ | refine st_nil rfl ?_ | refine s_op ?_ ?_ | exact True.intro) | ((with_reducible first | refine dw_reg0 ?_ | refine dw_regB ?_); (conv => arg 3; whnf)) | (refine Spl.go (fun hq he => ?_) (fun hq he => ?_) <;> first | (exfalso; clear hq; omega) | ((try (first | (conv => arg 8; simp only [hq]) | (conv => arg 4; simp only [hq]))); clear hq)) | ((with_reducible first | refine c_split (fun hq => ?_) (fun hq => ?_) | refine q_split (fun hq => ?_) (fun hq => ?_)) <;> (try (first | (conv => arg 8; simp only [hq]) | (conv => arg 4; simp only [hq])))) | (with_reducible refine fin_0 ?_ (by first | rfl | (conv => lhs; simp only [go_sem, bytesD, List.length_map, beq_self_eq_true, bne_self_eq_false])) ?_) | exact Sub.refl _ | omega)
theorem walk_FnPlanSize (a : Option Addr) (len cap : Nat) (zs : List Int) (w : World) (h : IsRow .u8 w a len cap zs) :
    Calls Try.prog 3 #[.slice a len cap] w fun e W' => e = .returned (.bool true) ∧ Below w.heap.size w W' := walk_of does_FnPlanSize a len cap zs w h
end Go.Proofs.Ytpfedjaedlfdfaa
