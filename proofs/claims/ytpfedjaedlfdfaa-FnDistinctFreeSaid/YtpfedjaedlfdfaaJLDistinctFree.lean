/-
  The law that Distinct is superfluous for plans without duplicates. No condition.
-/
import Derived.Test.YtpfedjaedlfdfaaDcWDfL
import Derived.Test.YtpfedjaedlfdfaaDca
import Derived.Test.YtpfedjaedlfdfaaDcg
import Derived.Test.YtpfedjaedlfdfaaJVPlanE
import Derived.Test.YtpfedjaedlfdfaaKVDfF
import Derived.Test.YtpfedjaedlfdfaaJVWidF
import Derived.Test.YtpfedjaedlfdfaaVLaw
import Derived.Test.YtpfedjaedlfdfaaOpenC
import Derived.Test.YtpfedjaedlfdfaaFacts
set_option maxHeartbeats 4000000
set_option maxRecDepth 100000
set_option linter.unusedVariables false
set_option linter.unusedSimpArgs false
namespace Go.Proofs.Ytpfedjaedlfdfaa
open Go.RowKit

theorem DrawIsDuplicateFree_ok (bs : List Nat) (hb : ∀ b, b ∈ bs → b < 256) : ∃ (x : Pl) (ws : List Int) (sets : List Bool), Does Try.prog 15 [] [bytesD bs] (.tup [pD x, intsD ws, boolsD sets]) [] ∧ psz x ≤ 11100 ∧ ws.length ≤ 3 ∧ sets.length ≤ 3 := by
  have hs : Src (bs.take 2000) := ⟨fun b h => hb b (List.mem_of_mem_take h), by rw [List.length_take]; omega⟩
  have hr := newReader_ok bs
  generalize bs.take 2000 = rs at hs hr
  obtain ⟨x, ws, q, hx, hl, _, hz, hq0, hq1⟩ := planAndWidths_ok hs 0 (by omega)
  obtain ⟨sets, ps, hsl, h0, hd, hp0, hp1⟩ := draws (fun p (v : Bool) q => ∃ k : Int, DPick rs p 3 k ∧ q = p + 1 ∧ v = decide (0 < k)) 1000000 1 (fun p hp => by
    obtain ⟨k, hk, _⟩ := pick_ok hs p (by omega) 3 (by omega)
    exact ⟨_, _, ⟨k, hk, rfl, rfl⟩, by omega, by omega⟩) ws.length q (by omega)
  obtain ⟨k, hk, _⟩ := pick_ok hs (ps ws.length) (by omega) 16 (by omega)
  have t1 : (sets.map Bo).take ws.length = sets.map Bo := List.take_of_length_le (by rw [List.length_map]; omega)
  have t2 : (sets.map Bo).drop 1 = (sets.drop 1).map Bo := List.map_drop.symm
  have t3 : ((sets.drop 1).map Bo).take (ws.length - 1) = (sets.drop 1).map Bo := List.take_of_length_le (by rw [List.length_map, List.length_drop]; omega)
  refine ⟨x, ws, if k = 0 then sets.drop 1 else sets, ?_, hz, by omega, ?_⟩
  · refine does0 c_spec_DrawIsDuplicateFree mixed (Nat.le_of_ble_eq_true rfl) ?_
    conv => arg 3; whnf
    repeat' (first
      | with_reducible refine acc_none ?_ | (conv in hold _ => simp (disch := omega) only [go_sem]) | refine Stp.go ?_ | (with_reducible first | refine it_pos rfl ?_ | refine it_neg (by decide) ?_ | refine st_nil rfl ?_ | refine s_op ?_ ?_ | exact True.intro) | ((with_reducible first | refine dw_reg0 ?_ | refine dw_regB ?_); (conv => arg 3; whnf)) | (refine Spl.go (fun hq he => ?_) (fun hq he => ?_) <;> first | (exfalso; clear hq; omega) | ((try (first | (conv => arg 8; simp only [hq]) | (conv => arg 4; simp only [hq]))); clear hq)) | ((with_reducible first | refine c_split (fun hq => ?_) (fun hq => ?_) | refine q_split (fun hq => ?_) (fun hq => ?_)) <;> (try (first | (conv => arg 8; simp only [hq]) | (conv => arg 4; simp only [hq])))) | (with_reducible refine fin_0 ?_ (by first | rfl | (conv => lhs; simp only [go_sem])) ?_)
      | (with_reducible show evC _ _ _ _ _ _ _ _ _ _ _ _
         first
         | (refine c_doesR [3000001] (hr) (callOK_of rfl (Nat.le_of_ble_eq_true rfl) rfl ?_ ?_) ?_ ?_
            iterate 2 · repeat' (first | (conv in hold _ => simp (disch := omega) only [go_sem]) | exact True.intro | exact Sub.refl _ | omega)
            · ((conv => rhs; simp (disch := omega) only [go_sem]); try rfl))
         | (refine c_doesR [3000001] (hx) (callOK_of rfl (Nat.le_of_ble_eq_true rfl) rfl ?_ ?_) ?_ ?_
            iterate 2 · repeat' (first | (conv in hold _ => simp (disch := omega) only [go_sem]) | exact True.intro | exact Sub.refl _ | omega)
            · ((conv => rhs; simp (disch := omega) only [go_sem]); try rfl)))
      | exact Sub.refl _ | omega)
    refine dw_for (c := 4) (l := fun i => [(2, .ref 1000000 0), (5, .ref 1000001 0), (6, .ref 1000002 0), (7, intsD ws), (8, .own 1000003 1 i), (9, I i), (1000000, .obj [I 0, I 0, .nul, .nul, .nul]), (1000001, rdD rs (ps i)), (1000002, .obj [I x.k, I x.t, .sl 5 (x.es.map eD), intsD x.cs, .sl 5 (x.ks.map pD)]), (1000003, .row 1 ((sets.take i).map Bo))]) ws.length (fun _ => True) 0 trivial ((wk_row 8 2000099 1 (by decide) (by decide) rfl rfl).trans (Wk.list [2000002, 3000001, 2000006, 2000099] rfl rfl ?_)) (fun i hi _ => ?_) (Nat.zero_le _)
    · rw [h0]
      repeat' (first | (conv in hold _ => simp (disch := omega) only [go_sem]) | exact True.intro | exact Sub.refl _ | omega)
      exact rfl
    · have hlt : (sets.take i).length = i := by rw [List.length_take]; omega
      have hmt := take_map Bo (vs := sets) (i := i) (by omega)
      by_cases hil : i < ws.length
      · obtain ⟨v, hv⟩ : ∃ v, sets[i]? = some v := ⟨_, List.getElem?_eq_getElem (by omega)⟩
        obtain ⟨j, x1, x2, rfl⟩ := hd i v hv
        have hnx := take_next hv
        repeat' (first
          | with_reducible refine acc_none ?_ | (conv in hold _ => simp (disch := omega) only [go_sem, List.length_map, hlt]) | refine Stp.go ?_ | (with_reducible first | refine it_pos rfl ?_ | refine it_neg (by decide) ?_ | refine st_nil rfl ?_ | refine s_op ?_ ?_ | exact True.intro) | ((with_reducible first | refine dw_reg0 ?_ | refine dw_regB ?_); (conv => arg 3; whnf)) | (refine Spl.go (fun hq he => ?_) (fun hq he => ?_) <;> first | (exfalso; clear hq; omega) | ((try (first | (conv => arg 8; simp only [hq]) | (conv => arg 4; simp only [hq]))); clear hq)) | ((with_reducible first | refine c_split (fun hq => ?_) (fun hq => ?_) | refine q_split (fun hq => ?_) (fun hq => ?_)) <;> (try (first | (conv => arg 8; simp only [hq]) | (conv => arg 4; simp only [hq])))) | (with_reducible refine fin_0 ?_ (by first | rfl | (conv => lhs; simp only [go_sem, List.length_map, hlt])) ?_)
          | (with_reducible show evC _ _ _ _ _ _ _ _ _ _ _ _
             first
             | (refine c_doesR [1000001] (x1) (callOK_of rfl (Nat.le_of_ble_eq_true rfl) rfl ?_ ?_) ?_ ?_
                iterate 2 · repeat' (first | (conv in hold _ => simp (disch := omega) only [go_sem, List.length_map, hlt]) | exact True.intro | exact Sub.refl _ | omega)
                · ((conv => rhs; simp (disch := omega) only [go_sem, List.length_map, hlt]); try rfl)))
          | exact Sub.refl _ | omega)
        refine ⟨hil, trivial, Wk.list [1000000, 1000001, 1000002, 2000029] rfl rfl ?_⟩
        repeat' (first | (conv in hold _ => simp (disch := omega) only [go_sem, List.length_map, hlt]) | exact True.intro | exact Sub.refl _ | omega)
        rw [hmt, hnx, List.map_append, x2]
        exact ⟨rfl, rfl⟩
      · obtain rfl : i = ws.length := by omega
        have e1 : sets.take ws.length = sets := List.take_of_length_le (by omega)
        by_cases hk0 : k = 0
        · rw [if_pos hk0]
          repeat' ((fail_if_success (with_reducible first | refine s_call ?_ | refine s_cal ?_ | refine s_inv ?_)); first | with_reducible refine acc_none ?_ | (conv in hold _ => simp (disch := omega) only [go_sem, e1]) | refine Stp.go ?_ | (with_reducible first | refine it_pos rfl ?_ | refine it_neg (by decide) ?_ | refine st_nil rfl ?_ | refine s_op ?_ ?_ | exact True.intro) | ((with_reducible first | refine dw_reg0 ?_ | refine dw_regB ?_); (conv => arg 3; whnf)) | (refine Spl.go (fun hq he => ?_) (fun hq he => ?_) <;> first | (exfalso; clear hq; omega) | ((try (first | (conv => arg 8; simp only [hq]) | (conv => arg 4; simp only [hq]))); clear hq)) | ((with_reducible first | refine c_split (fun hq => ?_) (fun hq => ?_) | refine q_split (fun hq => ?_) (fun hq => ?_)) <;> (try (first | (conv => arg 8; simp only [hq]) | (conv => arg 4; simp only [hq])))) | (with_reducible refine fin_0 ?_ (by first | rfl | (conv => lhs; simp only [go_sem, e1])) ?_) | exact Sub.refl _ | omega)
          refine s_pre (pre_frz (t := 8) (g := 1000003) (by decide) (by decide) rfl ?_) ?_
          rotate_left
          repeat' (first | with_reducible refine acc_none ?_ | (conv in hold _ => simp (disch := omega) only [go_sem, e1, t1, hsl, Nat.le_refl]) | refine Stp.go ?_ | (with_reducible first | refine it_pos rfl ?_ | refine it_neg (by decide) ?_ | refine st_nil rfl ?_ | refine s_op ?_ ?_ | exact True.intro) | ((with_reducible first | refine dw_reg0 ?_ | refine dw_regB ?_); (conv => arg 3; whnf)) | (refine Spl.go (fun hq he => ?_) (fun hq he => ?_) <;> first | (exfalso; clear hq; omega) | ((try (first | (conv => arg 8; simp only [hq]) | (conv => arg 4; simp only [hq]))); clear hq)) | ((with_reducible first | refine c_split (fun hq => ?_) (fun hq => ?_) | refine q_split (fun hq => ?_) (fun hq => ?_)) <;> (try (first | (conv => arg 8; simp only [hq]) | (conv => arg 4; simp only [hq])))) | (with_reducible refine fin_0 ?_ (by first | rfl | (conv => lhs; simp only [go_sem, e1, t1, hsl, Nat.le_refl])) ?_) | exact Sub.refl _ | omega)
          refine c_doesR [1000001] (hk) (callOK_of rfl (Nat.le_of_ble_eq_true rfl) rfl ?_ ?_) ?_ ?_
          · repeat' (first | (conv in hold _ => simp (disch := omega) only [go_sem, e1, List.length_map, hsl, t2, t3]) | exact True.intro | exact Sub.refl _ | omega)
          · repeat' (first | (conv in hold _ => simp (disch := omega) only [go_sem, e1, List.length_map, hsl, t2, t3]) | exact True.intro | exact Sub.refl _ | omega)
          · ((conv => rhs; simp (disch := omega) only [go_sem, e1, List.length_map, hsl, t2, t3]); try rfl)
          repeat' (first | with_reducible refine acc_none ?_ | (conv in hold _ => simp (disch := omega) only [go_sem, e1, List.length_map, hsl, t2, t3]) | refine Stp.go ?_ | (with_reducible first | refine it_pos rfl ?_ | refine it_neg (by decide) ?_ | refine st_nil rfl ?_ | refine s_op ?_ ?_ | exact True.intro) | ((with_reducible first | refine dw_reg0 ?_ | refine dw_regB ?_); (conv => arg 3; whnf)) | (refine Spl.go (fun hq he => ?_) (fun hq he => ?_) <;> first | (exfalso; clear hq; omega) | ((try (first | (conv => arg 8; simp only [hq]) | (conv => arg 4; simp only [hq]))); clear hq)) | ((with_reducible first | refine c_split (fun hq => ?_) (fun hq => ?_) | refine q_split (fun hq => ?_) (fun hq => ?_)) <;> (try (first | (conv => arg 8; simp only [hq]) | (conv => arg 4; simp only [hq])))) | (with_reducible refine fin_0 ?_ (by first | rfl | (conv => lhs; simp only [go_sem, e1, List.length_map, hsl, t2, t3])) ?_) | exact Sub.refl _ | omega)
          all_goals first
            | exact bools_pur _
            | (rw [t1, t2]; exact Sub.refl _)
            | exact Sub.refl _
        · rw [if_neg hk0]
          repeat' ((fail_if_success (with_reducible first | refine s_call ?_ | refine s_cal ?_ | refine s_inv ?_)); first | with_reducible refine acc_none ?_ | (conv in hold _ => simp (disch := omega) only [go_sem, e1]) | refine Stp.go ?_ | (with_reducible first | refine it_pos rfl ?_ | refine it_neg (by decide) ?_ | refine st_nil rfl ?_ | refine s_op ?_ ?_ | exact True.intro) | ((with_reducible first | refine dw_reg0 ?_ | refine dw_regB ?_); (conv => arg 3; whnf)) | (refine Spl.go (fun hq he => ?_) (fun hq he => ?_) <;> first | (exfalso; clear hq; omega) | ((try (first | (conv => arg 8; simp only [hq]) | (conv => arg 4; simp only [hq]))); clear hq)) | ((with_reducible first | refine c_split (fun hq => ?_) (fun hq => ?_) | refine q_split (fun hq => ?_) (fun hq => ?_)) <;> (try (first | (conv => arg 8; simp only [hq]) | (conv => arg 4; simp only [hq])))) | (with_reducible refine fin_0 ?_ (by first | rfl | (conv => lhs; simp only [go_sem, e1])) ?_) | exact Sub.refl _ | omega)
          refine s_pre (pre_frz (t := 8) (g := 1000003) (by decide) (by decide) rfl ?_) ?_
          rotate_left
          repeat' (first | with_reducible refine acc_none ?_ | (conv in hold _ => simp (disch := omega) only [go_sem, e1, t1, hsl, Nat.le_refl]) | refine Stp.go ?_ | (with_reducible first | refine it_pos rfl ?_ | refine it_neg (by decide) ?_ | refine st_nil rfl ?_ | refine s_op ?_ ?_ | exact True.intro) | ((with_reducible first | refine dw_reg0 ?_ | refine dw_regB ?_); (conv => arg 3; whnf)) | (refine Spl.go (fun hq he => ?_) (fun hq he => ?_) <;> first | (exfalso; clear hq; omega) | ((try (first | (conv => arg 8; simp only [hq]) | (conv => arg 4; simp only [hq]))); clear hq)) | ((with_reducible first | refine c_split (fun hq => ?_) (fun hq => ?_) | refine q_split (fun hq => ?_) (fun hq => ?_)) <;> (try (first | (conv => arg 8; simp only [hq]) | (conv => arg 4; simp only [hq])))) | (with_reducible refine fin_0 ?_ (by first | rfl | (conv => lhs; simp only [go_sem, e1, t1, hsl, Nat.le_refl])) ?_) | exact Sub.refl _ | omega)
          refine c_doesR [1000001] (hk) (callOK_of rfl (Nat.le_of_ble_eq_true rfl) rfl ?_ ?_) ?_ ?_
          · repeat' (first | (conv in hold _ => simp (disch := omega) only [go_sem, e1, List.length_map, hsl, t2, t3]) | exact True.intro | exact Sub.refl _ | omega)
          · repeat' (first | (conv in hold _ => simp (disch := omega) only [go_sem, e1, List.length_map, hsl, t2, t3]) | exact True.intro | exact Sub.refl _ | omega)
          · ((conv => rhs; simp (disch := omega) only [go_sem, e1, List.length_map, hsl, t2, t3]); try rfl)
          repeat' (first | with_reducible refine acc_none ?_ | (conv in hold _ => simp (disch := omega) only [go_sem, e1, List.length_map, hsl, t2, t3]) | refine Stp.go ?_ | (with_reducible first | refine it_pos rfl ?_ | refine it_neg (by decide) ?_ | refine st_nil rfl ?_ | refine s_op ?_ ?_ | exact True.intro) | ((with_reducible first | refine dw_reg0 ?_ | refine dw_regB ?_); (conv => arg 3; whnf)) | (refine Spl.go (fun hq he => ?_) (fun hq he => ?_) <;> first | (exfalso; clear hq; omega) | ((try (first | (conv => arg 8; simp only [hq]) | (conv => arg 4; simp only [hq]))); clear hq)) | ((with_reducible first | refine c_split (fun hq => ?_) (fun hq => ?_) | refine q_split (fun hq => ?_) (fun hq => ?_)) <;> (try (first | (conv => arg 8; simp only [hq]) | (conv => arg 4; simp only [hq])))) | (with_reducible refine fin_0 ?_ (by first | rfl | (conv => lhs; simp only [go_sem, e1, List.length_map, hsl, t2, t3])) ?_) | exact Sub.refl _ | omega)
          all_goals first
            | exact bools_pur _
            | (rw [t1, t2]; exact Sub.refl _)
            | exact Sub.refl _
  · split
    · rw [List.length_drop]; omega
    · omega
theorem dist_true {x : Pl} (hs : psz x ≤ 11100) {ws : List Int} (hl : ws.length ≤ 3) {sets : List Bool} (hlen : sets.length = ws.length) (hw : PV ws (.mk 7 0 [] [] [x]) ≠ 0) : Does Try.prog 16 [] [pD (.mk 7 0 [] [] [x]), intsD ws, boolsD sets] (Bo true) [] := by
  have hz : psz (.mk 7 0 [] [] [x]) ≤ 1048576 := by rw [psz_one]; show 0 + 0 + (1 + psz x) ≤ _; omega
  obtain ⟨hr, h1, h2⟩ := PlanWidth_fn _ hz ws (by omega)
  have hwo := PV_ok hw
  have hfine := (PV_fine hw).fine _
  obtain ⟨b, _, hb⟩ := dup_ok hwo hlen x (hfine.kid (List.mem_singleton.2 rfl)) (by omega)
  have hf := hfine.fields
  have r2 := foldB_step ws sets (.mk 7 0 [] [] [x]) hz [b] rfl _ (fun i y c hy hc => by
    have e1 := List.mem_of_getElem? hy
    have e1' : y ∈ [x] := e1
    have e2 := List.mem_of_getElem? hc
    obtain rfl := List.mem_singleton.1 e1'
    obtain rfl := List.mem_singleton.1 e2
    exact hb) (partB_ok ws sets (.mk 7 0 [] [] [x]) hf (fun h => absurd (show (7 : Int) = 1 from h) (by decide)) false (fun h => absurd (show (7 : Int) = 3 from h) (by decide)) rfl)
  have ek : dfK sets (Pl.mk 7 0 [] [] [x]).k (Pl.mk 7 0 [] [] [x]).t false [b] = true := rfl
  rw [ek] at r2
  generalize Pl.mk 7 0 [] [] [x] = p at *
  generalize PV ws p = w at *
  have e0 : (w == 0) = false := beq_eq_false_iff_ne.2 hw
  have e1 : ((sets.length : Int) != (ws.length : Int)) = false := by rw [bne_eq_false_iff_eq]; omega
  have r3 : Does Try.prog 39 [] [pD p, dfV ws sets] (Bo true) [] := by
    refine does0 c_impl_deriveProperty_bool_ mixed (Nat.le_of_ble_eq_true rfl) ?_
    conv => arg 3; whnf
    repeat' (first
      | with_reducible refine acc_none ?_ | (conv in hold _ => simp (disch := omega) only [go_sem]) | refine Stp.go ?_ | (with_reducible first | refine it_pos rfl ?_ | refine it_neg (by decide) ?_ | refine st_nil rfl ?_ | refine s_op ?_ ?_ | exact True.intro) | ((with_reducible first | refine dw_reg0 ?_ | refine dw_regB ?_); (conv => arg 3; whnf)) | (refine Spl.go (fun hq he => ?_) (fun hq he => ?_) <;> first | (exfalso; clear hq; omega) | ((try (first | (conv => arg 8; simp only [hq]) | (conv => arg 4; simp only [hq]))); clear hq)) | ((with_reducible first | refine c_split (fun hq => ?_) (fun hq => ?_) | refine q_split (fun hq => ?_) (fun hq => ?_)) <;> (try (first | (conv => arg 8; simp only [hq]) | (conv => arg 4; simp only [hq])))) | (with_reducible refine fin_0 ?_ (by first | rfl | (conv => lhs; simp only [go_sem])) ?_)
      | (with_reducible show evC _ _ _ _ _ _ _ _ _ _ _ _
         first
         | (refine c_doesR [2000003] (r2) (callOK_of rfl (Nat.le_of_ble_eq_true rfl) rfl ?_ ?_) ?_ ?_
            iterate 2 · repeat' (first | (conv in hold _ => simp (disch := omega) only [go_sem]) | exact True.intro | exact Sub.refl _ | omega)
            · ((conv => rhs; simp (disch := omega) only [go_sem]); try rfl)))
      | exact Sub.refl _ | omega)
  refine does0 c_impl_IsDuplicateFree mixed (Nat.le_of_ble_eq_true rfl) ?_
  conv => arg 3; whnf
  repeat' (first
    | with_reducible refine acc_none ?_ | (conv in hold _ => simp (disch := omega) only [go_sem, e0, e1]) | refine Stp.go ?_ | (with_reducible first | refine it_pos rfl ?_ | refine it_neg (by decide) ?_ | refine st_nil rfl ?_ | refine s_op ?_ ?_ | exact True.intro) | ((with_reducible first | refine dw_reg0 ?_ | refine dw_regB ?_); (conv => arg 3; whnf)) | (refine Spl.go (fun hq he => ?_) (fun hq he => ?_) <;> first | (exfalso; clear hq; omega) | ((try (first | (conv => arg 8; simp only [hq]) | (conv => arg 4; simp only [hq]))); clear hq)) | ((with_reducible first | refine c_split (fun hq => ?_) (fun hq => ?_) | refine q_split (fun hq => ?_) (fun hq => ?_)) <;> (try (first | (conv => arg 8; simp only [hq]) | (conv => arg 4; simp only [hq])))) | (with_reducible refine fin_0 ?_ (by first | rfl | (conv => lhs; simp only [go_sem, e0, e1])) ?_)
    | (with_reducible show evC _ _ _ _ _ _ _ _ _ _ _ _
       first
       | (refine c_doesE (h2) ?_ ?_ ?_
          · ((try (conv => rhs; simp (disch := omega) only [go_sem, e0, e1])); try rfl)
          · first | rfl | (conv => lhs; simp only [go_sem, e0, e1]))
       | (refine c_doesE (r3) ?_ ?_ ?_
          · ((try (conv => rhs; simp (disch := omega) only [go_sem, e0, e1])); try rfl)
          · first | rfl | (conv => lhs; simp only [go_sem, e0, e1])))
    | exact Sub.refl _ | omega)
theorem does_FnDistinctFree (bs : List Nat) (hb : ∀ b, b ∈ bs → b < 256) : Does Try.prog 4 [] [bytesD bs] (Bo true) [] := by
  obtain ⟨x, ws, sets, hd, hz, hl, hsl⟩ := DrawIsDuplicateFree_ok bs hb
  by_cases hb1 : bs.length ≤ 1048576
  · obtain ⟨b, h1, h2⟩ := IsDuplicateFree_ok x (by omega) ws (by omega) sets (by omega)
    obtain ⟨hr, _, h3'⟩ := PlanWidth_fn (.mk 7 0 [] [] [x]) (by rw [psz_one]; show 0 + 0 + (1 + psz x) ≤ _; omega) ws (by omega)
    have h3 : Does Try.prog 13 [] [.agg [I 7, I 0, .nul, .nul, .sl 5 [pD x]], intsD ws] (I (PV ws (.mk 7 0 [] [] [x]))) [] := h3'.weak ⟨plS (Sub.nul 5) (Sub.nul 1) (Sub.refl _), Sub.refl _, trivial⟩ (Sub.refl _)
    by_cases hw : PV ws (.mk 7 0 [] [] [x]) = 0
    · rw [hw] at h3
      refine does0 c_laws_FnDistinctFree mixed (Nat.le_of_ble_eq_true rfl) ?_
      conv => arg 3; whnf
      repeat' (first
        | with_reducible refine acc_none ?_ | (conv in hold _ => simp (disch := omega) only [go_sem, bytesD, List.length_map, beq_self_eq_true, bne_self_eq_false]) | refine Stp.go ?_ | (with_reducible first | refine it_pos rfl ?_ | refine it_neg (by decide) ?_ | refine st_nil rfl ?_ | refine s_op ?_ ?_ | exact True.intro) | ((with_reducible first | refine dw_reg0 ?_ | refine dw_regB ?_); (conv => arg 3; whnf)) | (refine Spl.go (fun hq he => ?_) (fun hq he => ?_) <;> first | (exfalso; clear hq; omega) | ((try (first | (conv => arg 8; simp only [hq]) | (conv => arg 4; simp only [hq]))); clear hq)) | ((with_reducible first | refine c_split (fun hq => ?_) (fun hq => ?_) | refine q_split (fun hq => ?_) (fun hq => ?_)) <;> (try (first | (conv => arg 8; simp only [hq]) | (conv => arg 4; simp only [hq])))) | (with_reducible refine fin_0 ?_ (by first | rfl | (conv => lhs; simp only [go_sem, bytesD, List.length_map, beq_self_eq_true, bne_self_eq_false])) ?_)
        | (with_reducible show evC _ _ _ _ _ _ _ _ _ _ _ _
           first
           | (refine c_doesE (hd) ?_ ?_ ?_
              · ((try (conv => rhs; simp (disch := omega) only [go_sem, bytesD, List.length_map, beq_self_eq_true, bne_self_eq_false])); try rfl)
              · first | rfl | (conv => lhs; simp only [go_sem, bytesD, List.length_map, beq_self_eq_true, bne_self_eq_false]))
           | (refine c_doesE (h2) ?_ ?_ ?_
              · ((try (conv => rhs; simp (disch := omega) only [go_sem, bytesD, List.length_map, beq_self_eq_true, bne_self_eq_false])); try rfl)
              · first | rfl | (conv => lhs; simp only [go_sem, bytesD, List.length_map, beq_self_eq_true, bne_self_eq_false]))
           | (refine c_doesE (h1) ?_ ?_ ?_
              · ((try (conv => rhs; simp (disch := omega) only [go_sem, bytesD, List.length_map, beq_self_eq_true, bne_self_eq_false])); try rfl)
              · first | rfl | (conv => lhs; simp only [go_sem, bytesD, List.length_map, beq_self_eq_true, bne_self_eq_false]))
           | (refine c_doesE (h3) ?_ ?_ ?_
              · ((try (conv => rhs; simp (disch := omega) only [go_sem, bytesD, List.length_map, beq_self_eq_true, bne_self_eq_false])); try rfl)
              · first | rfl | (conv => lhs; simp only [go_sem, bytesD, List.length_map, beq_self_eq_true, bne_self_eq_false]))
           | (refine c_doesE (h1) ?_ ?_ ?_
              · ((try (conv => rhs; simp (disch := omega) only [go_sem, bytesD, List.length_map, beq_self_eq_true, bne_self_eq_false])); try rfl)
              · first | rfl | (conv => lhs; simp only [go_sem, bytesD, List.length_map, beq_self_eq_true, bne_self_eq_false])))
        | exact Sub.refl _ | omega)
    · have e0 : (PV ws (.mk 7 0 [] [] [x]) == 0) = false := beq_eq_false_iff_ne.2 hw
      by_cases hlen : sets.length = ws.length
      · have h4 : Does Try.prog 16 [] [.agg [I 7, I 0, .nul, .nul, .sl 5 [pD x]], intsD ws, boolsD sets] (Bo true) [] := (dist_true hz hl hlen hw).weak ⟨plS (Sub.nul 5) (Sub.nul 1) (Sub.refl _), Sub.refl _, Sub.refl _, trivial⟩ (Sub.refl _)
        have e1 : ((sets.length : Int) != (ws.length : Int)) = false := by rw [bne_eq_false_iff_eq]; omega
        clear h3'
        generalize PV ws (.mk 7 0 [] [] [x]) = w at *
        refine does0 c_laws_FnDistinctFree mixed (Nat.le_of_ble_eq_true rfl) ?_
        conv => arg 3; whnf
        repeat' (first
          | with_reducible refine acc_none ?_ | (conv in hold _ => simp (disch := omega) only [go_sem, bytesD, List.length_map, beq_self_eq_true, bne_self_eq_false, e0, e1]) | refine Stp.go ?_ | (with_reducible first | refine it_pos rfl ?_ | refine it_neg (by decide) ?_ | refine st_nil rfl ?_ | refine s_op ?_ ?_ | exact True.intro) | ((with_reducible first | refine dw_reg0 ?_ | refine dw_regB ?_); (conv => arg 3; whnf)) | (refine Spl.go (fun hq he => ?_) (fun hq he => ?_) <;> first | (exfalso; clear hq; omega) | ((try (first | (conv => arg 8; simp only [hq]) | (conv => arg 4; simp only [hq]))); clear hq)) | ((with_reducible first | refine c_split (fun hq => ?_) (fun hq => ?_) | refine q_split (fun hq => ?_) (fun hq => ?_)) <;> (try (first | (conv => arg 8; simp only [hq]) | (conv => arg 4; simp only [hq])))) | (with_reducible refine fin_0 ?_ (by first | rfl | (conv => lhs; simp only [go_sem, bytesD, List.length_map, beq_self_eq_true, bne_self_eq_false, e0, e1])) ?_)
          | (with_reducible show evC _ _ _ _ _ _ _ _ _ _ _ _
             first
             | (refine c_doesE (hd) ?_ ?_ ?_
                · ((try (conv => rhs; simp (disch := omega) only [go_sem, bytesD, List.length_map, beq_self_eq_true, bne_self_eq_false, e0, e1])); try rfl)
                · first | rfl | (conv => lhs; simp only [go_sem, bytesD, List.length_map, beq_self_eq_true, bne_self_eq_false, e0, e1]))
             | (refine c_doesE (h2) ?_ ?_ ?_
                · ((try (conv => rhs; simp (disch := omega) only [go_sem, bytesD, List.length_map, beq_self_eq_true, bne_self_eq_false, e0, e1])); try rfl)
                · first | rfl | (conv => lhs; simp only [go_sem, bytesD, List.length_map, beq_self_eq_true, bne_self_eq_false, e0, e1]))
             | (refine c_doesE (h1) ?_ ?_ ?_
                · ((try (conv => rhs; simp (disch := omega) only [go_sem, bytesD, List.length_map, beq_self_eq_true, bne_self_eq_false, e0, e1])); try rfl)
                · first | rfl | (conv => lhs; simp only [go_sem, bytesD, List.length_map, beq_self_eq_true, bne_self_eq_false, e0, e1]))
             | (refine c_doesE (h3) ?_ ?_ ?_
                · ((try (conv => rhs; simp (disch := omega) only [go_sem, bytesD, List.length_map, beq_self_eq_true, bne_self_eq_false, e0, e1])); try rfl)
                · first | rfl | (conv => lhs; simp only [go_sem, bytesD, List.length_map, beq_self_eq_true, bne_self_eq_false, e0, e1]))
             | (refine c_doesE (h4) ?_ ?_ ?_
                · ((try (conv => rhs; simp (disch := omega) only [go_sem, bytesD, List.length_map, beq_self_eq_true, bne_self_eq_false, e0, e1])); try rfl)
                · first | rfl | (conv => lhs; simp only [go_sem, bytesD, List.length_map, beq_self_eq_true, bne_self_eq_false, e0, e1])))
          | exact Sub.refl _ | omega)
      · have e1 : ((sets.length : Int) != (ws.length : Int)) = true := by rw [bne_iff_ne]; omega
        clear h3'
        generalize PV ws (.mk 7 0 [] [] [x]) = w at *
        refine does0 c_laws_FnDistinctFree mixed (Nat.le_of_ble_eq_true rfl) ?_
        conv => arg 3; whnf
        repeat' (first
          | with_reducible refine acc_none ?_ | (conv in hold _ => simp (disch := omega) only [go_sem, bytesD, List.length_map, beq_self_eq_true, bne_self_eq_false, e0, e1]) | refine Stp.go ?_ | (with_reducible first | refine it_pos rfl ?_ | refine it_neg (by decide) ?_ | refine st_nil rfl ?_ | refine s_op ?_ ?_ | exact True.intro) | ((with_reducible first | refine dw_reg0 ?_ | refine dw_regB ?_); (conv => arg 3; whnf)) | (refine Spl.go (fun hq he => ?_) (fun hq he => ?_) <;> first | (exfalso; clear hq; omega) | ((try (first | (conv => arg 8; simp only [hq]) | (conv => arg 4; simp only [hq]))); clear hq)) | ((with_reducible first | refine c_split (fun hq => ?_) (fun hq => ?_) | refine q_split (fun hq => ?_) (fun hq => ?_)) <;> (try (first | (conv => arg 8; simp only [hq]) | (conv => arg 4; simp only [hq])))) | (with_reducible refine fin_0 ?_ (by first | rfl | (conv => lhs; simp only [go_sem, bytesD, List.length_map, beq_self_eq_true, bne_self_eq_false, e0, e1])) ?_)
          | (with_reducible show evC _ _ _ _ _ _ _ _ _ _ _ _
             first
             | (refine c_doesE (hd) ?_ ?_ ?_
                · ((try (conv => rhs; simp (disch := omega) only [go_sem, bytesD, List.length_map, beq_self_eq_true, bne_self_eq_false, e0, e1])); try rfl)
                · first | rfl | (conv => lhs; simp only [go_sem, bytesD, List.length_map, beq_self_eq_true, bne_self_eq_false, e0, e1]))
             | (refine c_doesE (h2) ?_ ?_ ?_
                · ((try (conv => rhs; simp (disch := omega) only [go_sem, bytesD, List.length_map, beq_self_eq_true, bne_self_eq_false, e0, e1])); try rfl)
                · first | rfl | (conv => lhs; simp only [go_sem, bytesD, List.length_map, beq_self_eq_true, bne_self_eq_false, e0, e1]))
             | (refine c_doesE (h1) ?_ ?_ ?_
                · ((try (conv => rhs; simp (disch := omega) only [go_sem, bytesD, List.length_map, beq_self_eq_true, bne_self_eq_false, e0, e1])); try rfl)
                · first | rfl | (conv => lhs; simp only [go_sem, bytesD, List.length_map, beq_self_eq_true, bne_self_eq_false, e0, e1]))
             | (refine c_doesE (h3) ?_ ?_ ?_
                · ((try (conv => rhs; simp (disch := omega) only [go_sem, bytesD, List.length_map, beq_self_eq_true, bne_self_eq_false, e0, e1])); try rfl)
                · first | rfl | (conv => lhs; simp only [go_sem, bytesD, List.length_map, beq_self_eq_true, bne_self_eq_false, e0, e1]))
             | (refine c_doesE (h1) ?_ ?_ ?_
                · ((try (conv => rhs; simp (disch := omega) only [go_sem, bytesD, List.length_map, beq_self_eq_true, bne_self_eq_false, e0, e1])); try rfl)
                · first | rfl | (conv => lhs; simp only [go_sem, bytesD, List.length_map, beq_self_eq_true, bne_self_eq_false, e0, e1])))
          | exact Sub.refl _ | omega)
  · refine does0 c_laws_FnDistinctFree mixed (Nat.le_of_ble_eq_true rfl) ?_
    conv => arg 3; whnf
    repeat' (first | with_reducible refine acc_none ?_ | (conv in hold _ => simp (disch := omega) only [go_sem, bytesD, List.length_map, beq_self_eq_true, bne_self_eq_false]) | refine Stp.go ?_ | (with_reducible first | refine it_pos rfl ?_ | refine it_neg (by decide) ?_ | refine st_nil rfl ?_ | refine s_op ?_ ?_ | exact True.intro) | ((with_reducible first | refine dw_reg0 ?_ | refine dw_regB ?_); (conv => arg 3; whnf)) | (refine Spl.go (fun hq he => ?_) (fun hq he => ?_) <;> first | (exfalso; clear hq; omega) | ((try (first | (conv => arg 8; simp only [hq]) | (conv => arg 4; simp only [hq]))); clear hq)) | ((with_reducible first | refine c_split (fun hq => ?_) (fun hq => ?_) | refine q_split (fun hq => ?_) (fun hq => ?_)) <;> (try (first | (conv => arg 8; simp only [hq]) | (conv => arg 4; simp only [hq])))) | (with_reducible refine fin_0 ?_ (by first | rfl | (conv => lhs; simp only [go_sem, bytesD, List.length_map, beq_self_eq_true, bne_self_eq_false])) ?_) | exact Sub.refl _ | omega)
theorem walk_FnDistinctFree (a : Option Addr) (len cap : Nat) (zs : List Int) (w : World) (h : IsRow .u8 w a len cap zs) :
    Calls Try.prog 4 #[.slice a len cap] w fun e W' => e = .returned (.bool true) ∧ Below w.heap.size w W' := walk_of does_FnDistinctFree a len cap zs w h
end Go.Proofs.Ytpfedjaedlfdfaa
namespace Go.Proofs.Ytpfedjaedlfdfaa.fnDistinctFree
open Go.ChangeShapes Go.WideShapes Go.ChangeAt Go.RowKit Go.Joins
set_option linter.unusedVariables false

set_option maxRecDepth 100000 in
theorem lifted (os : Os) (started : os.Started) (H : Type) (enc : TypeId × Value → H) :
    ReturnsInHanded {} Try.checked os 4 .any (Rows.fnDistinctFreeSpec.pre6 enc Try.prog Try.f4 Rows.fnDistinctFreeRow.domain false) (Rows.fnDistinctFreeSpec.post enc Try.prog Try.f4 false true false false) := by
  refine returnsInHanded_of_change (C := Try.checked) own started (by kernel_rfl) Try.func4
    (ChangeSpec.witness6 (enc := enc) (C := Try.checked) false ⟨#[], #[.slice none 0 0], []⟩ 8 (by kernel_rfl) (by kernel_rfl) (by kernel_rfl) (by kernel_rfl)) ?_
  intro W base args ds gs before hval0 hW hcnd _
  have hval : ∀ (j : Nat) t v, Try.f4.params[j]? = some t → args[j]? = some v → Value.okWide Try.prog W .any base t v := hval0
  have hW' := hW
  obtain ⟨p, q, hA0, hV, rfl, hfz, hnd⟩ := hW
  have hA : DataW.TrodAll enc Try.prog W 0 (fun _ => true) true Try.f4.params.toList args.toList ds p := hA0
  rw [Try.params4] at hA hval
  obtain ⟨v0, vs0, d0, ds0, p0, q0, hargs, rfl, rfl, h0, r0⟩ := trodAll_cons hA
  obtain ⟨rfl, rfl, rfl⟩ := trodAll_nil r0
  obtain rfl : args = #[v0] := by cases args; simp_all
  obtain ⟨rfl, rfl⟩ := trodVars_none hV
  have k0 := h0
  have lt0 : ∀ x ∈ p0, x.block < W.heap.size := by obtain ⟨m, hm⟩ := k0; exact DataW.trod_lt m _ _ _ hm
  obtain ⟨a0, len0, cap0, z0, hv0, wr0⟩ := open_code (hval 0 22 v0 rfl rfl) h0
  subst hv0
  clear hA0 hval0
  refine (walk_FnDistinctFree a0 len0 cap0 z0 W wr0).mono fun e W' ⟨he, bel⟩ => ?_
  subst he
  exact ⟨_, rfl, _, _, _, [], _, [], hW', trodAll_mk1 (shut_bool Try.underlying4 _), (trodAll_cons_mk (Below.trod laidOut (by kernel_rfl) (of_decide_eq_true (by kernel_rfl)) k0 bel lt0) trodAll_mk0), rfl, bel.frame _, fun h => by cases h⟩

theorem closed : joinedFacts Try.prog 4 Try.f4 Rows.fnDistinctFreeSpec Rows.fnDistinctFreeRow = true := by
  unfold joinedFacts
  exact Facts.and2 (Facts.and2 (Facts.and2 (Facts.and2 (Facts.and2 (Facts.and2 (Facts.and2 (Facts.and2 (Facts.and2 (Facts.and2 (Facts.and2 (Facts.and2 (Facts.and2 (Facts.and2 (Facts.and2 (Facts.and2 (Facts.and2 (Facts.and2 (Facts.and2 (Facts.and2 (Facts.and2 (Facts.and2 (Facts.and2 (Facts.and2 (Facts.and2 (Facts.and2 (Facts.and2 (Facts.and2 (Facts.and2 (Facts.and2 (Facts.and2 ((by as_aux_lemma => kernel_rfl)) Facts.p2) Facts.p3) (by as_aux_lemma => kernel_rfl)) (by as_aux_lemma => kernel_rfl)) (by as_aux_lemma => kernel_rfl)) Facts.p7) (by as_aux_lemma => kernel_rfl)) Facts.p9) (by as_aux_lemma => kernel_rfl)) (by as_aux_lemma => kernel_rfl)) (by as_aux_lemma => kernel_rfl)) (by as_aux_lemma => kernel_rfl)) (by as_aux_lemma => kernel_rfl)) (by as_aux_lemma => kernel_rfl)) (by as_aux_lemma => kernel_rfl)) (by as_aux_lemma => kernel_rfl)) (by as_aux_lemma => kernel_rfl)) (by as_aux_lemma => kernel_rfl)) (by as_aux_lemma => kernel_rfl)) (by as_aux_lemma => kernel_rfl)) (by as_aux_lemma => kernel_rfl)) Facts.p22) (by as_aux_lemma => kernel_rfl)) Facts.p23b) Facts.p24) Facts.p24b) Facts.p24c) (by as_aux_lemma => kernel_rfl)) (by as_aux_lemma => kernel_rfl)) (by as_aux_lemma => kernel_rfl)) (by as_aux_lemma => kernel_rfl)

theorem over : Rows.fnDistinctFreeRow.holds Try.pinned (OpenSpec.ofChange Rows.fnDistinctFreeSpec) :=
  OpenClaim.holds_of_wide 4 Try.f4 rfl rfl rfl rfl rfl rfl rfl ⟨rfl, rfl, rfl, rfl, rfl⟩ rfl rfl rfl rfl rfl (by as_aux_lemma => kernel_rfl) Try.func4 closed
    (of_decide_eq_true (by as_aux_lemma => kernel_rfl)) (by unfold Func.isWrapper; rw [if_neg (of_decide_eq_false (by as_aux_lemma => kernel_rfl))]; exact ⟨rfl, rfl⟩)
    (fun os started H enc _ => lifted os started H enc)

theorem proved : Rows.FnDistinctFreeSaid := over
end Go.Proofs.Ytpfedjaedlfdfaa.fnDistinctFree
