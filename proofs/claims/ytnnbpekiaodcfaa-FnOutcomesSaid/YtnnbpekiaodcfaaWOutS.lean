/-
  The law that outcomes are sound. No condition.
-/
import Derived.Test.YtnnbpekiaodcfaaDcWOutS
import Derived.Test.YtnnbpekiaodcfaaDca
import Derived.Test.YtnnbpekiaodcfaaWOutM
import Derived.Test.YtnnbpekiaodcfaaVWLaws
set_option maxHeartbeats 4000000
set_option maxRecDepth 100000
set_option linter.unusedVariables false
set_option linter.unusedSimpArgs false
namespace Go.Proofs.Ytnnbpekiaodcfaa
open Go.RowKit

/-- The value that the law takes for a column. -/
noncomputable def pickV (s k : Int) : V :=
  if intBit .and .i64 s 4 ≠ 0 ∧ (k.tmod 3 = 0 ∨ s = 4) then ⟨true, 0⟩ else
  if intBit .and .i64 s 2 ≠ 0 ∧ (k.tmod 2 = 0 ∨ intBit .and .i64 s 1 = 0) then ⟨false, 1 + k.tmod 3⟩ else
  if intBit .and .i64 s 1 ≠ 0 then ⟨false, 0⟩ else ⟨true, 0⟩
theorem t_pick : all8 (fun s => imp (decide (1 ≤ s)) ((imp (intBit .and .i64 s 4 != 0) (sub7 4 s)) && ((imp (intBit .and .i64 s 2 != 0) (sub7 2 s)) && ((imp (intBit .and .i64 s 1 != 0) (sub7 1 s)) && (imp (intBit .and .i64 s 1 == 0) (s == 4 || intBit .and .i64 s 2 != 0)))))) = true := by kernel_rfl
theorem pickV_ok {s k : Int} (hs : 1 ≤ s ∧ s ≤ 7) (hk : 0 ≤ k) : (pickV s k).ok ∧ sub7 (stV (pickV s k)) s = true := by
  have h := imp_at (all8_at t_pick (a := s) (by omega)) (decide_eq_true hs.1)
  simp only [Bool.and_eq_true] at h
  obtain ⟨h4, h2, h1, h0⟩ := h
  have k0 := Int.tmod_nonneg 3 hk
  have k1 := Int.tmod_lt_of_pos k (show (0 : Int) < 3 by decide)
  unfold pickV
  split
  · rename_i h
    exact ⟨⟨by decide, by decide, fun _ => rfl⟩, imp_at h4 (bne_iff_ne.2 h.1)⟩
  · rename_i hA
    split
    · rename_i h
      refine ⟨⟨by show -9999 ≤ 1 + k.tmod 3; omega, by show 1 + k.tmod 3 ≤ 9999; omega, fun h => by cases h⟩, ?_⟩
      have : stV ⟨false, 1 + k.tmod 3⟩ = 2 := by
        unfold stV
        rw [if_neg (by simp), if_neg (by show ¬ (1 + k.tmod 3 = 0); omega)]
      rw [this]
      exact imp_at h2 (bne_iff_ne.2 h.1)
    · rename_i hB
      split
      · rename_i h
        exact ⟨⟨by decide, by decide, fun h => by cases h⟩, imp_at h1 (bne_iff_ne.2 h)⟩
      · rename_i hC
        have hC' : intBit .and .i64 s 1 = 0 := Classical.byContradiction hC
        have := imp_at h0 (beq_iff_eq.2 hC')
        rw [Bool.or_eq_true, beq_iff_eq, bne_iff_ne] at this
        rcases this with rfl | h
        · exact (hA ⟨by decide, Or.inr rfl⟩).elim
        · exact (hB ⟨h, Or.inr hC'⟩).elim
noncomputable def rowP (ss : List Int) (m : Nat) : List V := ss.mapIdx fun i s => pickV s ((m : Int) + (i : Int))
theorem rowP_len (ss : List Int) (m : Nat) : (rowP ss m).length = ss.length := List.length_mapIdx
theorem rowP_get {ss : List Int} {i : Nat} {s : Int} (m : Nat) (h : ss[i]? = some s) : (rowP ss m)[i]? = some (pickV s ((m : Int) + (i : Int))) := by
  unfold rowP
  rw [List.getElem?_mapIdx, h]
  rfl
theorem pick_a {s k : Int} (h : intBit .and .i64 s 4 ≠ 0 ∧ (k.tmod 3 = 0 ∨ s = 4)) : pickV s k = ⟨true, 0⟩ := if_pos h
theorem pick_b {s k : Int} (hA : ¬ (intBit .and .i64 s 4 ≠ 0 ∧ (k.tmod 3 = 0 ∨ s = 4))) (h : intBit .and .i64 s 2 ≠ 0 ∧ (k.tmod 2 = 0 ∨ intBit .and .i64 s 1 = 0)) : pickV s k = ⟨false, 1 + k.tmod 3⟩ := by
  unfold pickV
  rw [if_neg hA, if_pos h]
theorem pick_c {s k : Int} (hA : ¬ (intBit .and .i64 s 4 ≠ 0 ∧ (k.tmod 3 = 0 ∨ s = 4))) (hB : ¬ (intBit .and .i64 s 2 ≠ 0 ∧ (k.tmod 2 = 0 ∨ intBit .and .i64 s 1 = 0))) (h : intBit .and .i64 s 1 ≠ 0) : pickV s k = ⟨false, 0⟩ := by
  unfold pickV
  rw [if_neg hA, if_neg hB, if_pos h]
theorem pick_d {s k : Int} (hA : ¬ (intBit .and .i64 s 4 ≠ 0 ∧ (k.tmod 3 = 0 ∨ s = 4))) (hB : ¬ (intBit .and .i64 s 2 ≠ 0 ∧ (k.tmod 2 = 0 ∨ intBit .and .i64 s 1 = 0))) (h : ¬ intBit .and .i64 s 1 ≠ 0) : pickV s k = ⟨true, 0⟩ := by
  unfold pickV
  rw [if_neg hA, if_neg hB, if_neg h]
theorem t_meet : all8 (fun a => all8 fun b => imp (sub7 a b) (imp (a != 0) (intBit .and .i64 b a != 0))) = true := by kernel_rfl
theorem does_FnOutcomes (cs : List Nat) (hc : ∀ b, b ∈ cs → b < 256) (cs' : List Nat) (hc' : ∀ b, b ∈ cs' → b < 256) : Does Try.prog 3 [] [bytesD cs, bytesD cs'] (Bo true) [] := by
  obtain ⟨e, ss, hdr, hl0, hl3⟩ := DrawOutcomes_ok cs hc
  obtain ⟨n, h1, h2, h3, h4⟩ := Outcomes_ok e ss (by omega)
  by_cases hcl : cs.length ≤ 1048576 ∧ cs'.length ≤ 1048576
  · obtain ⟨hcl, hcl'⟩ := hcl
    by_cases hn : n = 0
    · subst hn
      refine does0 c_laws_FnOutcomes mixed (Nat.le_of_ble_eq_true rfl) ?_
      conv => arg 3; whnf
      repeat' (first | with_reducible refine acc_none ?_ | (conv in hold _ => simp (disch := omega) only [go_sem, bytesD, beq_self_eq_true, bne_self_eq_false]) | refine Stp.go ?_ | (with_reducible first | refine it_pos rfl ?_ | refine it_neg (by decide) ?_ | refine st_nil rfl ?_ | refine s_op ?_ ?_ | exact True.intro) | ((with_reducible first | refine dw_reg0 ?_ | refine dw_regB ?_); (conv => arg 3; whnf)) | (refine Spl.go (fun hq he => ?_) (fun hq he => ?_) <;> first | (exfalso; clear hq; omega) | ((try (first | (conv => arg 8; simp only [hq]) | (conv => arg 4; simp only [hq]))); clear hq)) | ((with_reducible first | refine c_split (fun hq => ?_) (fun hq => ?_) | refine q_split (fun hq => ?_) (fun hq => ?_)) <;> (try (first | (conv => arg 8; simp only [hq]) | (conv => arg 4; simp only [hq])))) | (with_reducible refine fin_0 ?_ (by first | rfl | (conv => lhs; simp only [go_sem, bytesD, beq_self_eq_true, bne_self_eq_false])) ?_) | exact Sub.refl _ | omega)
      refine c_doesE (hdr) ?_ ?_ ?_
      · ((try (conv => rhs; simp (disch := omega) only [go_sem, bytesD, beq_self_eq_true, bne_self_eq_false])); try rfl)
      · first | rfl | (conv => lhs; simp only [go_sem, bytesD, beq_self_eq_true, bne_self_eq_false])
      repeat' (first | with_reducible refine acc_none ?_ | (conv in hold _ => simp (disch := omega) only [go_sem, bytesD, beq_self_eq_true, bne_self_eq_false]) | refine Stp.go ?_ | (with_reducible first | refine it_pos rfl ?_ | refine it_neg (by decide) ?_ | refine st_nil rfl ?_ | refine s_op ?_ ?_ | exact True.intro) | ((with_reducible first | refine dw_reg0 ?_ | refine dw_regB ?_); (conv => arg 3; whnf)) | (refine Spl.go (fun hq he => ?_) (fun hq he => ?_) <;> first | (exfalso; clear hq; omega) | ((try (first | (conv => arg 8; simp only [hq]) | (conv => arg 4; simp only [hq]))); clear hq)) | ((with_reducible first | refine c_split (fun hq => ?_) (fun hq => ?_) | refine q_split (fun hq => ?_) (fun hq => ?_)) <;> (try (first | (conv => arg 8; simp only [hq]) | (conv => arg 4; simp only [hq])))) | (with_reducible refine fin_0 ?_ (by first | rfl | (conv => lhs; simp only [go_sem, bytesD, beq_self_eq_true, bne_self_eq_false])) ?_) | exact Sub.refl _ | omega)
      refine c_doesE (h2) ?_ ?_ ?_
      · ((try (conv => rhs; simp (disch := omega) only [go_sem, bytesD, beq_self_eq_true, bne_self_eq_false])); try rfl)
      · first | rfl | (conv => lhs; simp only [go_sem, bytesD, beq_self_eq_true, bne_self_eq_false])
      repeat' (first | with_reducible refine acc_none ?_ | (conv in hold _ => simp (disch := omega) only [go_sem, bytesD, beq_self_eq_true, bne_self_eq_false]) | refine Stp.go ?_ | (with_reducible first | refine it_pos rfl ?_ | refine it_neg (by decide) ?_ | refine st_nil rfl ?_ | refine s_op ?_ ?_ | exact True.intro) | ((with_reducible first | refine dw_reg0 ?_ | refine dw_regB ?_); (conv => arg 3; whnf)) | (refine Spl.go (fun hq he => ?_) (fun hq he => ?_) <;> first | (exfalso; clear hq; omega) | ((try (first | (conv => arg 8; simp only [hq]) | (conv => arg 4; simp only [hq]))); clear hq)) | ((with_reducible first | refine c_split (fun hq => ?_) (fun hq => ?_) | refine q_split (fun hq => ?_) (fun hq => ?_)) <;> (try (first | (conv => arg 8; simp only [hq]) | (conv => arg 4; simp only [hq])))) | (with_reducible refine fin_0 ?_ (by first | rfl | (conv => lhs; simp only [go_sem, bytesD, beq_self_eq_true, bne_self_eq_false])) ?_) | exact Sub.refl _ | omega)
      refine c_doesE (h1) ?_ ?_ ?_
      · ((try (conv => rhs; simp (disch := omega) only [go_sem, bytesD, beq_self_eq_true, bne_self_eq_false])); try rfl)
      · first | rfl | (conv => lhs; simp only [go_sem, bytesD, beq_self_eq_true, bne_self_eq_false])
      repeat' (first | with_reducible refine acc_none ?_ | (conv in hold _ => simp (disch := omega) only [go_sem, bytesD, beq_self_eq_true, bne_self_eq_false]) | refine Stp.go ?_ | (with_reducible first | refine it_pos rfl ?_ | refine it_neg (by decide) ?_ | refine st_nil rfl ?_ | refine s_op ?_ ?_ | exact True.intro) | ((with_reducible first | refine dw_reg0 ?_ | refine dw_regB ?_); (conv => arg 3; whnf)) | (refine Spl.go (fun hq he => ?_) (fun hq he => ?_) <;> first | (exfalso; clear hq; omega) | ((try (first | (conv => arg 8; simp only [hq]) | (conv => arg 4; simp only [hq]))); clear hq)) | ((with_reducible first | refine c_split (fun hq => ?_) (fun hq => ?_) | refine q_split (fun hq => ?_) (fun hq => ?_)) <;> (try (first | (conv => arg 8; simp only [hq]) | (conv => arg 4; simp only [hq])))) | (with_reducible refine fin_0 ?_ (by first | rfl | (conv => lhs; simp only [go_sem, bytesD, beq_self_eq_true, bne_self_eq_false])) ?_) | exact Sub.refl _ | omega)
      all_goals
        refine c_doesE (h1) ?_ ?_ ?_
        · ((try (conv => rhs; simp (disch := omega) only [go_sem, bytesD, beq_self_eq_true, bne_self_eq_false])); try rfl)
        · first | rfl | (conv => lhs; simp only [go_sem, bytesD, beq_self_eq_true, bne_self_eq_false])
        repeat' (first | with_reducible refine acc_none ?_ | (conv in hold _ => simp (disch := omega) only [go_sem, bytesD, beq_self_eq_true, bne_self_eq_false]) | refine Stp.go ?_ | (with_reducible first | refine it_pos rfl ?_ | refine it_neg (by decide) ?_ | refine st_nil rfl ?_ | refine s_op ?_ ?_ | exact True.intro) | ((with_reducible first | refine dw_reg0 ?_ | refine dw_regB ?_); (conv => arg 3; whnf)) | (refine Spl.go (fun hq he => ?_) (fun hq he => ?_) <;> first | (exfalso; clear hq; omega) | ((try (first | (conv => arg 8; simp only [hq]) | (conv => arg 4; simp only [hq]))); clear hq)) | ((with_reducible first | refine c_split (fun hq => ?_) (fun hq => ?_) | refine q_split (fun hq => ?_) (fun hq => ?_)) <;> (try (first | (conv => arg 8; simp only [hq]) | (conv => arg 4; simp only [hq])))) | (with_reducible refine fin_0 ?_ (by first | rfl | (conv => lhs; simp only [go_sem, bytesD, beq_self_eq_true, bne_self_eq_false])) ?_) | exact Sub.refl _ | omega)
    · have hv : ocOk e ss := Classical.byContradiction fun h => hn (h4 h)
      have hno := h3 hv
      obtain ⟨hw, hss, he⟩ := hv
      have hrl := rowP_len ss cs'.length
      have hrok : valid e (rowP ss cs'.length) := by
        refine ⟨⟨by omega, fun v hv => ?_⟩, by rw [hrl]; exact he⟩
        obtain ⟨j, hj⟩ := List.mem_iff_getElem?.1 hv
        have hjl := (List.getElem?_eq_some_iff.1 hj).1
        have hu := List.getElem?_eq_getElem (l := ss) (i := j) (by omega)
        rw [rowP_get _ hu] at hj
        cases hj
        exact (pickV_ok (hss _ _ hu) (by omega)).1
      have hev := impl_t hrok
      have hsub := oc_sound (ss := ss) (row := rowP ss cs'.length) hss hrl (fun j v s hj hu => by
        rw [rowP_get _ hu] at hj
        cases hj
        exact (pickV_ok (hss _ _ hu) (by omega)).2) e 8 he
      have r1 := oc_range hss e 8 he
      have hmeet := imp_at (imp_at (all8_at (all8_at t_meet (stV_range (ev e (rowP ss cs'.length)))) r1) hsub) (bne_iff_ne.2 (by rcases st_3 (ev e (rowP ss cs'.length)) with h | h | h <;> rw [h] <;> decide))
      rw [← hno] at hmeet r1
      generalize hev0 : ev e (rowP ss cs'.length) = u at hev hmeet
      have hmt := bne_iff_ne.1 hmeet
      refine does0 c_laws_FnOutcomes mixed (Nat.le_of_ble_eq_true rfl) ?_
      conv => arg 3; whnf
      repeat' (first | with_reducible refine acc_none ?_ | (conv in hold _ => simp (disch := omega) only [go_sem, bytesD, beq_self_eq_true, bne_self_eq_false]) | refine Stp.go ?_ | (with_reducible first | refine it_pos rfl ?_ | refine it_neg (by decide) ?_ | refine st_nil rfl ?_ | refine s_op ?_ ?_ | exact True.intro) | ((with_reducible first | refine dw_reg0 ?_ | refine dw_regB ?_); (conv => arg 3; whnf)) | (refine Spl.go (fun hq he => ?_) (fun hq he => ?_) <;> first | (exfalso; clear hq; omega) | ((try (first | (conv => arg 8; simp only [hq]) | (conv => arg 4; simp only [hq]))); clear hq)) | ((with_reducible first | refine c_split (fun hq => ?_) (fun hq => ?_) | refine q_split (fun hq => ?_) (fun hq => ?_)) <;> (try (first | (conv => arg 8; simp only [hq]) | (conv => arg 4; simp only [hq])))) | (with_reducible refine fin_0 ?_ (by first | rfl | (conv => lhs; simp only [go_sem, bytesD, beq_self_eq_true, bne_self_eq_false])) ?_) | exact Sub.refl _ | omega)
      refine c_doesE (hdr) ?_ ?_ ?_
      · ((try (conv => rhs; simp (disch := omega) only [go_sem, bytesD, beq_self_eq_true, bne_self_eq_false])); try rfl)
      · first | rfl | (conv => lhs; simp only [go_sem, bytesD, beq_self_eq_true, bne_self_eq_false])
      repeat' (first | with_reducible refine acc_none ?_ | (conv in hold _ => simp (disch := omega) only [go_sem, bytesD, beq_self_eq_true, bne_self_eq_false]) | refine Stp.go ?_ | (with_reducible first | refine it_pos rfl ?_ | refine it_neg (by decide) ?_ | refine st_nil rfl ?_ | refine s_op ?_ ?_ | exact True.intro) | ((with_reducible first | refine dw_reg0 ?_ | refine dw_regB ?_); (conv => arg 3; whnf)) | (refine Spl.go (fun hq he => ?_) (fun hq he => ?_) <;> first | (exfalso; clear hq; omega) | ((try (first | (conv => arg 8; simp only [hq]) | (conv => arg 4; simp only [hq]))); clear hq)) | ((with_reducible first | refine c_split (fun hq => ?_) (fun hq => ?_) | refine q_split (fun hq => ?_) (fun hq => ?_)) <;> (try (first | (conv => arg 8; simp only [hq]) | (conv => arg 4; simp only [hq])))) | (with_reducible refine fin_0 ?_ (by first | rfl | (conv => lhs; simp only [go_sem, bytesD, beq_self_eq_true, bne_self_eq_false])) ?_) | exact Sub.refl _ | omega)
      refine c_doesE (h2) ?_ ?_ ?_
      · ((try (conv => rhs; simp (disch := omega) only [go_sem, bytesD, beq_self_eq_true, bne_self_eq_false])); try rfl)
      · first | rfl | (conv => lhs; simp only [go_sem, bytesD, beq_self_eq_true, bne_self_eq_false])
      repeat' (first | with_reducible refine acc_none ?_ | (conv in hold _ => simp (disch := omega) only [go_sem, bytesD, beq_self_eq_true, bne_self_eq_false]) | refine Stp.go ?_ | (with_reducible first | refine it_pos rfl ?_ | refine it_neg (by decide) ?_ | refine st_nil rfl ?_ | refine s_op ?_ ?_ | exact True.intro) | ((with_reducible first | refine dw_reg0 ?_ | refine dw_regB ?_); (conv => arg 3; whnf)) | (refine Spl.go (fun hq he => ?_) (fun hq he => ?_) <;> first | (exfalso; clear hq; omega) | ((try (first | (conv => arg 8; simp only [hq]) | (conv => arg 4; simp only [hq]))); clear hq)) | ((with_reducible first | refine c_split (fun hq => ?_) (fun hq => ?_) | refine q_split (fun hq => ?_) (fun hq => ?_)) <;> (try (first | (conv => arg 8; simp only [hq]) | (conv => arg 4; simp only [hq])))) | (with_reducible refine fin_0 ?_ (by first | rfl | (conv => lhs; simp only [go_sem, bytesD, beq_self_eq_true, bne_self_eq_false])) ?_) | exact Sub.refl _ | omega)
      refine c_doesE (h1) ?_ ?_ ?_
      · ((try (conv => rhs; simp (disch := omega) only [go_sem, bytesD, beq_self_eq_true, bne_self_eq_false])); try rfl)
      · first | rfl | (conv => lhs; simp only [go_sem, bytesD, beq_self_eq_true, bne_self_eq_false])
      repeat' (first | with_reducible refine acc_none ?_ | (conv in hold _ => simp (disch := omega) only [go_sem, bytesD, beq_self_eq_true, bne_self_eq_false]) | refine Stp.go ?_ | (with_reducible first | refine it_pos rfl ?_ | refine it_neg (by decide) ?_ | refine st_nil rfl ?_ | refine s_op ?_ ?_ | exact True.intro) | ((with_reducible first | refine dw_reg0 ?_ | refine dw_regB ?_); (conv => arg 3; whnf)) | (refine Spl.go (fun hq he => ?_) (fun hq he => ?_) <;> first | (exfalso; clear hq; omega) | ((try (first | (conv => arg 8; simp only [hq]) | (conv => arg 4; simp only [hq]))); clear hq)) | ((with_reducible first | refine c_split (fun hq => ?_) (fun hq => ?_) | refine q_split (fun hq => ?_) (fun hq => ?_)) <;> (try (first | (conv => arg 8; simp only [hq]) | (conv => arg 4; simp only [hq])))) | (with_reducible refine fin_0 ?_ (by first | rfl | (conv => lhs; simp only [go_sem, bytesD, beq_self_eq_true, bne_self_eq_false])) ?_) | exact Sub.refl _ | omega)
      refine dw_for (c := 2) (l := fun i => [(1, bytesD cs'), (5, .ref 1000000 0), (6, intsD ss), (7, I n), (8, .own 1000001 2 i), (9, I i), (1000000, .obj [I e.k, I e.c, Bo e.v.b, I e.v.n, .sl 5 (e.ks.map eD)]), (1000001, .row 2 (((rowP ss cs'.length).take i).map vD))]) ss.length (fun _ => True) 0 trivial ((wk_row 8 2000081 2 (by decide) (by decide) rfl rfl).trans (Wk.list [2000005, 2000081] rfl rfl ?_)) (fun i hi _ => ?_) (Nat.zero_le _)
      · repeat' (first | (conv in hold _ => simp (disch := omega) only [go_sem, bytesD, beq_self_eq_true, bne_self_eq_false]) | exact True.intro | exact Sub.refl _ | omega)
        exact rfl
      · have htl := take_len (vs := rowP ss cs'.length) (i := i) (by omega)
        have hmk := take_map vD (vs := rowP ss cs'.length) (i := i) (by omega)
        rcases at_or_end hi with ⟨s, hs, hlt⟩ | rfl
        · have hget := rowP_get cs'.length hs
          have hnx := take_next hget
          have hk0 : (0 : Int) ≤ (cs'.length : Int) + (i : Int) := by omega
          have k0 := Int.tmod_nonneg 3 hk0
          have k1 := Int.tmod_lt_of_pos ((cs'.length : Int) + (i : Int)) (show (0 : Int) < 3 by decide)
          by_cases hA : intBit .and .i64 s 4 ≠ 0 ∧ (((cs'.length : Int) + (i : Int)).tmod 3 = 0 ∨ s = 4)
          · have hpk := pick_a hA
            repeat' (first | with_reducible refine acc_none ?_ | (conv in hold _ => simp (disch := omega) only [go_sem, bytesD, beq_self_eq_true, bne_self_eq_false, List.getElem?_map, hs, Option.map_some]) | refine Stp.go ?_ | (with_reducible first | refine it_pos rfl ?_ | refine it_neg (by decide) ?_ | refine st_nil rfl ?_ | refine s_op ?_ ?_ | exact True.intro) | ((with_reducible first | refine dw_reg0 ?_ | refine dw_regB ?_); (conv => arg 3; whnf)) | (refine Spl.go (fun hq he => ?_) (fun hq he => ?_) <;> first | (exfalso; clear hq; omega) | ((try (first | (conv => arg 8; simp only [hq]) | (conv => arg 4; simp only [hq]))); clear hq)) | ((with_reducible first | refine c_split (fun hq => ?_) (fun hq => ?_) | refine q_split (fun hq => ?_) (fun hq => ?_)) <;> (try (first | (conv => arg 8; simp only [hq]) | (conv => arg 4; simp only [hq])))) | (with_reducible refine fin_0 ?_ (by first | rfl | (conv => lhs; simp only [go_sem, bytesD, beq_self_eq_true, bne_self_eq_false, List.getElem?_map, hs, Option.map_some])) ?_) | exact Sub.refl _ | omega)
            all_goals
              refine ⟨hlt, trivial, Wk.list [1000000, 2000081] rfl rfl ?_⟩
              repeat' (first | (conv in hold _ => simp (disch := omega) only [go_sem, bytesD, beq_self_eq_true, bne_self_eq_false, List.length_map, htl]) | exact True.intro | exact Sub.refl _ | omega)
              rw [hnx, hpk, List.map_append, List.take_of_length_le (by rw [List.length_map, htl]; exact Nat.le_refl _)]
              rfl
          · by_cases hB : intBit .and .i64 s 2 ≠ 0 ∧ (((cs'.length : Int) + (i : Int)).tmod 2 = 0 ∨ intBit .and .i64 s 1 = 0)
            · have hpk := pick_b hA hB
              repeat' (first | with_reducible refine acc_none ?_ | (conv in hold _ => simp (disch := omega) only [go_sem, bytesD, beq_self_eq_true, bne_self_eq_false, List.getElem?_map, hs, Option.map_some]) | refine Stp.go ?_ | (with_reducible first | refine it_pos rfl ?_ | refine it_neg (by decide) ?_ | refine st_nil rfl ?_ | refine s_op ?_ ?_ | exact True.intro) | ((with_reducible first | refine dw_reg0 ?_ | refine dw_regB ?_); (conv => arg 3; whnf)) | (refine Spl.go (fun hq he => ?_) (fun hq he => ?_) <;> first | (exfalso; clear hq; omega) | ((try (first | (conv => arg 8; simp only [hq]) | (conv => arg 4; simp only [hq]))); clear hq)) | ((with_reducible first | refine c_split (fun hq => ?_) (fun hq => ?_) | refine q_split (fun hq => ?_) (fun hq => ?_)) <;> (try (first | (conv => arg 8; simp only [hq]) | (conv => arg 4; simp only [hq])))) | (with_reducible refine fin_0 ?_ (by first | rfl | (conv => lhs; simp only [go_sem, bytesD, beq_self_eq_true, bne_self_eq_false, List.getElem?_map, hs, Option.map_some])) ?_) | exact Sub.refl _ | omega)
              all_goals
                refine ⟨hlt, trivial, Wk.list [1000000, 2000108] rfl rfl ?_⟩
                repeat' (first | (conv in hold _ => simp (disch := omega) only [go_sem, bytesD, beq_self_eq_true, bne_self_eq_false, List.length_map, htl]) | exact True.intro | exact Sub.refl _ | omega)
                rw [hnx, hpk, List.map_append, List.take_of_length_le (by rw [List.length_map, htl]; exact Nat.le_refl _)]
                rfl
            · by_cases hC : intBit .and .i64 s 1 ≠ 0
              · have hpk := pick_c hA hB hC
                repeat' (first | with_reducible refine acc_none ?_ | (conv in hold _ => simp (disch := omega) only [go_sem, bytesD, beq_self_eq_true, bne_self_eq_false, List.getElem?_map, hs, Option.map_some]) | refine Stp.go ?_ | (with_reducible first | refine it_pos rfl ?_ | refine it_neg (by decide) ?_ | refine st_nil rfl ?_ | refine s_op ?_ ?_ | exact True.intro) | ((with_reducible first | refine dw_reg0 ?_ | refine dw_regB ?_); (conv => arg 3; whnf)) | (refine Spl.go (fun hq he => ?_) (fun hq he => ?_) <;> first | (exfalso; clear hq; omega) | ((try (first | (conv => arg 8; simp only [hq]) | (conv => arg 4; simp only [hq]))); clear hq)) | ((with_reducible first | refine c_split (fun hq => ?_) (fun hq => ?_) | refine q_split (fun hq => ?_) (fun hq => ?_)) <;> (try (first | (conv => arg 8; simp only [hq]) | (conv => arg 4; simp only [hq])))) | (with_reducible refine fin_0 ?_ (by first | rfl | (conv => lhs; simp only [go_sem, bytesD, beq_self_eq_true, bne_self_eq_false, List.getElem?_map, hs, Option.map_some])) ?_) | exact Sub.refl _ | omega)
                all_goals
                  refine ⟨hlt, trivial, Wk.list [1000000, 2000119] rfl rfl ?_⟩
                  repeat' (first | (conv in hold _ => simp (disch := omega) only [go_sem, bytesD, beq_self_eq_true, bne_self_eq_false, List.length_map, htl]) | exact True.intro | exact Sub.refl _ | omega)
                  rw [hnx, hpk, List.map_append, List.take_of_length_le (by rw [List.length_map, htl]; exact Nat.le_refl _)]
                  rfl
              · have hpk := pick_d hA hB hC
                repeat' (first | with_reducible refine acc_none ?_ | (conv in hold _ => simp (disch := omega) only [go_sem, bytesD, beq_self_eq_true, bne_self_eq_false, List.getElem?_map, hs, Option.map_some]) | refine Stp.go ?_ | (with_reducible first | refine it_pos rfl ?_ | refine it_neg (by decide) ?_ | refine st_nil rfl ?_ | refine s_op ?_ ?_ | exact True.intro) | ((with_reducible first | refine dw_reg0 ?_ | refine dw_regB ?_); (conv => arg 3; whnf)) | (refine Spl.go (fun hq he => ?_) (fun hq he => ?_) <;> first | (exfalso; clear hq; omega) | ((try (first | (conv => arg 8; simp only [hq]) | (conv => arg 4; simp only [hq]))); clear hq)) | ((with_reducible first | refine c_split (fun hq => ?_) (fun hq => ?_) | refine q_split (fun hq => ?_) (fun hq => ?_)) <;> (try (first | (conv => arg 8; simp only [hq]) | (conv => arg 4; simp only [hq])))) | (with_reducible refine fin_0 ?_ (by first | rfl | (conv => lhs; simp only [go_sem, bytesD, beq_self_eq_true, bne_self_eq_false, List.getElem?_map, hs, Option.map_some])) ?_) | exact Sub.refl _ | omega)
                all_goals
                  refine ⟨hlt, trivial, Wk.list [1000000, 2000058] rfl rfl ?_⟩
                  repeat' (first | (conv in hold _ => simp (disch := omega) only [go_sem, bytesD, beq_self_eq_true, bne_self_eq_false, List.length_map, htl]) | exact True.intro | exact Sub.refl _ | omega)
                  rw [hnx, hpk, List.map_append, List.take_of_length_le (by rw [List.length_map, htl]; exact Nat.le_refl _)]
                  rfl
        · have e1 : (rowP ss cs'.length).take ss.length = rowP ss cs'.length := List.take_of_length_le (by omega)
          have e2 : ((rowP ss cs'.length).map vD).take ss.length = (rowP ss cs'.length).map vD := List.take_of_length_le (by rw [List.length_map]; omega)
          repeat' ((fail_if_success (with_reducible first | refine s_call ?_ | refine s_cal ?_ | refine s_inv ?_)); first | with_reducible refine acc_none ?_ | (conv in hold _ => simp (disch := omega) only [go_sem, bytesD, beq_self_eq_true, bne_self_eq_false, e1]) | refine Stp.go ?_ | (with_reducible first | refine it_pos rfl ?_ | refine it_neg (by decide) ?_ | refine st_nil rfl ?_ | refine s_op ?_ ?_ | exact True.intro) | ((with_reducible first | refine dw_reg0 ?_ | refine dw_regB ?_); (conv => arg 3; whnf)) | (refine Spl.go (fun hq he => ?_) (fun hq he => ?_) <;> first | (exfalso; clear hq; omega) | ((try (first | (conv => arg 8; simp only [hq]) | (conv => arg 4; simp only [hq]))); clear hq)) | ((with_reducible first | refine c_split (fun hq => ?_) (fun hq => ?_) | refine q_split (fun hq => ?_) (fun hq => ?_)) <;> (try (first | (conv => arg 8; simp only [hq]) | (conv => arg 4; simp only [hq])))) | (with_reducible refine fin_0 ?_ (by first | rfl | (conv => lhs; simp only [go_sem, bytesD, beq_self_eq_true, bne_self_eq_false, e1])) ?_) | exact Sub.refl _ | omega)
          refine s_pre (pre_frz (t := 122) (g := 1000001) (by decide) (by decide) rfl ?_) ?_
          rotate_left
          repeat' (first | with_reducible refine acc_none ?_ | (conv in hold _ => simp (disch := omega) only [go_sem, bytesD, beq_self_eq_true, bne_self_eq_false, e1, e2, hrl, Nat.le_refl]) | refine Stp.go ?_ | (with_reducible first | refine it_pos rfl ?_ | refine it_neg (by decide) ?_ | refine st_nil rfl ?_ | refine s_op ?_ ?_ | exact True.intro) | ((with_reducible first | refine dw_reg0 ?_ | refine dw_regB ?_); (conv => arg 3; whnf)) | (refine Spl.go (fun hq he => ?_) (fun hq he => ?_) <;> first | (exfalso; clear hq; omega) | ((try (first | (conv => arg 8; simp only [hq]) | (conv => arg 4; simp only [hq]))); clear hq)) | ((with_reducible first | refine c_split (fun hq => ?_) (fun hq => ?_) | refine q_split (fun hq => ?_) (fun hq => ?_)) <;> (try (first | (conv => arg 8; simp only [hq]) | (conv => arg 4; simp only [hq])))) | (with_reducible refine fin_0 ?_ (by first | rfl | (conv => lhs; simp only [go_sem, bytesD, beq_self_eq_true, bne_self_eq_false, e1, e2, hrl, Nat.le_refl])) ?_) | exact Sub.refl _ | omega)
          unfold stV at hmt
          refine c_doesE (hev) ?_ ?_ ?_
          · ((try (conv => rhs; simp (disch := omega) only [go_sem, bytesD, beq_self_eq_true, bne_self_eq_false])); try rfl)
          · first | rfl | (conv => lhs; simp only [go_sem, bytesD, beq_self_eq_true, bne_self_eq_false])
          repeat' (first | with_reducible refine acc_none ?_ | (conv in hold _ => simp (disch := omega) only [go_sem, bytesD, beq_self_eq_true, bne_self_eq_false]) | refine Stp.go ?_ | (with_reducible first | refine it_pos rfl ?_ | refine it_neg (by decide) ?_ | refine st_nil rfl ?_ | refine s_op ?_ ?_ | exact True.intro) | ((with_reducible first | refine dw_reg0 ?_ | refine dw_regB ?_); (conv => arg 3; whnf)) | (refine Spl.go (fun hq he => ?_) (fun hq he => ?_) <;> first | (exfalso; clear hq; omega) | ((try (first | (conv => arg 8; simp only [hq]) | (conv => arg 4; simp only [hq]))); clear hq)) | ((with_reducible first | refine c_split (fun hq => ?_) (fun hq => ?_) | refine q_split (fun hq => ?_) (fun hq => ?_)) <;> (try (first | (conv => arg 8; simp only [hq]) | (conv => arg 4; simp only [hq])))) | (with_reducible refine fin_0 ?_ (by first | rfl | (conv => lhs; simp only [go_sem, bytesD, beq_self_eq_true, bne_self_eq_false])) ?_) | exact Sub.refl _ | omega)
          all_goals first
            | exact vals_pur _
            | exact Sub.of_eq (by rw [decide_eq_true r1.2])
            | (exfalso; rw [if_pos hq] at hmt; exact hmt he)
            | (exfalso; rename_i h0; rw [if_neg (by rw [hq]; decide), if_pos h0] at hmt; exact hmt he)
            | (exfalso; rename_i h0; rw [if_neg (by rw [hq]; decide), if_neg h0] at hmt; exact hmt he)
  · refine does0 c_laws_FnOutcomes mixed (Nat.le_of_ble_eq_true rfl) ?_
    conv => arg 3; whnf
    repeat' (first | with_reducible refine acc_none ?_ | (conv in hold _ => simp (disch := omega) only [go_sem, bytesD, beq_self_eq_true, bne_self_eq_false]) | refine Stp.go ?_ | (with_reducible first | refine it_pos rfl ?_ | refine it_neg (by decide) ?_ | refine st_nil rfl ?_ | refine s_op ?_ ?_ | exact True.intro) | ((with_reducible first | refine dw_reg0 ?_ | refine dw_regB ?_); (conv => arg 3; whnf)) | (refine Spl.go (fun hq he => ?_) (fun hq he => ?_) <;> first | (exfalso; clear hq; omega) | ((try (first | (conv => arg 8; simp only [hq]) | (conv => arg 4; simp only [hq]))); clear hq)) | ((with_reducible first | refine c_split (fun hq => ?_) (fun hq => ?_) | refine q_split (fun hq => ?_) (fun hq => ?_)) <;> (try (first | (conv => arg 8; simp only [hq]) | (conv => arg 4; simp only [hq])))) | (with_reducible refine fin_0 ?_ (by first | rfl | (conv => lhs; simp only [go_sem, bytesD, beq_self_eq_true, bne_self_eq_false])) ?_) | exact Sub.refl _ | omega)
theorem walk_FnOutcomes (a : Option Addr) (len cap : Nat) (zs : List Int) (a' : Option Addr) (len' cap' : Nat) (zs' : List Int) (w : World) (h : IsRow .u8 w a len cap zs) (h' : IsRow .u8 w a' len' cap' zs') :
    Calls Try.prog 3 #[.slice a len cap, .slice a' len' cap'] w fun e W' => e = .returned (.bool true) ∧ Below w.heap.size w W' := walk_of2 does_FnOutcomes a len cap zs a' len' cap' zs' w h h'
end Go.Proofs.Ytnnbpekiaodcfaa
