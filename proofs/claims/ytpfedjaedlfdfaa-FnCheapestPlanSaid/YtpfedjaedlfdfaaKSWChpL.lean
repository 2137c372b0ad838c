/-
  The law that no plan is cheaper. No condition.
-/
import Derived.Test.YtpfedjaedlfdfaaKSDcWChpL
import Derived.Test.YtpfedjaedlfdfaaKSDca
import Derived.Test.YtpfedjaedlfdfaaKSVDrawU
import Derived.Test.YtpfedjaedlfdfaaKSVChp
import Derived.Test.YtpfedjaedlfdfaaJSV0
set_option maxHeartbeats 4000000
set_option maxRecDepth 100000
set_option linter.unusedVariables false
set_option linter.unusedSimpArgs false
namespace Go.Proofs.Ytpfedjaedlfdfaa
open Go.RowKit
theorem chI_least {b : Int} {cs : List Int} : ∀ (i j : Nat) (n : Int), j < i → cs[j]? = some n → n ≠ -1 → (chI b cs i).1 ≠ -1 ∧ (chI b cs i).2 ≤ n ∧ ((j : Int) < (chI b cs i).1 → (chI b cs i).2 < n)
  | 0, j, n, h, _, _ => by omega
  | i + 1, j, n, hj, hn, h0 => by
    have hrg := chI_range b cs i
    cases hc : cs[i]? with
    | none =>
      have e : chI b cs (i + 1) = chI b cs i := by rw [chI, hc]
      rw [e]
      by_cases hji : j = i
      · rw [hji, hc] at hn
        cases hn
      · exact chI_least i j n (by omega) hn h0
    | some m =>
      by_cases hy : m ≠ -1 ∧ ((chI b cs i).1 = -1 ∨ m < (chI b cs i).2)
      · rw [chI_yes hc hy]
        refine ⟨by show (i : Int) ≠ -1; omega, ?_⟩
        by_cases hji : j = i
        · rw [hji, hc] at hn
          cases hn
          exact ⟨Int.le_refl _, fun h => by rw [hji] at h; exact absurd h (Int.lt_irrefl _)⟩
        · obtain ⟨g1, g2, _⟩ := chI_least (b := b) i j n (by omega) hn h0
          have := hy.2.resolve_left g1
          exact ⟨by show m ≤ n; omega, fun _ => by show m < n; omega⟩
      · rw [chI_no hc hy]
        by_cases hji : j = i
        · rw [hji, hc] at hn
          cases hn
          have h1 : (chI b cs i).1 ≠ -1 := fun h => hy ⟨h0, .inl h⟩
          have h2 : ¬ n < (chI b cs i).2 := fun h => hy ⟨h0, .inr h⟩
          exact ⟨h1, by omega, fun h => by have := hrg.2.1; omega⟩
        · exact chI_least i j n (by omega) hn h0
theorem DrawCheapestPlan_ok (bs : List Nat) (hb : ∀ b, b ∈ bs → b < 256) : ∃ (xs : List Pl) (ss : List St), Does Try.prog 25 [] [bytesD bs] (.tup [.sl 5 (xs.map pD), stsD ss]) [] ∧ (∀ x, x ∈ xs → psz x ≤ 11100) ∧ xs.length ≤ 21 ∧ ss.length ≤ 3 := by
  have hs : Src (bs.take 2000) := ⟨fun b h => hb b (List.mem_of_mem_take h), by rw [List.length_take]; omega⟩
  have hr := newReader_ok bs
  generalize bs.take 2000 = rs at hs hr
  obtain ⟨ws, q, ⟨hw, hl, hrw⟩, hq0, hq1⟩ := randomWidths_own hs 0 (by omega)
  have hwo : wsOk ws := ⟨by omega, fun i w h => by have := hrw i w h; omega⟩
  obtain ⟨v, hv, hvm⟩ := one_ok hs q (by omega) [0, 1, 2, 3, 4, 21] (by decide) (by decide)
  simp only [List.mem_cons, List.not_mem_nil, or_false] at hvm
  obtain ⟨m, rfl⟩ := Int.eq_ofNat_of_zero_le (show 0 ≤ v by omega)
  obtain ⟨xs, ps, hxl, h0, hd, hp0, hp1⟩ := draws (fun p (x : Pl) q => Does Try.prog 52 [rdD rs p, wrD ws] [.ref 1000000 0, .own 1000001 1 ws.length] (pD x) [rdD rs q, wrD ws] ∧ psz x ≤ 11100) 80000000 23000 (fun p hp => by
    obtain ⟨x, q, hx, g0, g1, hz⟩ := anyPlan_ok hs hwo p (by omega)
    exact ⟨x, q, ⟨hx, hz⟩, g0, g1⟩) m (q + 1) (by omega)
  obtain ⟨ss, q2, hst, hsl⟩ := statsFor_ok hs ws (by omega) (ps m) (by omega)
  have t1 : (xs.map pD).take m = xs.map pD := take_allL pD xs hxl.symm
  have t2 := take_allL I ws rfl
  refine ⟨xs, ss, ?_, fun x hx => ?_, by omega, by omega⟩
  · refine does0 c_spec_DrawCheapestPlan mixed (Nat.le_of_ble_eq_true rfl) ?_
    conv => arg 3; whnf
    repeat' (first
      | with_reducible refine acc_none ?_ | (conv in hold _=>simp (disch:=omega) only [go_sem])|refine Stp.go ?_|(with_reducible first|refine it_pos rfl ?_|refine it_neg (by decide) ?_|refine st_nil rfl ?_|refine s_op ?_ ?_|exact trivial)|((with_reducible first|refine dw_reg0 ?_|refine dw_regB ?_);(conv=>arg 3;whnf))|(refine Spl.go (fun hq he=>?_) (fun hq he=>?_)<;>first|(exfalso;clear hq;omega)|((try first|(conv=>arg 8;simp only [hq])|(conv=>arg 4;simp only [hq]));clear hq))|((with_reducible first|refine c_split (fun hq=>?_) (fun hq=>?_)|refine q_split (fun hq=>?_) (fun hq=>?_))<;>(try first|(conv=>arg 8;simp only [hq])|(conv=>arg 4;simp only [hq])))|(with_reducible refine fin_0 ?_ (by first|rfl|(conv=>lhs;simp only [go_sem])) ?_)
      | (with_reducible show evC _ _ _ _ _ _ _ _ _ _ _ _
         first
         | (refine c_doesR [3000001] (hr) (callOK_of rfl (Nat.le_of_ble_eq_true rfl) rfl ?_ ?_) ?_ ?_
            iterate 2 · repeat' (first|(conv in hold _=>simp (disch:=omega) only [go_sem])|exact trivial|exact Sub.refl _|omega)
            · ((conv=>rhs;simp (disch:=omega) only [go_sem]); try rfl))
         | (refine c_doesR [3000001, 3000002] (hw) (callOK_of rfl (Nat.le_of_ble_eq_true rfl) rfl ?_ ?_) ?_ ?_
            iterate 2 · repeat' (first|(conv in hold _=>simp (disch:=omega) only [go_sem])|exact trivial|exact Sub.refl _|omega)
            · ((conv=>rhs;simp (disch:=omega) only [go_sem]); try rfl))
         | (refine c_doesR [3000001] (hv) (callOK_of rfl (Nat.le_of_ble_eq_true rfl) rfl ?_ ?_) ?_ ?_
            iterate 2 · repeat' (first|(conv in hold _=>simp (disch:=omega) only [go_sem])|exact trivial|exact Sub.refl _|omega)
            · ((conv=>rhs;simp (disch:=omega) only [go_sem]); try rfl)))|exact Sub.refl _|omega)
    refine dw_for (c := 3) (l := fun i => [(4, .ref 1000000 0), (5, .own 1000001 1 ws.length), (6, .own 1000002 5 i), (7, I ((m : Int) - i)), (1000000, rdD rs (ps i)), (1000001, wrD ws), (1000002, .row 5 ((xs.take i).map pD))]) m (fun _ => True) 0 trivial ((wk_row 6 2000099 5 (by decide) (by decide) rfl rfl).trans (Wk.list [3000001, 3000002, 2000099] rfl rfl ?_)) (fun i hi _ => ?_) (Nat.zero_le _)
    · rw [h0]
      repeat' (first|(conv in hold _=>simp (disch:=omega) only [go_sem])|exact trivial|exact Sub.refl _|omega)
      first
        | exact rfl
        | exact congrArg (fun n => D.v (Value.int .i64 n)) (by omega)
        | exact ⟨congrArg (fun n => D.v (Value.int .i64 n)) (by omega), rfl⟩
    · have hlt : (xs.take i).length = i := by rw [List.length_take]; omega
      have hmt := take_map pD (vs := xs) (i := i) (by omega)
      by_cases hil : i < m
      · obtain ⟨x, hx⟩ : ∃ x, xs[i]? = some x := ⟨_, List.getElem?_eq_getElem (by omega)⟩
        obtain ⟨x1, _⟩ := hd i x hx
        have hnx := take_next hx
        repeat' (first
          | with_reducible refine acc_none ?_ | (conv in hold _=>simp (disch:=omega) only [go_sem, List.length_map, hlt])|refine Stp.go ?_|(with_reducible first|refine it_pos rfl ?_|refine it_neg (by decide) ?_|refine st_nil rfl ?_|refine s_op ?_ ?_|exact trivial)|((with_reducible first|refine dw_reg0 ?_|refine dw_regB ?_);(conv=>arg 3;whnf))|(refine Spl.go (fun hq he=>?_) (fun hq he=>?_)<;>first|(exfalso;clear hq;omega)|((try first|(conv=>arg 8;simp only [hq])|(conv=>arg 4;simp only [hq]));clear hq))|((with_reducible first|refine c_split (fun hq=>?_) (fun hq=>?_)|refine q_split (fun hq=>?_) (fun hq=>?_))<;>(try first|(conv=>arg 8;simp only [hq])|(conv=>arg 4;simp only [hq])))|(with_reducible refine fin_0 ?_ (by first|rfl|(conv=>lhs;simp only [go_sem, List.length_map, hlt])) ?_)
          | (with_reducible show evC _ _ _ _ _ _ _ _ _ _ _ _
             first
             | (refine c_doesR [1000000, 1000001] (x1) (callOK_of rfl (Nat.le_of_ble_eq_true rfl) rfl ?_ ?_) ?_ ?_
                iterate 2 · repeat' (first|(conv in hold _=>simp (disch:=omega) only [go_sem, List.length_map, hlt])|exact trivial|exact Sub.refl _|omega)
                · ((conv=>rhs;simp (disch:=omega) only [go_sem, List.length_map, hlt]); try rfl)))|exact Sub.refl _|omega)
        refine ⟨hil, trivial, Wk.list [1000000, 1000001, 2000025] rfl rfl ?_⟩
        repeat' (first|(conv in hold _=>simp (disch:=omega) only [go_sem, List.length_map, hlt])|exact trivial|exact Sub.refl _|omega)
        rw [hmt, hnx, List.map_append]
        exact ⟨congrArg (fun n => D.v (Value.int .i64 n)) (by omega), by rw [List.map_cons, List.map_nil, pD_eq]; rfl⟩
      · obtain rfl : i = m := by omega
        have e1 : xs.take i = xs := List.take_of_length_le (by omega)
        repeat' ((fail_if_success (with_reducible first | refine s_call ?_ | refine s_cal ?_ | refine s_inv ?_)); first | with_reducible refine acc_none ?_ | (conv in hold _=>simp (disch:=omega) only [go_sem, e1])|refine Stp.go ?_|(with_reducible first|refine it_pos rfl ?_|refine it_neg (by decide) ?_|refine st_nil rfl ?_|refine s_op ?_ ?_|exact trivial)|((with_reducible first|refine dw_reg0 ?_|refine dw_regB ?_);(conv=>arg 3;whnf))|(refine Spl.go (fun hq he=>?_) (fun hq he=>?_)<;>first|(exfalso;clear hq;omega)|((try first|(conv=>arg 8;simp only [hq])|(conv=>arg 4;simp only [hq]));clear hq))|((with_reducible first|refine c_split (fun hq=>?_) (fun hq=>?_)|refine q_split (fun hq=>?_) (fun hq=>?_))<;>(try first|(conv=>arg 8;simp only [hq])|(conv=>arg 4;simp only [hq])))|(with_reducible refine fin_0 ?_ (by first|rfl|(conv=>lhs;simp only [go_sem, e1])) ?_)|exact Sub.refl _|omega)
        refine s_pre (pre_frz (t := 26) (g := 1000002) (by decide) (by decide) rfl ?_) ?_
        rotate_left
        repeat' ((fail_if_success (with_reducible first | refine s_call ?_ | refine s_cal ?_ | refine s_inv ?_)); first | with_reducible refine acc_none ?_ | (conv in hold _=>simp (disch:=omega) only [go_sem, e1, t1, hxl, Nat.le_refl])|refine Stp.go ?_|(with_reducible first|refine it_pos rfl ?_|refine it_neg (by decide) ?_|refine st_nil rfl ?_|refine s_op ?_ ?_|exact trivial)|((with_reducible first|refine dw_reg0 ?_|refine dw_regB ?_);(conv=>arg 3;whnf))|(refine Spl.go (fun hq he=>?_) (fun hq he=>?_)<;>first|(exfalso;clear hq;omega)|((try first|(conv=>arg 8;simp only [hq])|(conv=>arg 4;simp only [hq]));clear hq))|((with_reducible first|refine c_split (fun hq=>?_) (fun hq=>?_)|refine q_split (fun hq=>?_) (fun hq=>?_))<;>(try first|(conv=>arg 8;simp only [hq])|(conv=>arg 4;simp only [hq])))|(with_reducible refine fin_0 ?_ (by first|rfl|(conv=>lhs;simp only [go_sem, e1, t1, hxl, Nat.le_refl])) ?_)|exact Sub.refl _|omega)
        refine s_pre (pre_frz (t := 28) (g := 1000001) (by decide) (by decide) rfl ?_) ?_
        rotate_left
        repeat' (first|with_reducible refine acc_none ?_ | (conv in hold _=>simp (disch:=omega) only [go_sem, e1, t1, t2, hxl, Nat.le_refl])|refine Stp.go ?_|(with_reducible first|refine it_pos rfl ?_|refine it_neg (by decide) ?_|refine st_nil rfl ?_|refine s_op ?_ ?_|exact trivial)|((with_reducible first|refine dw_reg0 ?_|refine dw_regB ?_);(conv=>arg 3;whnf))|(refine Spl.go (fun hq he=>?_) (fun hq he=>?_)<;>first|(exfalso;clear hq;omega)|((try first|(conv=>arg 8;simp only [hq])|(conv=>arg 4;simp only [hq]));clear hq))|((with_reducible first|refine c_split (fun hq=>?_) (fun hq=>?_)|refine q_split (fun hq=>?_) (fun hq=>?_))<;>(try first|(conv=>arg 8;simp only [hq])|(conv=>arg 4;simp only [hq])))|(with_reducible refine fin_0 ?_ (by first|rfl|(conv=>lhs;simp only [go_sem, e1, t1, t2, hxl, Nat.le_refl])) ?_)|exact Sub.refl _|omega)
        refine c_doesR [1000000] (hst) (callOK_of rfl (Nat.le_of_ble_eq_true rfl) rfl ?_ ?_) ?_ ?_
        · repeat' (first|(conv in hold _=>simp (disch:=omega) only [go_sem])|exact trivial|exact Sub.refl _|omega)
        · repeat' (first|(conv in hold _=>simp (disch:=omega) only [go_sem])|exact trivial|exact Sub.refl _|omega)
        · ((conv=>rhs;simp (disch:=omega) only [go_sem]); try rfl)
        repeat' (first|with_reducible refine acc_none ?_ | (conv in hold _=>simp (disch:=omega) only [go_sem])|refine Stp.go ?_|(with_reducible first|refine it_pos rfl ?_|refine it_neg (by decide) ?_|refine st_nil rfl ?_|refine s_op ?_ ?_|exact trivial)|((with_reducible first|refine dw_reg0 ?_|refine dw_regB ?_);(conv=>arg 3;whnf))|(refine Spl.go (fun hq he=>?_) (fun hq he=>?_)<;>first|(exfalso;clear hq;omega)|((try first|(conv=>arg 8;simp only [hq])|(conv=>arg 4;simp only [hq]));clear hq))|((with_reducible first|refine c_split (fun hq=>?_) (fun hq=>?_)|refine q_split (fun hq=>?_) (fun hq=>?_))<;>(try first|(conv=>arg 8;simp only [hq])|(conv=>arg 4;simp only [hq])))|(with_reducible refine fin_0 ?_ (by first|rfl|(conv=>lhs;simp only [go_sem])) ?_)|exact Sub.refl _|omega)
        all_goals first
          | exact ints_pur _
          | exact plans_pur _
  · obtain ⟨i, hi, rfl⟩ := List.getElem_of_mem hx
    exact (hd i _ (List.getElem?_eq_getElem hi)).2
theorem does_FnCheapestPlan (bs : List Nat) (hb : ∀ b, b ∈ bs → b < 256) : Does Try.prog 8 [] [bytesD bs] (Bo true) [] := by
  obtain ⟨xs, ss, hd, hz, hl, hsl⟩ := DrawCheapestPlan_ok bs hb
  by_cases hb1 : bs.length ≤ 1048576
  · obtain ⟨cs, hcl, hcs⟩ := list_of (P := fun (x : Pl) (n : Int) => -1 ≤ n ∧ Does Try.prog 24 [] [pD x, stsD ss] (I n) [] ∧ Does Try.prog 23 [] [pD x, stsD ss] (I n) []) xs (fun x hx => EstimateCost_ok x (by have := hz x hx; omega) ss (by omega))
    have h1 := CheapestPlan_impl xs ss cs hcl (by omega) (fun i x n hx hn => (hcs i x n hx hn).2.2)
    have h2 := CheapestPlan_spec xs ss cs hcl (by omega) (fun c hc => by
      obtain ⟨i, hi, rfl⟩ := List.getElem_of_mem hc
      exact (hcs i _ _ (List.getElem?_eq_getElem (by omega)) (List.getElem?_eq_getElem hi)).1) (fun i x n hx hn => (hcs i x n hx hn).2.1)
    by_cases hneg : chV cs < 0
    · generalize chV cs = k at *
      refine does0 c_laws_FnCheapestPlan mixed (Nat.le_of_ble_eq_true rfl) ?_
      conv => arg 3; whnf
      repeat' (first
        | with_reducible refine acc_none ?_ | (conv in hold _=>simp (disch:=omega) only [go_sem, bytesD, List.length_map, beq_self_eq_true, bne_self_eq_false])|refine Stp.go ?_|(with_reducible first|refine it_pos rfl ?_|refine it_neg (by decide) ?_|refine st_nil rfl ?_|refine s_op ?_ ?_|exact trivial)|((with_reducible first|refine dw_reg0 ?_|refine dw_regB ?_);(conv=>arg 3;whnf))|(refine Spl.go (fun hq he=>?_) (fun hq he=>?_)<;>first|(exfalso;clear hq;omega)|((try first|(conv=>arg 8;simp only [hq])|(conv=>arg 4;simp only [hq]));clear hq))|((with_reducible first|refine c_split (fun hq=>?_) (fun hq=>?_)|refine q_split (fun hq=>?_) (fun hq=>?_))<;>(try first|(conv=>arg 8;simp only [hq])|(conv=>arg 4;simp only [hq])))|(with_reducible refine fin_0 ?_ (by first|rfl|(conv=>lhs;simp only [go_sem, bytesD, List.length_map, beq_self_eq_true, bne_self_eq_false])) ?_)
        | (with_reducible show evC _ _ _ _ _ _ _ _ _ _ _ _
           first
           | (refine c_doesE (hd) ?_ ?_ ?_
              · ((try (conv=>rhs;simp (disch:=omega) only [go_sem, bytesD, List.length_map, beq_self_eq_true, bne_self_eq_false])); try rfl)
              · first|rfl|(conv=>lhs;simp only [go_sem, bytesD, List.length_map, beq_self_eq_true, bne_self_eq_false]))
           | (refine c_doesE (h1) ?_ ?_ ?_
              · ((try (conv=>rhs;simp (disch:=omega) only [go_sem, bytesD, List.length_map, beq_self_eq_true, bne_self_eq_false])); try rfl)
              · first|rfl|(conv=>lhs;simp only [go_sem, bytesD, List.length_map, beq_self_eq_true, bne_self_eq_false]))
           | (refine c_doesE (h2) ?_ ?_ ?_
              · ((try (conv=>rhs;simp (disch:=omega) only [go_sem, bytesD, List.length_map, beq_self_eq_true, bne_self_eq_false])); try rfl)
              · first|rfl|(conv=>lhs;simp only [go_sem, bytesD, List.length_map, beq_self_eq_true, bne_self_eq_false]))
           | (refine c_doesE (h2) ?_ ?_ ?_
              · ((try (conv=>rhs;simp (disch:=omega) only [go_sem, bytesD, List.length_map, beq_self_eq_true, bne_self_eq_false])); try rfl)
              · first|rfl|(conv=>lhs;simp only [go_sem, bytesD, List.length_map, beq_self_eq_true, bne_self_eq_false])))|exact Sub.refl _|omega)
    · have hk : chV cs = (chI (-1) cs cs.length).1 := by
        unfold chV at hneg ⊢
        by_cases h20 : 20 < cs.length
        · rw [if_pos h20] at hneg
          omega
        · exact if_neg h20
      rw [hk] at h1 h2 hneg
      have hrg := chI_range (-1) cs cs.length
      have hleast := fun (j : Nat) (n : Int) (hj : cs[j]? = some n) => chI_least (b := -1) cs.length j n (List.getElem?_eq_some_iff.1 hj).1 hj
      generalize chI (-1) cs cs.length = kb at *
      obtain ⟨k, best⟩ := kb
      simp only at hrg hleast h1 h2 hneg
      obtain ⟨m, rfl⟩ := Int.eq_ofNat_of_zero_le (show 0 ≤ k by omega)
      obtain ⟨hbest, hb0⟩ := hrg.2.2 (by omega)
      rw [Int.toNat_natCast] at hbest
      obtain ⟨y, hy⟩ : ∃ y, xs[m]? = some y := ⟨_, List.getElem?_eq_getElem (by omega)⟩
      obtain ⟨hb2, _, hby⟩ := hcs m y best hy hbest
      refine does0 c_laws_FnCheapestPlan mixed (Nat.le_of_ble_eq_true rfl) ?_
      conv => arg 3; whnf
      repeat' (first
        | with_reducible refine acc_none ?_ | (conv in hold _=>simp (disch:=omega) only [go_sem, bytesD, List.length_map, beq_self_eq_true, bne_self_eq_false, List.getElem?_map, hy, Option.map_some])|refine Stp.go ?_|(with_reducible first|refine it_pos rfl ?_|refine it_neg (by decide) ?_|refine st_nil rfl ?_|refine s_op ?_ ?_|exact trivial)|((with_reducible first|refine dw_reg0 ?_|refine dw_regB ?_);(conv=>arg 3;whnf))|(refine Spl.go (fun hq he=>?_) (fun hq he=>?_)<;>first|(exfalso;clear hq;omega)|((try first|(conv=>arg 8;simp only [hq])|(conv=>arg 4;simp only [hq]));clear hq))|((with_reducible first|refine c_split (fun hq=>?_) (fun hq=>?_)|refine q_split (fun hq=>?_) (fun hq=>?_))<;>(try first|(conv=>arg 8;simp only [hq])|(conv=>arg 4;simp only [hq])))|(with_reducible refine fin_0 ?_ (by first|rfl|(conv=>lhs;simp only [go_sem, bytesD, List.length_map, beq_self_eq_true, bne_self_eq_false, List.getElem?_map, hy, Option.map_some])) ?_)
        | (with_reducible show evC _ _ _ _ _ _ _ _ _ _ _ _
           first
           | (refine c_doesE (hd) ?_ ?_ ?_
              · ((try (conv=>rhs;simp (disch:=omega) only [go_sem, bytesD, List.length_map, beq_self_eq_true, bne_self_eq_false, List.getElem?_map, hy, Option.map_some])); try rfl)
              · first|rfl|(conv=>lhs;simp only [go_sem, bytesD, List.length_map, beq_self_eq_true, bne_self_eq_false, List.getElem?_map, hy, Option.map_some]))
           | (refine c_doesE (h1) ?_ ?_ ?_
              · ((try (conv=>rhs;simp (disch:=omega) only [go_sem, bytesD, List.length_map, beq_self_eq_true, bne_self_eq_false, List.getElem?_map, hy, Option.map_some])); try rfl)
              · first|rfl|(conv=>lhs;simp only [go_sem, bytesD, List.length_map, beq_self_eq_true, bne_self_eq_false, List.getElem?_map, hy, Option.map_some]))
           | (refine c_doesE (h2) ?_ ?_ ?_
              · ((try (conv=>rhs;simp (disch:=omega) only [go_sem, bytesD, List.length_map, beq_self_eq_true, bne_self_eq_false, List.getElem?_map, hy, Option.map_some])); try rfl)
              · first|rfl|(conv=>lhs;simp only [go_sem, bytesD, List.length_map, beq_self_eq_true, bne_self_eq_false, List.getElem?_map, hy, Option.map_some]))
           | (refine c_doesE (hby) ?_ ?_ ?_
              · ((try (conv=>rhs;simp (disch:=omega) only [go_sem, bytesD, List.length_map, beq_self_eq_true, bne_self_eq_false, List.getElem?_map, hy, Option.map_some])); try rfl)
              · first|rfl|(conv=>lhs;simp only [go_sem, bytesD, List.length_map, beq_self_eq_true, bne_self_eq_false, List.getElem?_map, hy, Option.map_some])))|exact Sub.refl _|omega)
      refine dw_for (c := 0) (l := fun i => [(3, .sl 5 (xs.map pD)), (4, stsD ss), (5, I m), (6, I best), (7, I i)]) xs.length (fun _ => True) 0 trivial (Wk.list [] rfl rfl ?_) (fun i hi _ => ?_) (Nat.zero_le _)
      · repeat' (first|(conv in hold _=>simp (disch:=omega) only [go_sem, bytesD, List.length_map, beq_self_eq_true, bne_self_eq_false])|exact trivial|exact Sub.refl _|omega)
        exact rfl
      · rcases at_or_end hi with ⟨x, hx, hil⟩ | rfl
        · obtain ⟨n, hn⟩ : ∃ n, cs[i]? = some n := ⟨_, List.getElem?_eq_getElem (by omega)⟩
          obtain ⟨hn1, _, hix⟩ := hcs i x n hx hn
          have hlst := hleast i n hn
          repeat' (first
            | with_reducible refine acc_none ?_ | (conv in hold _=>simp (disch:=omega) only [go_sem, bytesD, List.length_map, beq_self_eq_true, bne_self_eq_false, List.getElem?_map, hx, Option.map_some])|refine Stp.go ?_|(with_reducible first|refine it_pos rfl ?_|refine it_neg (by decide) ?_|refine st_nil rfl ?_|refine s_op ?_ ?_|exact trivial)|((with_reducible first|refine dw_reg0 ?_|refine dw_regB ?_);(conv=>arg 3;whnf))|(refine Spl.go (fun hq he=>?_) (fun hq he=>?_)<;>first|(exfalso;clear hq;omega)|((try first|(conv=>arg 8;simp only [hq])|(conv=>arg 4;simp only [hq]));clear hq))|((with_reducible first|refine c_split (fun hq=>?_) (fun hq=>?_)|refine q_split (fun hq=>?_) (fun hq=>?_))<;>(try first|(conv=>arg 8;simp only [hq])|(conv=>arg 4;simp only [hq])))|(with_reducible refine fin_0 ?_ (by first|rfl|(conv=>lhs;simp only [go_sem, bytesD, List.length_map, beq_self_eq_true, bne_self_eq_false, List.getElem?_map, hx, Option.map_some])) ?_)
            | (with_reducible show evC _ _ _ _ _ _ _ _ _ _ _ _
               first
               | (refine c_doesE (hix) ?_ ?_ ?_
                  · ((try (conv=>rhs;simp (disch:=omega) only [go_sem, bytesD, List.length_map, beq_self_eq_true, bne_self_eq_false, List.getElem?_map, hx, Option.map_some])); try rfl)
                  · first|rfl|(conv=>lhs;simp only [go_sem, bytesD, List.length_map, beq_self_eq_true, bne_self_eq_false, List.getElem?_map, hx, Option.map_some])))|exact Sub.refl _|omega)
          all_goals try (exfalso; omega)
          all_goals refine ⟨hil, trivial, Wk.list [] rfl rfl ?_⟩
          repeat' (first|(conv in hold _=>simp (disch:=omega) only [go_sem, bytesD, List.length_map, beq_self_eq_true, bne_self_eq_false])|exact trivial|exact Sub.refl _|omega)
        · repeat' (first|with_reducible refine acc_none ?_ | (conv in hold _=>simp (disch:=omega) only [go_sem, bytesD, List.length_map, beq_self_eq_true, bne_self_eq_false])|refine Stp.go ?_|(with_reducible first|refine it_pos rfl ?_|refine it_neg (by decide) ?_|refine st_nil rfl ?_|refine s_op ?_ ?_|exact trivial)|((with_reducible first|refine dw_reg0 ?_|refine dw_regB ?_);(conv=>arg 3;whnf))|(refine Spl.go (fun hq he=>?_) (fun hq he=>?_)<;>first|(exfalso;clear hq;omega)|((try first|(conv=>arg 8;simp only [hq])|(conv=>arg 4;simp only [hq]));clear hq))|((with_reducible first|refine c_split (fun hq=>?_) (fun hq=>?_)|refine q_split (fun hq=>?_) (fun hq=>?_))<;>(try first|(conv=>arg 8;simp only [hq])|(conv=>arg 4;simp only [hq])))|(with_reducible refine fin_0 ?_ (by first|rfl|(conv=>lhs;simp only [go_sem, bytesD, List.length_map, beq_self_eq_true, bne_self_eq_false])) ?_)|exact Sub.refl _|omega)
          exact Sub.of_eq (by rw [decide_eq_true (show 0 ≤ best by omega)])
  · refine does0 c_laws_FnCheapestPlan mixed (Nat.le_of_ble_eq_true rfl) ?_
    conv => arg 3; whnf
    repeat' (first|with_reducible refine acc_none ?_ | (conv in hold _=>simp (disch:=omega) only [go_sem, bytesD, List.length_map, beq_self_eq_true, bne_self_eq_false])|refine Stp.go ?_|(with_reducible first|refine it_pos rfl ?_|refine it_neg (by decide) ?_|refine st_nil rfl ?_|refine s_op ?_ ?_|exact trivial)|((with_reducible first|refine dw_reg0 ?_|refine dw_regB ?_);(conv=>arg 3;whnf))|(refine Spl.go (fun hq he=>?_) (fun hq he=>?_)<;>first|(exfalso;clear hq;omega)|((try first|(conv=>arg 8;simp only [hq])|(conv=>arg 4;simp only [hq]));clear hq))|((with_reducible first|refine c_split (fun hq=>?_) (fun hq=>?_)|refine q_split (fun hq=>?_) (fun hq=>?_))<;>(try first|(conv=>arg 8;simp only [hq])|(conv=>arg 4;simp only [hq])))|(with_reducible refine fin_0 ?_ (by first|rfl|(conv=>lhs;simp only [go_sem, bytesD, List.length_map, beq_self_eq_true, bne_self_eq_false])) ?_)|exact Sub.refl _|omega)
theorem walk_FnCheapestPlan (a : Option Addr) (len cap : Nat) (zs : List Int) (w : World) (h : IsRow .u8 w a len cap zs) :
    Calls Try.prog 8 #[.slice a len cap] w fun e W' => e = .returned (.bool true) ∧ Below w.heap.size w W' := walk_of does_FnCheapestPlan a len cap zs w h
end Go.Proofs.Ytpfedjaedlfdfaa
