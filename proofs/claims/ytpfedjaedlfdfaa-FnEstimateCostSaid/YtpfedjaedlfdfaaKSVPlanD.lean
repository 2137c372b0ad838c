/-
  Drawn plans with widths. No condition.
-/
import Derived.Test.YtpfedjaedlfdfaaKSDca
import Derived.Test.YtpfedjaedlfdfaaKSDce
import Derived.Test.YtpfedjaedlfdfaaKSVPlanC
set_option maxHeartbeats 4000000
set_option maxRecDepth 100000
set_option linter.unusedVariables false
set_option linter.unusedSimpArgs false
namespace Go.Proofs.Ytpfedjaedlfdfaa
open Go.RowKit
theorem randomWidths_own {bs : List Nat} (hs : Src bs) (p : Nat) (hp : p < 100000000) : ∃ (ws : List Int) (q : Nat), (Does Try.prog 50 [rdD bs p] [.ref 1000000 0] (.own 1000001 1 ws.length) [rdD bs q, wrD ws] ∧ (2 ≤ ws.length ∧ ws.length ≤ 3) ∧ ∀ (i : Nat) (w : Int), ws[i]? = some w → 1 ≤ w ∧ w ≤ 2) ∧ p ≤ q ∧ q ≤ p + 10 := by
  obtain ⟨k, hk, k0, k1, _⟩ := pick_ok hs p (by omega) 2 (by omega)
  have hk1 := k1 (by omega)
  obtain ⟨m, rfl⟩ := Int.eq_ofNat_of_zero_le k0
  obtain ⟨ws, ps, hl, h0, hd, hp0, hp1⟩ := draws (fun p (w : Int) q => q = p + 1 ∧ DPick bs p 2 (w - 1) ∧ 1 ≤ w ∧ w ≤ 2) 900000000 1 (fun p hp => by
    obtain ⟨v, hv, v0, v1, _⟩ := pick_ok hs p (by omega) 2 (by omega)
    have hv1 := v1 (by omega)
    refine ⟨v + 1, p + 1, ⟨rfl, by rw [show v + 1 - 1 = v by omega]; exact hv, by omega, by omega⟩, by omega, by omega⟩) (2 + m) (p + 1) (by omega)
  refine ⟨ws, ps (2 + m), ⟨?_, by omega, fun i w hi => (hd i w hi).2.2⟩, by omega, by omega⟩
  refine does c_spec_randomWidths mixed (Nat.le_of_ble_eq_true rfl) 1 rfl ?_
  conv => arg 3; whnf
  repeat' (first
    | with_reducible refine acc_none ?_ | (conv in hold _=>simp (disch:=omega) only [go_sem])|refine Stp.go ?_|(with_reducible first|refine it_pos rfl ?_|refine it_neg (by decide) ?_|refine st_nil rfl ?_|refine s_op ?_ ?_|exact trivial)|((with_reducible first|refine dw_reg0 ?_|refine dw_regB ?_);(conv=>arg 3;whnf))|(refine Spl.go (fun hq he=>?_) (fun hq he=>?_)<;>first|(exfalso;clear hq;omega)|((try first|(conv=>arg 8;simp only [hq])|(conv=>arg 4;simp only [hq]));clear hq))|((with_reducible first|refine c_split (fun hq=>?_) (fun hq=>?_)|refine q_split (fun hq=>?_) (fun hq=>?_))<;>(try first|(conv=>arg 8;simp only [hq])|(conv=>arg 4;simp only [hq])))|(with_reducible refine fin_0 ?_ (by first|rfl|(conv=>lhs;simp only [go_sem])) ?_)
    | (with_reducible show evC _ _ _ _ _ _ _ _ _ _ _ _
       first
       | (refine c_doesR [1000000] (hk) (callOK_of rfl (Nat.le_of_ble_eq_true rfl) rfl ?_ ?_) ?_ ?_
          iterate 2 · repeat' (first|(conv in hold _=>simp (disch:=omega) only [go_sem])|exact trivial|exact Sub.refl _|omega)
          · ((conv=>rhs;simp (disch:=omega) only [go_sem]); try rfl)))|exact Sub.refl _|omega)
  refine dw_for (c := 2) (l := fun i => [(0, .ref 1000000 0), (3, .own 1000001 1 i), (4, I (2 + (m : Int) - i)), (1000000, rdD bs (ps i)), (1000001, .row 1 ((ws.take i).map I))]) (2 + m) (fun _ => True) 0 trivial ((wk_row 3 2000018 1 (by decide) (by decide) rfl rfl).trans (Wk.list [1000000, 2000018] rfl rfl ?_)) (fun i hi _ => ?_) (Nat.zero_le _)
  · rw [h0]
    repeat' (first|(conv in hold _=>simp (disch:=omega) only [go_sem])|exact trivial|exact Sub.refl _|omega)
    exact congrArg (fun n => D.v (Value.int .i64 n)) (by omega)
  · have hlt := take_len (vs := ws) (i := i) (by omega)
    have hmt := take_map I (vs := ws) (i := i) (by omega)
    by_cases hil : i < 2 + m
    · obtain ⟨w, hw⟩ : ∃ w, ws[i]? = some w := ⟨ws[i], List.getElem?_eq_getElem (by omega)⟩
      obtain ⟨x1, x2, x3, x4⟩ := hd i w hw
      have hnx := take_next hw
      have hw1 : 1 + (w - 1) = w := by omega
      repeat' (first
        | with_reducible refine acc_none ?_ | (conv in hold _=>simp (disch:=omega) only [go_sem, hw1])|refine Stp.go ?_|(with_reducible first|refine it_pos rfl ?_|refine it_neg (by decide) ?_|refine st_nil rfl ?_|refine s_op ?_ ?_|exact trivial)|((with_reducible first|refine dw_reg0 ?_|refine dw_regB ?_);(conv=>arg 3;whnf))|(refine Spl.go (fun hq he=>?_) (fun hq he=>?_)<;>first|(exfalso;clear hq;omega)|((try first|(conv=>arg 8;simp only [hq])|(conv=>arg 4;simp only [hq]));clear hq))|((with_reducible first|refine c_split (fun hq=>?_) (fun hq=>?_)|refine q_split (fun hq=>?_) (fun hq=>?_))<;>(try first|(conv=>arg 8;simp only [hq])|(conv=>arg 4;simp only [hq])))|(with_reducible refine fin_0 ?_ (by first|rfl|(conv=>lhs;simp only [go_sem, hw1])) ?_)
        | (with_reducible show evC _ _ _ _ _ _ _ _ _ _ _ _
           first
           | (refine c_doesR [1000000] (x2) (callOK_of rfl (Nat.le_of_ble_eq_true rfl) rfl ?_ ?_) ?_ ?_
              iterate 2 · repeat' (first|(conv in hold _=>simp (disch:=omega) only [go_sem, hw1])|exact trivial|exact Sub.refl _|omega)
              · ((conv=>rhs;simp (disch:=omega) only [go_sem, hw1]); try rfl)))|exact Sub.refl _|omega)
      refine ⟨by omega, trivial, Wk.list [1000000, 2000018] rfl rfl ?_⟩
      repeat' (first|(conv in hold _=>simp (disch:=omega) only [go_sem, hw1, x1])|exact trivial|exact Sub.refl _|omega)
      refine ⟨congrArg (fun n => D.v (Value.int .i64 n)) (by omega), ?_⟩
      rw [hmt, hnx, List.map_append]
      rfl
    · obtain rfl : i = 2 + m := by omega
      have e1 : ws.take (2 + m) = ws := List.take_of_length_le (by omega)
      have e2 : (ws.map I).take (2 + m) = ws.map I := List.take_of_length_le (by rw [List.length_map]; omega)
      have hl2 : ws.length = 2 + m := hl
      rw [hl2]
      repeat' (first|with_reducible refine acc_none ?_ | (conv in hold _=>simp (disch:=omega) only [go_sem, e1])|refine Stp.go ?_|(with_reducible first|refine it_pos rfl ?_|refine it_neg (by decide) ?_|refine st_nil rfl ?_|refine s_op ?_ ?_|exact trivial)|((with_reducible first|refine dw_reg0 ?_|refine dw_regB ?_);(conv=>arg 3;whnf))|(refine Spl.go (fun hq he=>?_) (fun hq he=>?_)<;>first|(exfalso;clear hq;omega)|((try first|(conv=>arg 8;simp only [hq])|(conv=>arg 4;simp only [hq]));clear hq))|((with_reducible first|refine c_split (fun hq=>?_) (fun hq=>?_)|refine q_split (fun hq=>?_) (fun hq=>?_))<;>(try first|(conv=>arg 8;simp only [hq])|(conv=>arg 4;simp only [hq])))|(with_reducible refine fin_0 ?_ (by first|rfl|(conv=>lhs;simp only [go_sem, e1])) ?_)|exact Sub.refl _|omega)
      refine fin_L [1000000, 1000001] ?_ ?_ rfl ?_
      repeat' (first|(conv in hold _=>simp (disch:=omega) only [go_sem, e1, e2])|exact trivial|exact Sub.refl _|omega)
      all_goals (try rw [e2])
theorem randomPlan_own {bs : List Nat} (hs : Src bs) {ws : List Int} (hw : wsOk ws) (p : Nat) (hp : p < 100000000) : ∃ (x : Pl) (q : Nat), Does Try.prog 77 [rdD bs p, wrD ws] [.ref 1000000 0, .own 1000001 1 ws.length] (rootD 1000002 1000003 x) [rdD bs q, wrD ws, esR x, csR x] ∧ p ≤ q ∧ q ≤ p + 21000 ∧ psz x ≤ 11000 := by
  obtain ⟨k, hk, k0, k1, _⟩ := pick_ok hs p (by omega) 4 (by omega)
  have hk1 := k1 (by omega)
  obtain ⟨m, rfl⟩ := Int.eq_ofNat_of_zero_le k0
  obtain ⟨x, q, j', u', ⟨hD, hO⟩, hq0, hq1, hz, _, _⟩ := plan_any hs hw (m + 1) (p + 1) (by omega) (by omega)
  have hm1 : ((m + 1 : Nat) : Int) = 1 + (m : Int) := by omega
  unfold DPlan at hD
  unfold OPlan at hO
  rw [hm1] at hD hO
  have hg : gnD ws 1 1 = .obj [.ref 1000001 0, .own 1000002 1 ws.length, I 1, I 1] := rfl
  rw [hg] at hD hO
  obtain ⟨kk, hkk, _⟩ := pick_ok hs q (by omega) 2 (by omega)
  by_cases hkk0 : kk = 0
  · subst hkk0
    obtain ⟨n, hn, hwx⟩ := wid_of hw x (by omega)
    obtain ⟨e, q2, hce, he0, he1, hez⟩ := randomCondition_ok hs n (by omega) (q + 1) (by omega)
    have hf := filterOf_own e x
    have hfz : psz (.mk 2 0 [e] [] [x]) = esz e + 0 + (1 + psz x) := by rw [psz_one, eszL_1]; rfl
    refine ⟨.mk 2 0 [e] [] [x], q2, ?_, by omega, by omega, by omega⟩
    refine does c_spec_randomPlan mixed (Nat.le_of_ble_eq_true rfl) 2 rfl ?_
    conv => arg 3; whnf
    repeat' (first
      | with_reducible refine acc_none ?_ | (conv in hold _=>simp (disch:=omega) only [go_sem])|refine Stp.go ?_|(with_reducible first|refine it_pos rfl ?_|refine it_neg (by decide) ?_|refine st_nil rfl ?_|refine s_op ?_ ?_|exact trivial)|((with_reducible first|refine dw_reg0 ?_|refine dw_regB ?_);(conv=>arg 3;whnf))|(refine Spl.go (fun hq he=>?_) (fun hq he=>?_)<;>first|(exfalso;clear hq;omega)|((try first|(conv=>arg 8;simp only [hq])|(conv=>arg 4;simp only [hq]));clear hq))|((with_reducible first|refine c_split (fun hq=>?_) (fun hq=>?_)|refine q_split (fun hq=>?_) (fun hq=>?_))<;>(try first|(conv=>arg 8;simp only [hq])|(conv=>arg 4;simp only [hq])))|(with_reducible refine fin_0 ?_ (by first|rfl|(conv=>lhs;simp only [go_sem])) ?_)
      | (with_reducible show evC _ _ _ _ _ _ _ _ _ _ _ _
         first
         | (refine c_doesR [1000000] (hk) (callOK_of rfl (Nat.le_of_ble_eq_true rfl) rfl ?_ ?_) ?_ ?_
            iterate 2 · repeat' (first|(conv in hold _=>simp (disch:=omega) only [go_sem])|exact trivial|exact Sub.refl _|omega)
            · ((conv=>rhs;simp (disch:=omega) only [go_sem]); try rfl))
         | (refine c_doesR [2000010, 1000000, 1000001] (hD) (callOK_of rfl (Nat.le_of_ble_eq_true rfl) rfl ?_ ?_) ?_ ?_
            iterate 2 · repeat' (first|(conv in hold _=>simp (disch:=omega) only [go_sem])|exact trivial|exact Sub.refl _|omega)
            · ((conv=>rhs;simp (disch:=omega) only [go_sem]); try rfl))
         | (refine c_doesR [1000000] (hkk) (callOK_of rfl (Nat.le_of_ble_eq_true rfl) rfl ?_ ?_) ?_ ?_
            iterate 2 · repeat' (first|(conv in hold _=>simp (disch:=omega) only [go_sem])|exact trivial|exact Sub.refl _|omega)
            · ((conv=>rhs;simp (disch:=omega) only [go_sem]); try rfl))
         | (refine c_doesR [1000001] (hwx) (callOK_of rfl (Nat.le_of_ble_eq_true rfl) rfl ?_ ?_) ?_ ?_
            iterate 2 · repeat' (first|(conv in hold _=>simp (disch:=omega) only [go_sem])|exact trivial|exact Sub.refl _|omega)
            · ((conv=>rhs;simp (disch:=omega) only [go_sem]); try rfl))
         | (refine c_doesR [1000000] (hce) (callOK_of rfl (Nat.le_of_ble_eq_true rfl) rfl ?_ ?_) ?_ ?_
            iterate 2 · repeat' (first|(conv in hold _=>simp (disch:=omega) only [go_sem])|exact trivial|exact Sub.refl _|omega)
            · ((conv=>rhs;simp (disch:=omega) only [go_sem]); try rfl))
         | (refine c_doesR [3000001, 3000002] (hf) (callOK_of rfl (Nat.le_of_ble_eq_true rfl) rfl ?_ ?_) ?_ ?_
            iterate 2 · repeat' (first|(conv in hold _=>simp (disch:=omega) only [go_sem])|exact trivial|exact Sub.refl _|omega)
            · ((conv=>rhs;simp (disch:=omega) only [go_sem]); try rfl)))|exact Sub.refl _|omega)
    refine fin_L [1000000, 1000001, 3000001, 3000002] ?_ ?_ rfl ?_
    repeat' (first|(conv in hold _=>simp (disch:=omega) only [go_sem])|exact trivial|exact Sub.refl _|omega)
  · refine ⟨x, q + 1, ?_, by omega, by omega, by omega⟩
    refine does c_spec_randomPlan mixed (Nat.le_of_ble_eq_true rfl) 2 rfl ?_
    conv => arg 3; whnf
    repeat' (first
      | with_reducible refine acc_none ?_ | (conv in hold _=>simp (disch:=omega) only [go_sem])|refine Stp.go ?_|(with_reducible first|refine it_pos rfl ?_|refine it_neg (by decide) ?_|refine st_nil rfl ?_|refine s_op ?_ ?_|exact trivial)|((with_reducible first|refine dw_reg0 ?_|refine dw_regB ?_);(conv=>arg 3;whnf))|(refine Spl.go (fun hq he=>?_) (fun hq he=>?_)<;>first|(exfalso;clear hq;omega)|((try first|(conv=>arg 8;simp only [hq])|(conv=>arg 4;simp only [hq]));clear hq))|((with_reducible first|refine c_split (fun hq=>?_) (fun hq=>?_)|refine q_split (fun hq=>?_) (fun hq=>?_))<;>(try first|(conv=>arg 8;simp only [hq])|(conv=>arg 4;simp only [hq])))|(with_reducible refine fin_0 ?_ (by first|rfl|(conv=>lhs;simp only [go_sem])) ?_)
      | (with_reducible show evC _ _ _ _ _ _ _ _ _ _ _ _
         first
         | (refine c_doesR [1000000] (hk) (callOK_of rfl (Nat.le_of_ble_eq_true rfl) rfl ?_ ?_) ?_ ?_
            iterate 2 · repeat' (first|(conv in hold _=>simp (disch:=omega) only [go_sem])|exact trivial|exact Sub.refl _|omega)
            · ((conv=>rhs;simp (disch:=omega) only [go_sem]); try rfl))
         | (refine c_doesR [2000010, 1000000, 1000001, 3000001, 3000002] (hO) (callOK_of rfl (Nat.le_of_ble_eq_true rfl) rfl ?_ ?_) ?_ ?_
            iterate 2 · repeat' (first|(conv in hold _=>simp (disch:=omega) only [go_sem])|exact trivial|exact Sub.refl _|omega)
            · ((conv=>rhs;simp (disch:=omega) only [go_sem]); try rfl))
         | (refine c_doesR [1000000] (hkk) (callOK_of rfl (Nat.le_of_ble_eq_true rfl) rfl ?_ ?_) ?_ ?_
            iterate 2 · repeat' (first|(conv in hold _=>simp (disch:=omega) only [go_sem])|exact trivial|exact Sub.refl _|omega)
            · ((conv=>rhs;simp (disch:=omega) only [go_sem]); try rfl)))|exact Sub.refl _|omega)
    refine fin_L [1000000, 1000001, 3000001, 3000002] ?_ ?_ rfl ?_
    repeat' (first|(conv in hold _=>simp (disch:=omega) only [go_sem])|exact trivial|exact Sub.refl _|omega)
end Go.Proofs.Ytpfedjaedlfdfaa
