/-
  Drawn arguments of EstimateRows. No condition.
-/
import Derived.Test.YtpfedjaedlfdfaaKSDca
import Derived.Test.YtpfedjaedlfdfaaKSDce
import Derived.Test.YtpfedjaedlfdfaaKSDcf
import Derived.Test.YtpfedjaedlfdfaaKSVEstF
import Derived.Test.YtpfedjaedlfdfaaJSVDrawQ
import Derived.Test.YtpfedjaedlfdfaaKSVPlanE
set_option maxHeartbeats 4000000
set_option maxRecDepth 100000
set_option linter.unusedVariables false
set_option linter.unusedSimpArgs false
namespace Go.Proofs.Ytpfedjaedlfdfaa
open Go.RowKit
theorem drawsW {α β : Type} (S : β → Nat → α → Nat → Prop) (top K : Nat) (step : ∀ b p, p < top → ∃ v q, S b p v q ∧ p ≤ q ∧ q ≤ p + K) : ∀ (l : List β) (p : Nat), p + l.length * K < top →
    ∃ (vs : List α) (ps : Nat → Nat), vs.length = l.length ∧ ps 0 = p ∧ (∀ i b v, l[i]? = some b → vs[i]? = some v → S b (ps i) v (ps (i + 1))) ∧ p ≤ ps l.length ∧ ps l.length ≤ p + l.length * K
  | [], p, _ => ⟨[], fun _ => p, rfl, rfl, (fun i b v h => by simp at h), Nat.le_refl p, Nat.le_add_right p _⟩
  | b :: l, p, hp => by
    have hn : (b :: l).length * K = l.length * K + K := by rw [List.length_cons, Nat.add_mul]; omega
    obtain ⟨v, q, hS, h0, h1⟩ := step b p (by omega)
    obtain ⟨vs, ps, hl, e0, hs, hp0, hp1⟩ := drawsW S top K step l q (by omega)
    refine ⟨v :: vs, fun i => match i with | 0 => p | i + 1 => ps i, by rw [List.length_cons, List.length_cons, hl], rfl, ?_, ?_, ?_⟩
    · intro i b' v' hb hv
      rcases i with _ | i
      · obtain rfl : b = b' := by simpa using hb
        obtain rfl : v = v' := by simpa using hv
        show S b p v (ps 0)
        rw [e0]
        exact hS
      · exact hs i b' v' (by simpa using hb) (by simpa using hv)
    · show p ≤ ps l.length
      omega
    · show ps l.length ≤ _
      omega
def clampW (w : Int) : Nat := (min (max w 1) 6).toNat
theorem clampW_eq (w : Int) : ((clampW w : Nat) : Int) = min (max w 1) 6 := by unfold clampW; omega
theorem clampW_pos (w : Int) : 0 < clampW w ∧ clampW w < 1000 := by unfold clampW; omega
theorem statsFor_ok {bs : List Nat} (hs : Src bs) (ws : List Int) (hl : 1 ≤ ws.length ∧ ws.length ≤ 3) (p : Nat) (hp : p < 300000000) : ∃ (ss : List St) (q : Nat), Does Try.prog 41 [rdD bs p] [.ref 1000000 0, intsD ws] (stsD ss) [rdD bs q] ∧ ss.length = ws.length := by
  obtain ⟨ss, ps, hsl, h0, hd, hp0, hp1⟩ := drawsW (fun (w : Int) p (s : St) q => ∃ rs : List (List V), Does Try.prog 66 [rdD bs p] [.ref 1000000 0, I (min (max w 1) 6), I 8] (taD ⟨clampW w, rs⟩) [rdD bs q] ∧ Does Try.prog 65 [] [taD ⟨clampW w, rs⟩] (stD s) []) 400000000 200001 (fun w p hp => by
    have hc := clampW_pos w
    obtain ⟨rs, q, ⟨ht, hrl, hrw⟩, hq0, hq1⟩ := randomTable_ok hs (clampW w) hc.2 8 (by omega) p (by omega)
    have hst := statsOf_z (clampW w) rs hc.2 (by omega) hrw
    exact ⟨_, q, ⟨rs, by rw [← clampW_eq w]; exact ht, hst⟩, hq0, hq1⟩) ws p (by omega)
  have hpw : ps ws.length ≤ p + 3 * 200001 := Nat.le_trans hp1 (by have := Nat.mul_le_mul_right 200001 hl.2; omega)
  obtain ⟨k, hk, _⟩ := pick_ok hs (ps ws.length) (by omega) 16 (by omega)
  obtain ⟨w0, hw0⟩ : ∃ w, ws[0]? = some w := ⟨_, List.getElem?_eq_getElem (by omega)⟩
  have hc := clampW_pos w0
  obtain ⟨s', q, ⟨ha, _⟩, _, _⟩ := anyStats_ok hs (clampW w0) hc.1 hc.2 (ps ws.length + 1) (by omega)
  rw [clampW_eq] at ha
  have hpos : (ss.map stD)[0]? = some (stD (ss[0]'(by omega))) := by
    rw [List.getElem?_map, List.getElem?_eq_getElem (by omega)]
    rfl
  have hsi : (ss.map stD).set 0 (.agg [I s'.n, .sl 1 (s'.ds.map I), .sl 1 (s'.ns.map I)]) = (ss.set 0 s').map stD := by rw [List.map_set]; rfl
  have t3 := take_allL stD ss (n := ws.length) hsl.symm
  have t4 : ((ss.set 0 s').map stD).take ws.length = (ss.set 0 s').map stD := take_allL stD _ (by rw [List.length_set]; exact hsl.symm)
  refine ⟨if k = 0 then ss.set 0 s' else ss, if k = 0 then q else ps ws.length + 1, ?_, ?_⟩
  · refine does c_spec_statsFor mixed (Nat.le_of_ble_eq_true rfl) 1 rfl ?_
    conv => arg 3; whnf
    repeat' (first|with_reducible refine acc_none ?_ | (conv in hold _=>simp (disch:=omega) only [go_sem])|refine Stp.go ?_|(with_reducible first|refine it_pos rfl ?_|refine it_neg (by decide) ?_|refine st_nil rfl ?_|refine s_op ?_ ?_|exact trivial)|((with_reducible first|refine dw_reg0 ?_|refine dw_regB ?_);(conv=>arg 3;whnf))|(refine Spl.go (fun hq he=>?_) (fun hq he=>?_)<;>first|(exfalso;clear hq;omega)|((try first|(conv=>arg 8;simp only [hq])|(conv=>arg 4;simp only [hq]));clear hq))|((with_reducible first|refine c_split (fun hq=>?_) (fun hq=>?_)|refine q_split (fun hq=>?_) (fun hq=>?_))<;>(try first|(conv=>arg 8;simp only [hq])|(conv=>arg 4;simp only [hq])))|(with_reducible refine fin_0 ?_ (by first|rfl|(conv=>lhs;simp only [go_sem])) ?_)|exact Sub.refl _|omega)
    refine dw_for (c := 2) (l := fun i => [(0, .ref 1000000 0), (1, intsD ws), (4, .nul), (5, .own 1000001 3 i), (6, I i), (1000000, rdD bs (ps i)), (1000001, .row 3 ((ss.take i).map stD))]) ws.length (fun _ => True) 0 trivial ((wk_row 5 2000099 3 (by decide) (by decide) rfl rfl).trans (Wk.list [1000000, 2000099] rfl rfl ?_)) (fun i hi _ => ?_) (Nat.zero_le _)
    · rw [h0]
      repeat' (first|(conv in hold _=>simp (disch:=omega) only [go_sem])|exact trivial|exact Sub.refl _|omega)
      exact rfl
    · have hlt := take_len (vs := ss) (i := i) (by omega)
      have hmt := take_map stD (vs := ss) (i := i) (by omega)
      by_cases hil : i < ws.length
      · obtain ⟨w, hw⟩ : ∃ w, ws[i]? = some w := ⟨_, List.getElem?_eq_getElem hil⟩
        obtain ⟨s, hss⟩ : ∃ s, ss[i]? = some s := ⟨_, List.getElem?_eq_getElem (by omega)⟩
        obtain ⟨rs, x1, x2⟩ := hd i w s hw hss
        have hnx := take_next hss
        repeat' (first
          | with_reducible refine acc_none ?_ | (conv in hold _=>simp (disch:=omega) only [go_sem, List.getElem?_map, hw, Option.map_some])|refine Stp.go ?_|(with_reducible first|refine it_pos rfl ?_|refine it_neg (by decide) ?_|refine st_nil rfl ?_|refine s_op ?_ ?_|exact trivial)|((with_reducible first|refine dw_reg0 ?_|refine dw_regB ?_);(conv=>arg 3;whnf))|(refine Spl.go (fun hq he=>?_) (fun hq he=>?_)<;>first|(exfalso;clear hq;omega)|((try first|(conv=>arg 8;simp only [hq])|(conv=>arg 4;simp only [hq]));clear hq))|((with_reducible first|refine c_split (fun hq=>?_) (fun hq=>?_)|refine q_split (fun hq=>?_) (fun hq=>?_))<;>(try first|(conv=>arg 8;simp only [hq])|(conv=>arg 4;simp only [hq])))|(with_reducible refine fin_0 ?_ (by first|rfl|(conv=>lhs;simp only [go_sem, List.getElem?_map, hw, Option.map_some])) ?_)
          | (with_reducible show evC _ _ _ _ _ _ _ _ _ _ _ _
             first
             | (refine c_doesR [1000000] (x1) (callOK_of rfl (Nat.le_of_ble_eq_true rfl) rfl ?_ ?_) ?_ ?_
                iterate 2 · repeat' (first|(conv in hold _=>simp (disch:=omega) only [go_sem, List.getElem?_map, hw, Option.map_some])|exact trivial|exact Sub.refl _|omega)
                · ((conv=>rhs;simp (disch:=omega) only [go_sem, List.getElem?_map, hw, Option.map_some]); try rfl))
             | (refine c_doesE (x2) ?_ ?_ ?_
                · ((try (conv=>rhs;simp (disch:=omega) only [go_sem, List.getElem?_map, hw, Option.map_some])); try rfl)
                · first|rfl|(conv=>lhs;simp only [go_sem, List.getElem?_map, hw, Option.map_some])))|exact Sub.refl _|omega)
        refine ⟨hil, trivial, Wk.list [1000000, 2000025] rfl rfl ?_⟩
        repeat' (first|(conv in hold _=>simp (disch:=omega) only [go_sem])|exact trivial|exact Sub.refl _|omega)
        rw [hmt, hnx, List.map_append]
        rfl
      · obtain rfl : i = ws.length := by omega
        have e1 : ss.take ws.length = ss := List.take_of_length_le (by omega)
        by_cases hk0 : k = 0
        · rw [if_pos hk0, if_pos hk0]
          repeat' (first
            | with_reducible refine acc_none ?_ | (conv in hold _=>simp (disch:=omega) only [go_sem, e1, List.getElem?_map, hw0, Option.map_some, hpos])|refine Stp.go ?_|(with_reducible first|refine it_pos rfl ?_|refine it_neg (by decide) ?_|refine st_nil rfl ?_|refine s_op ?_ ?_|exact trivial)|((with_reducible first|refine dw_reg0 ?_|refine dw_regB ?_);(conv=>arg 3;whnf))|(refine Spl.go (fun hq he=>?_) (fun hq he=>?_)<;>first|(exfalso;clear hq;omega)|((try first|(conv=>arg 8;simp only [hq])|(conv=>arg 4;simp only [hq]));clear hq))|((with_reducible first|refine c_split (fun hq=>?_) (fun hq=>?_)|refine q_split (fun hq=>?_) (fun hq=>?_))<;>(try first|(conv=>arg 8;simp only [hq])|(conv=>arg 4;simp only [hq])))
            | (with_reducible show evC _ _ _ _ _ _ _ _ _ _ _ _
               first
               | (refine c_doesR [1000000] (hk) (callOK_of rfl (Nat.le_of_ble_eq_true rfl) rfl ?_ ?_) ?_ ?_
                  iterate 2 · repeat' (first|(conv in hold _=>simp (disch:=omega) only [go_sem, e1, List.getElem?_map, hw0, Option.map_some, hpos])|exact trivial|exact Sub.refl _|omega)
                  · ((conv=>rhs;simp (disch:=omega) only [go_sem, e1, List.getElem?_map, hw0, Option.map_some, hpos]); try rfl))
               | (refine c_doesR [1000000] (ha) (callOK_of rfl (Nat.le_of_ble_eq_true rfl) rfl ?_ ?_) ?_ ?_
                  iterate 2 · repeat' (first|(conv in hold _=>simp (disch:=omega) only [go_sem, e1, List.getElem?_map, hw0, Option.map_some, hpos])|exact trivial|exact Sub.refl _|omega)
                  · ((conv=>rhs;simp (disch:=omega) only [go_sem, e1, List.getElem?_map, hw0, Option.map_some, hpos]); try rfl)))|exact Sub.refl _|omega)
          refine fin_wk (wk_frz 4 1000001 (by decide) (by decide) rfl ?_) ?_
          rotate_left
          (conv in hold _=>simp (disch:=omega) only [go_sem, e1, hsi, t4, hsl, List.length_set, Nat.le_refl])
          · refine fin_L [1000000] ?_ ?_ rfl ?_
            repeat' (first|(conv in hold _=>simp (disch:=omega) only [go_sem])|exact trivial|exact Sub.refl _|omega)
          · rw [hsi]
            exact sts_pur _
        · rw [if_neg hk0, if_neg hk0]
          repeat' (first
            | with_reducible refine acc_none ?_ | (conv in hold _=>simp (disch:=omega) only [go_sem, e1])|refine Stp.go ?_|(with_reducible first|refine it_pos rfl ?_|refine it_neg (by decide) ?_|refine st_nil rfl ?_|refine s_op ?_ ?_|exact trivial)|((with_reducible first|refine dw_reg0 ?_|refine dw_regB ?_);(conv=>arg 3;whnf))|(refine Spl.go (fun hq he=>?_) (fun hq he=>?_)<;>first|(exfalso;clear hq;omega)|((try first|(conv=>arg 8;simp only [hq])|(conv=>arg 4;simp only [hq]));clear hq))|((with_reducible first|refine c_split (fun hq=>?_) (fun hq=>?_)|refine q_split (fun hq=>?_) (fun hq=>?_))<;>(try first|(conv=>arg 8;simp only [hq])|(conv=>arg 4;simp only [hq])))
            | (with_reducible show evC _ _ _ _ _ _ _ _ _ _ _ _
               first
               | (refine c_doesR [1000000] (hk) (callOK_of rfl (Nat.le_of_ble_eq_true rfl) rfl ?_ ?_) ?_ ?_
                  iterate 2 · repeat' (first|(conv in hold _=>simp (disch:=omega) only [go_sem, e1])|exact trivial|exact Sub.refl _|omega)
                  · ((conv=>rhs;simp (disch:=omega) only [go_sem, e1]); try rfl)))|exact Sub.refl _|omega)
          refine fin_wk (wk_frz 4 1000001 (by decide) (by decide) rfl ?_) ?_
          rotate_left
          (conv in hold _=>simp (disch:=omega) only [go_sem, e1, t3, hsl, Nat.le_refl])
          · refine fin_L [1000000] ?_ ?_ rfl ?_
            repeat' (first|(conv in hold _=>simp (disch:=omega) only [go_sem])|exact trivial|exact Sub.refl _|omega)
          · exact sts_pur _
  · split
    · rw [List.length_set]
      exact hsl
    · exact hsl
theorem DrawEstimateRows_ok (bs : List Nat) (hb : ∀ b, b ∈ bs → b < 256) : ∃ (x : Pl) (ss : List St), Does Try.prog 18 [] [bytesD bs] (.tup [pD x, stsD ss]) [] ∧ psz x ≤ 11100 ∧ 1 ≤ ss.length ∧ ss.length ≤ 3 := by
  have hs : Src (bs.take 2000) := ⟨fun b h => hb b (List.mem_of_mem_take h), by rw [List.length_take]; omega⟩
  have hr := newReader_ok bs
  generalize bs.take 2000 = rs at hs hr
  obtain ⟨x, ws, q, hx, hl, _, hz, hq0, hq1⟩ := planAndWidths_ok hs 0 (by omega)
  obtain ⟨ss, q2, hst, hsl⟩ := statsFor_ok hs ws (by omega) q (by omega)
  refine ⟨x, ss, ?_, hz, by omega, by omega⟩
  refine does0 c_spec_DrawEstimateRows mixed (Nat.le_of_ble_eq_true rfl) ?_
  conv => arg 3; whnf
  repeat' (first
    | with_reducible refine acc_none ?_ | (conv in hold _=>simp (disch:=omega) only [go_sem])|refine Stp.go ?_|(with_reducible first|refine it_pos rfl ?_|refine it_neg (by decide) ?_|refine st_nil rfl ?_|refine s_op ?_ ?_|exact trivial)|((with_reducible first|refine dw_reg0 ?_|refine dw_regB ?_);(conv=>arg 3;whnf))|(refine Spl.go (fun hq he=>?_) (fun hq he=>?_)<;>first|(exfalso;clear hq;omega)|((try first|(conv=>arg 8;simp only [hq])|(conv=>arg 4;simp only [hq]));clear hq))|((with_reducible first|refine c_split (fun hq=>?_) (fun hq=>?_)|refine q_split (fun hq=>?_) (fun hq=>?_))<;>(try first|(conv=>arg 8;simp only [hq])|(conv=>arg 4;simp only [hq])))|(with_reducible refine fin_0 ?_ (by first|rfl|(conv=>lhs;simp only [go_sem])) ?_)
    | (with_reducible show evC _ _ _ _ _ _ _ _ _ _ _ _
       first
       | (refine c_doesR [3000001] (hr) (callOK_of rfl (Nat.le_of_ble_eq_true rfl) rfl ?_ ?_) ?_ ?_
          iterate 2 · repeat' (first|(conv in hold _=>simp (disch:=omega) only [go_sem])|exact trivial|exact Sub.refl _|omega)
          · ((conv=>rhs;simp (disch:=omega) only [go_sem]); try rfl))
       | (refine c_doesR [3000001] (hx) (callOK_of rfl (Nat.le_of_ble_eq_true rfl) rfl ?_ ?_) ?_ ?_
          iterate 2 · repeat' (first|(conv in hold _=>simp (disch:=omega) only [go_sem])|exact trivial|exact Sub.refl _|omega)
          · ((conv=>rhs;simp (disch:=omega) only [go_sem]); try rfl))
       | (refine c_doesR [3000001] (hst) (callOK_of rfl (Nat.le_of_ble_eq_true rfl) rfl ?_ ?_) ?_ ?_
          iterate 2 · repeat' (first|(conv in hold _=>simp (disch:=omega) only [go_sem])|exact trivial|exact Sub.refl _|omega)
          · ((conv=>rhs;simp (disch:=omega) only [go_sem]); try rfl)))|exact Sub.refl _|omega)
end Go.Proofs.Ytpfedjaedlfdfaa
