/-
  The law that filters do not increase estimates. No condition.
-/
import Derived.Test.YtpfedjaedlfdfaaKSDcWEstG
import Derived.Test.YtpfedjaedlfdfaaKSDca
import Derived.Test.YtpfedjaedlfdfaaKSVDrawU
import Derived.Test.YtpfedjaedlfdfaaJSV0
import Derived.Test.YtpfedjaedlfdfaaJSVCall
set_option maxHeartbeats 4000000
set_option maxRecDepth 100000
set_option linter.unusedVariables false
set_option linter.unusedSimpArgs false
namespace Go.Proofs.Ytpfedjaedlfdfaa
open Go.RowKit
theorem one_two : Does Try.prog 29 [] [I 6, .agg [I 1, I 0, Bo false, I 0, .nul], .agg [I 2, I 0, Bo false, I 1, .nul]] (eD (.mk 6 0 ⟨false, 0⟩ [.mk 1 0 ⟨false, 0⟩ [], .mk 2 0 ⟨false, 1⟩ []])) [] := by
  have h : Sub (.agg [I 6, I 0, Bo false, I 0, .sl 5 [.agg [I 1, I 0, Bo false, I 0, .nul], .agg [I 2, I 0, Bo false, I 1, .nul]]]) (eD (.mk 6 0 ⟨false, 0⟩ [.mk 1 0 ⟨false, 0⟩ [], .mk 2 0 ⟨false, 1⟩ []])) := by
    rw [eD_eC]
    exact Sub.agg (twoC (leafC 0) ⟨Sub.refl _, Sub.refl _, Sub.refl _, Sub.refl _, Sub.nul 5, trivial⟩)
  simp only [go_sem] at h
  refine does0 c_laws_two mixed (Nat.le_of_ble_eq_true rfl) ?_
  conv => arg 3; whnf
  repeat' (first|with_reducible refine acc_none ?_ | (conv in hold _=>simp (disch:=omega) only [go_sem])|refine Stp.go ?_|(with_reducible first|refine it_pos rfl ?_|refine it_neg (by decide) ?_|refine st_nil rfl ?_|refine s_op ?_ ?_|exact trivial)|((with_reducible first|refine dw_reg0 ?_|refine dw_regB ?_);(conv=>arg 3;whnf))|(refine Spl.go (fun hq he=>?_) (fun hq he=>?_)<;>first|(exfalso;clear hq;omega)|((try first|(conv=>arg 8;simp only [hq])|(conv=>arg 4;simp only [hq]));clear hq))|((with_reducible first|refine c_split (fun hq=>?_) (fun hq=>?_)|refine q_split (fun hq=>?_) (fun hq=>?_))<;>(try first|(conv=>arg 8;simp only [hq])|(conv=>arg 4;simp only [hq])))|(with_reducible refine fin_0 ?_ (by first|rfl|(conv=>lhs;simp only [go_sem])) ?_)|exact Sub.refl _|omega)
  all_goals exact h
theorem filter1_ok (e : E) (x : Pl) : Does Try.prog 28 [] [eD e, pD x] (pD (.mk 2 0 [e] [] [x])) [] := by
  refine does0 c_laws_filter mixed (Nat.le_of_ble_eq_true rfl) ?_
  conv => arg 3; whnf
  repeat' (first|with_reducible refine acc_none ?_ | (conv in hold _=>simp (disch:=omega) only [go_sem])|refine Stp.go ?_|(with_reducible first|refine it_pos rfl ?_|refine it_neg (by decide) ?_|refine st_nil rfl ?_|refine s_op ?_ ?_|exact trivial)|((with_reducible first|refine dw_reg0 ?_|refine dw_regB ?_);(conv=>arg 3;whnf))|(refine Spl.go (fun hq he=>?_) (fun hq he=>?_)<;>first|(exfalso;clear hq;omega)|((try first|(conv=>arg 8;simp only [hq])|(conv=>arg 4;simp only [hq]));clear hq))|((with_reducible first|refine c_split (fun hq=>?_) (fun hq=>?_)|refine q_split (fun hq=>?_) (fun hq=>?_))<;>(try first|(conv=>arg 8;simp only [hq])|(conv=>arg 4;simp only [hq])))|(with_reducible refine fin_0 ?_ (by first|rfl|(conv=>lhs;simp only [go_sem])) ?_)|exact Sub.refl _|omega)
  have h : Sub (.agg [I 2, I 0, .sl 5 [eD e], .nul, .sl 5 [pD x]]) (pD (.mk 2 0 [e] [] [x])) := plS (Sub.refl _) (Sub.nul 1) (Sub.refl _)
  simp only [go_sem] at h
  exact h
theorem does_FnEstimateFilter (bs : List Nat) (hb : ∀ b, b ∈ bs → b < 256) : Does Try.prog 9 [] [bytesD bs] (Bo true) [] := by
  obtain ⟨x, ss, hd, hz, hl0, hl⟩ := DrawEstimateRows_ok bs hb
  by_cases hb1 : bs.length ≤ 1048576
  · rcases Rows_all x (by omega) ss (by omega) with ⟨h1, h2⟩ | ⟨w, n, ⟨hss, hwo, hfine⟩, hw, hw1, hw2, hn⟩
    · refine does0 c_laws_FnEstimateFilter mixed (Nat.le_of_ble_eq_true rfl) ?_
      conv => arg 3; whnf
      repeat' (first
        | with_reducible refine acc_none ?_ | (conv in hold _=>simp (disch:=omega) only [go_sem, bytesD, List.length_map, beq_self_eq_true, bne_self_eq_false])|refine Stp.go ?_|(with_reducible first|refine it_pos rfl ?_|refine it_neg (by decide) ?_|refine st_nil rfl ?_|refine s_op ?_ ?_|exact trivial)|((with_reducible first|refine dw_reg0 ?_|refine dw_regB ?_);(conv=>arg 3;whnf))|(refine Spl.go (fun hq he=>?_) (fun hq he=>?_)<;>first|(exfalso;clear hq;omega)|((try first|(conv=>arg 8;simp only [hq])|(conv=>arg 4;simp only [hq]));clear hq))|((with_reducible first|refine c_split (fun hq=>?_) (fun hq=>?_)|refine q_split (fun hq=>?_) (fun hq=>?_))<;>(try first|(conv=>arg 8;simp only [hq])|(conv=>arg 4;simp only [hq])))|(with_reducible refine fin_0 ?_ (by first|rfl|(conv=>lhs;simp only [go_sem, bytesD, List.length_map, beq_self_eq_true, bne_self_eq_false])) ?_)
        | (with_reducible show evC _ _ _ _ _ _ _ _ _ _ _ _
           first
           | (refine c_doesE (hd) ?_ ?_ ?_
              · ((try (conv=>rhs;simp (disch:=omega) only [go_sem, bytesD, List.length_map, beq_self_eq_true, bne_self_eq_false])); try rfl)
              · first|rfl|(conv=>lhs;simp only [go_sem, bytesD, List.length_map, beq_self_eq_true, bne_self_eq_false]))
           | (refine c_doesE (h2) ?_ ?_ ?_
              · ((try (conv=>rhs;simp (disch:=omega) only [go_sem, bytesD, List.length_map, beq_self_eq_true, bne_self_eq_false])); try rfl)
              · first|rfl|(conv=>lhs;simp only [go_sem, bytesD, List.length_map, beq_self_eq_true, bne_self_eq_false]))
           | (refine c_doesE (h1) ?_ ?_ ?_
              · ((try (conv=>rhs;simp (disch:=omega) only [go_sem, bytesD, List.length_map, beq_self_eq_true, bne_self_eq_false])); try rfl)
              · first|rfl|(conv=>lhs;simp only [go_sem, bytesD, List.length_map, beq_self_eq_true, bne_self_eq_false]))
           | (refine c_doesE (h1) ?_ ?_ ?_
              · ((try (conv=>rhs;simp (disch:=omega) only [go_sem, bytesD, List.length_map, beq_self_eq_true, bne_self_eq_false])); try rfl)
              · first|rfl|(conv=>lhs;simp only [go_sem, bytesD, List.length_map, beq_self_eq_true, bne_self_eq_false])))|exact Sub.refl _|omega)
    · have hn0 := hn.1.1
      obtain ⟨h1, h2⟩ := Rows_of hss (by omega) hw hw1 hw2 hn
      have hez : esz (.mk 6 0 ⟨false, 0⟩ [.mk 1 0 ⟨false, 0⟩ [], .mk 2 0 ⟨false, 1⟩ []]) = 3 := rfl
      have h3 := filter1_ok (.mk 6 0 ⟨false, 0⟩ [.mk 1 0 ⟨false, 0⟩ [], .mk 2 0 ⟨false, 1⟩ []]) x
      obtain ⟨f, h4, hf, _⟩ := est_over (p := .mk 2 0 [.mk 6 0 ⟨false, 0⟩ [.mk 1 0 ⟨false, 0⟩ [], .mk 2 0 ⟨false, 1⟩ []]] [] [x]) hss (by omega) hn rfl (by rw [psz_one, eszL_1, hez]; show 3 + 0 + (1 + psz x) ≤ _; omega) (.inl rfl)
      obtain ⟨d, h5, _, hd7⟩ := est_over (p := .mk 7 0 [] [] [x]) hss (by omega) hn rfl (by rw [psz_one]; show 0 + 0 + (1 + psz x) ≤ _; omega) (.inr rfl)
      have h6 : Does Try.prog 19 [] [.agg [I 7, I 0, .nul, .nul, .sl 5 [pD x]], stsD ss] (I d) [] := h5.weak ⟨plS (Sub.nul 5) (Sub.nul 1) (Sub.refl _), Sub.refl _, trivial⟩ (Sub.refl _)
      have e2 := one_two
      generalize Pl.mk 2 0 [.mk 6 0 ⟨false, 0⟩ [.mk 1 0 ⟨false, 0⟩ [], .mk 2 0 ⟨false, 1⟩ []]] [] [x] = pf at *
      generalize E.mk 6 0 ⟨false, 0⟩ [.mk 1 0 ⟨false, 0⟩ [], .mk 2 0 ⟨false, 1⟩ []] = e at *
      have hfn := decide_eq_true hf
      rcases hd7 rfl with h7 | rfl
      · refine does0 c_laws_FnEstimateFilter mixed (Nat.le_of_ble_eq_true rfl) ?_
        conv => arg 3; whnf
        repeat' (first
          | with_reducible refine acc_none ?_ | (conv in hold _=>simp (disch:=omega) only [go_sem, bytesD, List.length_map, beq_self_eq_true, bne_self_eq_false])|refine Stp.go ?_|(with_reducible first|refine it_pos rfl ?_|refine it_neg (by decide) ?_|refine st_nil rfl ?_|refine s_op ?_ ?_|exact trivial)|((with_reducible first|refine dw_reg0 ?_|refine dw_regB ?_);(conv=>arg 3;whnf))|(refine Spl.go (fun hq he=>?_) (fun hq he=>?_)<;>first|(exfalso;clear hq;omega)|((try first|(conv=>arg 8;simp only [hq])|(conv=>arg 4;simp only [hq]));clear hq))|((with_reducible first|refine c_split (fun hq=>?_) (fun hq=>?_)|refine q_split (fun hq=>?_) (fun hq=>?_))<;>(try first|(conv=>arg 8;simp only [hq])|(conv=>arg 4;simp only [hq])))|(with_reducible refine fin_0 ?_ (by first|rfl|(conv=>lhs;simp only [go_sem, bytesD, List.length_map, beq_self_eq_true, bne_self_eq_false])) ?_)
          | (with_reducible show evC _ _ _ _ _ _ _ _ _ _ _ _
             first
             | (refine c_doesE (hd) ?_ ?_ ?_
                · ((try (conv=>rhs;simp (disch:=omega) only [go_sem, bytesD, List.length_map, beq_self_eq_true, bne_self_eq_false])); try rfl)
                · first|rfl|(conv=>lhs;simp only [go_sem, bytesD, List.length_map, beq_self_eq_true, bne_self_eq_false]))
             | (refine c_doesE (h2) ?_ ?_ ?_
                · ((try (conv=>rhs;simp (disch:=omega) only [go_sem, bytesD, List.length_map, beq_self_eq_true, bne_self_eq_false])); try rfl)
                · first|rfl|(conv=>lhs;simp only [go_sem, bytesD, List.length_map, beq_self_eq_true, bne_self_eq_false]))
             | (refine c_doesE (h1) ?_ ?_ ?_
                · ((try (conv=>rhs;simp (disch:=omega) only [go_sem, bytesD, List.length_map, beq_self_eq_true, bne_self_eq_false])); try rfl)
                · first|rfl|(conv=>lhs;simp only [go_sem, bytesD, List.length_map, beq_self_eq_true, bne_self_eq_false]))
             | (refine c_doesE (e2) ?_ ?_ ?_
                · ((try (conv=>rhs;simp (disch:=omega) only [go_sem, bytesD, List.length_map, beq_self_eq_true, bne_self_eq_false])); try rfl)
                · first|rfl|(conv=>lhs;simp only [go_sem, bytesD, List.length_map, beq_self_eq_true, bne_self_eq_false]))
             | (refine c_doesE (h3) ?_ ?_ ?_
                · ((try (conv=>rhs;simp (disch:=omega) only [go_sem, bytesD, List.length_map, beq_self_eq_true, bne_self_eq_false])); try rfl)
                · first|rfl|(conv=>lhs;simp only [go_sem, bytesD, List.length_map, beq_self_eq_true, bne_self_eq_false]))
             | (refine c_doesE (h4) ?_ ?_ ?_
                · ((try (conv=>rhs;simp (disch:=omega) only [go_sem, bytesD, List.length_map, beq_self_eq_true, bne_self_eq_false])); try rfl)
                · first|rfl|(conv=>lhs;simp only [go_sem, bytesD, List.length_map, beq_self_eq_true, bne_self_eq_false]))
             | (refine c_doesE (h6) ?_ ?_ ?_
                · ((try (conv=>rhs;simp (disch:=omega) only [go_sem, bytesD, List.length_map, beq_self_eq_true, bne_self_eq_false])); try rfl)
                · first|rfl|(conv=>lhs;simp only [go_sem, bytesD, List.length_map, beq_self_eq_true, bne_self_eq_false])))|exact Sub.refl _|omega)
      · refine does0 c_laws_FnEstimateFilter mixed (Nat.le_of_ble_eq_true rfl) ?_
        conv => arg 3; whnf
        repeat' (first
          | with_reducible refine acc_none ?_ | (conv in hold _=>simp (disch:=omega) only [go_sem, bytesD, List.length_map, beq_self_eq_true, bne_self_eq_false])|refine Stp.go ?_|(with_reducible first|refine it_pos rfl ?_|refine it_neg (by decide) ?_|refine st_nil rfl ?_|refine s_op ?_ ?_|exact trivial)|((with_reducible first|refine dw_reg0 ?_|refine dw_regB ?_);(conv=>arg 3;whnf))|(refine Spl.go (fun hq he=>?_) (fun hq he=>?_)<;>first|(exfalso;clear hq;omega)|((try first|(conv=>arg 8;simp only [hq])|(conv=>arg 4;simp only [hq]));clear hq))|((with_reducible first|refine c_split (fun hq=>?_) (fun hq=>?_)|refine q_split (fun hq=>?_) (fun hq=>?_))<;>(try first|(conv=>arg 8;simp only [hq])|(conv=>arg 4;simp only [hq])))|(with_reducible refine fin_0 ?_ (by first|rfl|(conv=>lhs;simp only [go_sem, bytesD, List.length_map, beq_self_eq_true, bne_self_eq_false])) ?_)
          | (with_reducible show evC _ _ _ _ _ _ _ _ _ _ _ _
             first
             | (refine c_doesE (hd) ?_ ?_ ?_
                · ((try (conv=>rhs;simp (disch:=omega) only [go_sem, bytesD, List.length_map, beq_self_eq_true, bne_self_eq_false])); try rfl)
                · first|rfl|(conv=>lhs;simp only [go_sem, bytesD, List.length_map, beq_self_eq_true, bne_self_eq_false]))
             | (refine c_doesE (h2) ?_ ?_ ?_
                · ((try (conv=>rhs;simp (disch:=omega) only [go_sem, bytesD, List.length_map, beq_self_eq_true, bne_self_eq_false])); try rfl)
                · first|rfl|(conv=>lhs;simp only [go_sem, bytesD, List.length_map, beq_self_eq_true, bne_self_eq_false]))
             | (refine c_doesE (h1) ?_ ?_ ?_
                · ((try (conv=>rhs;simp (disch:=omega) only [go_sem, bytesD, List.length_map, beq_self_eq_true, bne_self_eq_false])); try rfl)
                · first|rfl|(conv=>lhs;simp only [go_sem, bytesD, List.length_map, beq_self_eq_true, bne_self_eq_false]))
             | (refine c_doesE (e2) ?_ ?_ ?_
                · ((try (conv=>rhs;simp (disch:=omega) only [go_sem, bytesD, List.length_map, beq_self_eq_true, bne_self_eq_false])); try rfl)
                · first|rfl|(conv=>lhs;simp only [go_sem, bytesD, List.length_map, beq_self_eq_true, bne_self_eq_false]))
             | (refine c_doesE (h3) ?_ ?_ ?_
                · ((try (conv=>rhs;simp (disch:=omega) only [go_sem, bytesD, List.length_map, beq_self_eq_true, bne_self_eq_false])); try rfl)
                · first|rfl|(conv=>lhs;simp only [go_sem, bytesD, List.length_map, beq_self_eq_true, bne_self_eq_false]))
             | (refine c_doesE (h4) ?_ ?_ ?_
                · ((try (conv=>rhs;simp (disch:=omega) only [go_sem, bytesD, List.length_map, beq_self_eq_true, bne_self_eq_false])); try rfl)
                · first|rfl|(conv=>lhs;simp only [go_sem, bytesD, List.length_map, beq_self_eq_true, bne_self_eq_false]))
             | (refine c_doesE (h6) ?_ ?_ ?_
                · ((try (conv=>rhs;simp (disch:=omega) only [go_sem, bytesD, List.length_map, beq_self_eq_true, bne_self_eq_false])); try rfl)
                · first|rfl|(conv=>lhs;simp only [go_sem, bytesD, List.length_map, beq_self_eq_true, bne_self_eq_false])))|exact Sub.refl _|omega)
  · refine does0 c_laws_FnEstimateFilter mixed (Nat.le_of_ble_eq_true rfl) ?_
    conv => arg 3; whnf
    repeat' (first|with_reducible refine acc_none ?_ | (conv in hold _=>simp (disch:=omega) only [go_sem, bytesD, List.length_map, beq_self_eq_true, bne_self_eq_false])|refine Stp.go ?_|(with_reducible first|refine it_pos rfl ?_|refine it_neg (by decide) ?_|refine st_nil rfl ?_|refine s_op ?_ ?_|exact trivial)|((with_reducible first|refine dw_reg0 ?_|refine dw_regB ?_);(conv=>arg 3;whnf))|(refine Spl.go (fun hq he=>?_) (fun hq he=>?_)<;>first|(exfalso;clear hq;omega)|((try first|(conv=>arg 8;simp only [hq])|(conv=>arg 4;simp only [hq]));clear hq))|((with_reducible first|refine c_split (fun hq=>?_) (fun hq=>?_)|refine q_split (fun hq=>?_) (fun hq=>?_))<;>(try first|(conv=>arg 8;simp only [hq])|(conv=>arg 4;simp only [hq])))|(with_reducible refine fin_0 ?_ (by first|rfl|(conv=>lhs;simp only [go_sem, bytesD, List.length_map, beq_self_eq_true, bne_self_eq_false])) ?_)|exact Sub.refl _|omega)
theorem walk_FnEstimateFilter (a : Option Addr) (len cap : Nat) (zs : List Int) (w : World) (h : IsRow .u8 w a len cap zs) :
    Calls Try.prog 9 #[.slice a len cap] w fun e W' => e = .returned (.bool true) ∧ Below w.heap.size w W' := walk_of does_FnEstimateFilter a len cap zs w h
end Go.Proofs.Ytpfedjaedlfdfaa
