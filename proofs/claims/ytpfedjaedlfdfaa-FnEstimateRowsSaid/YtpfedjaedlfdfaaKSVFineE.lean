/-
  A plan with a width is one of its kind throughout, and its expressions are valid. No condition.
-/
import Derived.Test.YtpfedjaedlfdfaaJSDcVWidC
import Derived.Test.YtpfedjaedlfdfaaKSDca
import Derived.Test.YtpfedjaedlfdfaaKSVWidE
set_option maxHeartbeats 4000000
set_option maxRecDepth 100000
set_option linter.unusedVariables false
set_option linter.unusedSimpArgs false
namespace Go.Proofs.Ytpfedjaedlfdfaa
open Go.RowKit
/-- Every part has the fields of its kind, scans a table that is there, and has valid expressions. -/
inductive FineE (ws : List Int) : Pl → Prop
  | mk {p : Pl} (hf : fields p) (hs : p.k = 1 → 0 ≤ p.t ∧ p.t ≤ (ws.length : Int) - 1) (he : ∀ e, e ∈ p.es → ∃ w : Int, eOk e w 8)
      (hfil : p.k = 2 → ∀ x e, p.ks[0]? = some x → p.es[0]? = some e → x.k = 1 → eOk e (scanV ws x.t) 8) (hk : ∀ x, x ∈ p.ks → FineE ws x) : FineE ws p
theorem FineE.fields {ws : List Int} {p : Pl} (h : FineE ws p) : fields p := by cases h with | mk h _ _ _ _ => exact h
theorem FineE.scan {ws : List Int} {p : Pl} (h : FineE ws p) : p.k = 1 → 0 ≤ p.t ∧ p.t ≤ (ws.length : Int) - 1 := by cases h with | mk _ h _ _ _ => exact h
theorem FineE.expr {ws : List Int} {p : Pl} (h : FineE ws p) : ∀ e, e ∈ p.es → ∃ w : Int, eOk e w 8 := by cases h with | mk _ _ h _ _ => exact h
theorem FineE.fil {ws : List Int} {p : Pl} (h : FineE ws p) : p.k = 2 → ∀ x e, p.ks[0]? = some x → p.es[0]? = some e → x.k = 1 → eOk e (scanV ws x.t) 8 := by cases h with | mk _ _ _ h _ => exact h
theorem FineE.kid {ws : List Int} {p x : Pl} (h : FineE ws p) (hx : x ∈ p.ks) : FineE ws x := by cases h with | mk _ _ _ _ h => exact h x hx
theorem width_fineE {ws : List Int} (hw : wsOk ws) : ∀ (p : Pl), psz p ≤ 1048576 → ∀ d : Nat, d < 1000 → ∃ n : Int, (((0 ≤ n ∧ n ≤ 6) ∧ (n ≠ 0 → p.k = 1 → n = scanV ws p.t)) ∧ (n ≠ 0 → FineE ws p)) ∧ Does Try.prog 54 [] [pD p, intsD ws, I d] (I n) [] ∧ Does Try.prog 36 [] [pD p, intsD ws, I d] (I n) [] := by
  refine Pl.indA (fun p ih hs d hd => ?_)
  rw [psz_eq] at hs
  have hce := eszL_len p.es
  by_cases hf : fields p
  · by_cases hk : p.k = 1
    · refine ⟨_, ⟨⟨scan_range hw p.t, fun _ _ => rfl⟩, fun h => .mk hf (fun _ => ?_) (fun e he => ?_) (fun h2 => by omega) (fun x hx => ?_)⟩, planWidth_scan p ws hw d hf hk, widthWithin_scan p ws hw d hf hk⟩
      · apply Decidable.byContradiction
        intro hn
        exact h (if_neg hn)
      · have h0 : p.es.length = 0 := by unfold Go.Proofs.Ytpfedjaedlfdfaa.fields at hf; omega
        have := List.length_pos_of_mem he
        omega
      · have h0 : p.ks.length = 0 := by unfold Go.Proofs.Ytpfedjaedlfdfaa.fields at hf; omega
        have := List.length_pos_of_mem hx
        omega
    · have hks : 1 ≤ p.ks.length := by unfold Go.Proofs.Ytpfedjaedlfdfaa.fields at hf; omega
      by_cases hd0 : d = 0
      · subst hd0
        refine ⟨0, ⟨⟨by decide, fun h => absurd rfl h⟩, fun h => absurd rfl h⟩, planWidth_0 p ws hf (by omega), ?_⟩
        by_cases hfi : fieldsI p
        · have h := widthWithin_main p ws 0 (by decide) hfi hk (by omega) (by omega) (List.replicate p.ks.length 0) (by rw [List.length_replicate]) (fun j x hj => by have := List.eq_of_mem_replicate (List.mem_of_getElem? hj); omega) (fun i x n hx hn => by
            obtain rfl : n = 0 := List.eq_of_mem_replicate (List.mem_of_getElem? hn)
            exact widthWithin_neg x ws)
          rw [resV_z ⟨0, by rw [List.getElem?_replicate, if_pos (by omega)]⟩] at h
          exact h
        · exact widthWithin_no p ws 0 hfi
      · have hc1 : ((d - 1 : Nat) : Int) = (d : Int) - 1 := by omega
        obtain ⟨ns, hl, hp⟩ := list_of (P := fun (x : Pl) (n : Int) => (((0 ≤ n ∧ n ≤ 6) ∧ (n ≠ 0 → x.k = 1 → n = scanV ws x.t)) ∧ (n ≠ 0 → FineE ws x)) ∧ Does Try.prog 54 [] [pD x, intsD ws, I ((d : Int) - 1)] (I n) [] ∧ Does Try.prog 36 [] [pD x, intsD ws, I ((d : Int) - 1)] (I n) []) p.ks (fun x hx => by
          have := ih x hx (by have := pszL_mem hx; omega) (d - 1) (by omega)
          rw [hc1] at this
          exact this)
        have hn : ∀ (j : Nat) (x : Int), ns[j]? = some x → 0 ≤ x ∧ x ≤ 6 := fun j x hj => by
          obtain ⟨y, hy⟩ : ∃ y, p.ks[j]? = some y := ⟨_, List.getElem?_eq_getElem (by have := (List.getElem?_eq_some_iff.1 hj).1; omega)⟩
          exact (hp j y x hy hj).1.1.1
        refine ⟨resV p ns, ⟨⟨resV_range p ns hn, fun _ h => absurd h hk⟩, fun hne => .mk hf (fun h => absurd h hk) (fun e he => ?_) (fun h2 x e hx he hx1 => ?_) (fun x hx => ?_)⟩, planWidth_main p ws d hd (by omega) hf hk (by omega) (by omega) ns hl hn (fun i x n hx hn => (hp i x n hx hn).2.1), ?_⟩
        · have hfit : fitsV p ns := Classical.byContradiction fun hv => hne (resV_f (fun h => hv h.2))
          have hfe := hf
          unfold Go.Proofs.Ytpfedjaedlfdfaa.fields at hfe
          have hpos := List.length_pos_of_mem he
          unfold fitsV at hfit
          rw [if_neg (by omega), if_neg (by omega)] at hfit
          obtain ⟨j, hj⟩ := List.mem_iff_getElem?.1 he
          exact ⟨_, (hfit j e hj).2⟩
        · have hfit : fitsV p ns := Classical.byContradiction fun hv => hne (resV_f (fun h => hv h.2))
          have hfe := hf
          unfold Go.Proofs.Ytpfedjaedlfdfaa.fields at hfe
          unfold fitsV at hfit
          rw [if_neg (by omega), if_neg (by omega)] at hfit
          obtain ⟨n0, hn0⟩ : ∃ n, ns[0]? = some n := ⟨_, List.getElem?_eq_getElem (by omega)⟩
          have h3 := (hfit 0 e he).2
          rw [one_sum (by omega) hn0, (hp 0 x n0 hx hn0).1.1.2 (fun h0 => hne (resV_z ⟨0, by rw [hn0, h0]⟩)) hx1] at h3
          exact h3
        · have hz : ¬ zeroIn ns := fun hz => hne (resV_z hz)
          obtain ⟨j, hj⟩ := List.mem_iff_getElem?.1 hx
          obtain ⟨n, hnj⟩ : ∃ n, ns[j]? = some n := ⟨_, List.getElem?_eq_getElem (by have := (List.getElem?_eq_some_iff.1 hj).1; omega)⟩
          exact (hp j x n hj hnj).1.2 (fun h0 => hz ⟨j, by rw [hnj, h0]⟩)
        · by_cases hfi : fieldsI p
          · exact widthWithin_main p ws d hd hfi hk (by omega) (by omega) ns hl hn (fun i x n hx hn => (hp i x n hx hn).2.2)
          · rw [resV_f (fun h => hfi h.1)]
            exact widthWithin_no p ws d hfi
  · exact ⟨0, ⟨⟨by decide, fun h => absurd rfl h⟩, fun h => absurd rfl h⟩, planWidth_no p ws d hf, widthWithin_no p ws d (fun h => hf h.1)⟩
theorem PlanWidth_fineE (p : Pl) (hs : psz p ≤ 1048576) (ws : List Int) (hl : ws.length ≤ 1048576) : ∃ n : Int, ((0 ≤ n ∧ n ≤ 6) ∧ (n ≠ 0 → wsOk ws ∧ FineE ws p)) ∧ Does Try.prog 33 [] [pD p, intsD ws] (I n) [] ∧ Does Try.prog 13 [] [pD p, intsD ws] (I n) [] := by
  have h1 := validWidths_spec ws hl
  have h2 := validWidths_impl ws hl
  by_cases hw : wsOk ws
  · rw [decide_eq_true hw] at h1 h2
    obtain ⟨n, ⟨⟨hn, _⟩, hfi⟩, hA, hB⟩ := width_fineE hw p hs 8 (by decide)
    refine ⟨n, ⟨hn, fun h => ⟨hw, hfi h⟩⟩, ?_, ?_⟩
    · refine does0 c_spec_widthOf mixed (Nat.le_of_ble_eq_true rfl) ?_
      conv => arg 3; whnf
      repeat' (first
        | with_reducible refine acc_none ?_ | (conv in hold _=>simp (disch:=omega) only [go_sem])|refine Stp.go ?_|(with_reducible first|refine it_pos rfl ?_|refine it_neg (by decide) ?_|refine st_nil rfl ?_|refine s_op ?_ ?_|exact trivial)|((with_reducible first|refine dw_reg0 ?_|refine dw_regB ?_);(conv=>arg 3;whnf))|(refine Spl.go (fun hq he=>?_) (fun hq he=>?_)<;>first|(exfalso;clear hq;omega)|((try first|(conv=>arg 8;simp only [hq])|(conv=>arg 4;simp only [hq]));clear hq))|((with_reducible first|refine c_split (fun hq=>?_) (fun hq=>?_)|refine q_split (fun hq=>?_) (fun hq=>?_))<;>(try first|(conv=>arg 8;simp only [hq])|(conv=>arg 4;simp only [hq])))|(with_reducible refine fin_0 ?_ (by first|rfl|(conv=>lhs;simp only [go_sem])) ?_)
        | (with_reducible show evC _ _ _ _ _ _ _ _ _ _ _ _
           first
           | (refine c_doesE (h1) ?_ ?_ ?_
              · ((try (conv=>rhs;simp (disch:=omega) only [go_sem])); try rfl)
              · first|rfl|(conv=>lhs;simp only [go_sem]))
           | (refine c_doesE (hA) ?_ ?_ ?_
              · ((try (conv=>rhs;simp (disch:=omega) only [go_sem])); try rfl)
              · first|rfl|(conv=>lhs;simp only [go_sem])))|exact Sub.refl _|omega)
    · refine does0 c_impl_PlanWidth mixed (Nat.le_of_ble_eq_true rfl) ?_
      conv => arg 3; whnf
      repeat' (first
        | with_reducible refine acc_none ?_ | (conv in hold _=>simp (disch:=omega) only [go_sem])|refine Stp.go ?_|(with_reducible first|refine it_pos rfl ?_|refine it_neg (by decide) ?_|refine st_nil rfl ?_|refine s_op ?_ ?_|exact trivial)|((with_reducible first|refine dw_reg0 ?_|refine dw_regB ?_);(conv=>arg 3;whnf))|(refine Spl.go (fun hq he=>?_) (fun hq he=>?_)<;>first|(exfalso;clear hq;omega)|((try first|(conv=>arg 8;simp only [hq])|(conv=>arg 4;simp only [hq]));clear hq))|((with_reducible first|refine c_split (fun hq=>?_) (fun hq=>?_)|refine q_split (fun hq=>?_) (fun hq=>?_))<;>(try first|(conv=>arg 8;simp only [hq])|(conv=>arg 4;simp only [hq])))|(with_reducible refine fin_0 ?_ (by first|rfl|(conv=>lhs;simp only [go_sem])) ?_)
        | (with_reducible show evC _ _ _ _ _ _ _ _ _ _ _ _
           first
           | (refine c_doesE (h2) ?_ ?_ ?_
              · ((try (conv=>rhs;simp (disch:=omega) only [go_sem])); try rfl)
              · first|rfl|(conv=>lhs;simp only [go_sem]))
           | (refine c_doesE (hB) ?_ ?_ ?_
              · ((try (conv=>rhs;simp (disch:=omega) only [go_sem])); try rfl)
              · first|rfl|(conv=>lhs;simp only [go_sem])))|exact Sub.refl _|omega)
  · rw [decide_eq_false hw] at h1 h2
    refine ⟨0, ⟨by decide, fun h => absurd rfl h⟩, ?_, ?_⟩
    · refine does0 c_spec_widthOf mixed (Nat.le_of_ble_eq_true rfl) ?_
      conv => arg 3; whnf
      repeat' (first
        | with_reducible refine acc_none ?_ | (conv in hold _=>simp (disch:=omega) only [go_sem])|refine Stp.go ?_|(with_reducible first|refine it_pos rfl ?_|refine it_neg (by decide) ?_|refine st_nil rfl ?_|refine s_op ?_ ?_|exact trivial)|((with_reducible first|refine dw_reg0 ?_|refine dw_regB ?_);(conv=>arg 3;whnf))|(refine Spl.go (fun hq he=>?_) (fun hq he=>?_)<;>first|(exfalso;clear hq;omega)|((try first|(conv=>arg 8;simp only [hq])|(conv=>arg 4;simp only [hq]));clear hq))|((with_reducible first|refine c_split (fun hq=>?_) (fun hq=>?_)|refine q_split (fun hq=>?_) (fun hq=>?_))<;>(try first|(conv=>arg 8;simp only [hq])|(conv=>arg 4;simp only [hq])))|(with_reducible refine fin_0 ?_ (by first|rfl|(conv=>lhs;simp only [go_sem])) ?_)
        | (with_reducible show evC _ _ _ _ _ _ _ _ _ _ _ _
           first
           | (refine c_doesE (h1) ?_ ?_ ?_
              · ((try (conv=>rhs;simp (disch:=omega) only [go_sem])); try rfl)
              · first|rfl|(conv=>lhs;simp only [go_sem])))|exact Sub.refl _|omega)
    · refine does0 c_impl_PlanWidth mixed (Nat.le_of_ble_eq_true rfl) ?_
      conv => arg 3; whnf
      repeat' (first
        | with_reducible refine acc_none ?_ | (conv in hold _=>simp (disch:=omega) only [go_sem])|refine Stp.go ?_|(with_reducible first|refine it_pos rfl ?_|refine it_neg (by decide) ?_|refine st_nil rfl ?_|refine s_op ?_ ?_|exact trivial)|((with_reducible first|refine dw_reg0 ?_|refine dw_regB ?_);(conv=>arg 3;whnf))|(refine Spl.go (fun hq he=>?_) (fun hq he=>?_)<;>first|(exfalso;clear hq;omega)|((try first|(conv=>arg 8;simp only [hq])|(conv=>arg 4;simp only [hq]));clear hq))|((with_reducible first|refine c_split (fun hq=>?_) (fun hq=>?_)|refine q_split (fun hq=>?_) (fun hq=>?_))<;>(try first|(conv=>arg 8;simp only [hq])|(conv=>arg 4;simp only [hq])))|(with_reducible refine fin_0 ?_ (by first|rfl|(conv=>lhs;simp only [go_sem])) ?_)
        | (with_reducible show evC _ _ _ _ _ _ _ _ _ _ _ _
           first
           | (refine c_doesE (h2) ?_ ?_ ?_
              · ((try (conv=>rhs;simp (disch:=omega) only [go_sem])); try rfl)
              · first|rfl|(conv=>lhs;simp only [go_sem])))|exact Sub.refl _|omega)
end Go.Proofs.Ytpfedjaedlfdfaa
