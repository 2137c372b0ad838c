/-
  The width of a plan as a function; what a plan with a width is made of. No condition.
-/
import Derived.Test.YtpfedjaedlfdfaaJSDcVWidC
import Derived.Test.YtpfedjaedlfdfaaKSDca
import Derived.Test.YtpfedjaedlfdfaaJSVDrawQ
import Derived.Test.YtpfedjaedlfdfaaKSVRbJ
set_option maxHeartbeats 4000000
set_option maxRecDepth 100000
set_option linter.unusedVariables false
set_option linter.unusedSimpArgs false
namespace Go.Proofs.Ytpfedjaedlfdfaa
open Go.RowKit
mutual
/-- The width of a plan with at most so many levels of kids; 0 if it has none. -/
noncomputable def wdV (ws : List Int) : Pl → Nat → Int
  | .mk k t es cs ks, d => if fields (.mk k t es cs ks) then (if k = 1 then scanV ws t else if d = 0 then 0 else resV (.mk k t es cs ks) (wdL ws ks (d - 1))) else 0
noncomputable def wdL (ws : List Int) : List Pl → Nat → List Int
  | [], _ => []
  | x :: l, d => wdV ws x d :: wdL ws l d
end
theorem wdL_map (ws : List Int) (d : Nat) : ∀ l : List Pl, wdL ws l d = l.map (fun x => wdV ws x d)
  | [] => by rw [wdL]; rfl
  | x :: l => by rw [wdL, wdL_map ws d l]; rfl
theorem wd_eq (ws : List Int) (p : Pl) (d : Nat) : wdV ws p d = if fields p then (if p.k = 1 then scanV ws p.t else if d = 0 then 0 else resV p (p.ks.map (fun x => wdV ws x (d - 1)))) else 0 := by
  cases p with
  | mk k t es cs ks => rw [wdV, wdL_map]; rfl
theorem wd_at {ws : List Int} {l : List Pl} {d i : Nat} {x : Pl} {n : Int} (hx : l[i]? = some x) (hn : (l.map (fun x => wdV ws x d))[i]? = some n) : n = wdV ws x d := by
  rw [List.getElem?_map, hx] at hn
  simpa using hn.symm
theorem width_fn {ws : List Int} (hw : wsOk ws) : ∀ (p : Pl), psz p ≤ 1048576 → ∀ d : Nat, d < 1000 → (0 ≤ wdV ws p d ∧ wdV ws p d ≤ 6) ∧ Does Try.prog 54 [] [pD p, intsD ws, I d] (I (wdV ws p d)) [] ∧ Does Try.prog 36 [] [pD p, intsD ws, I d] (I (wdV ws p d)) [] := by
  refine Pl.indA (fun p ih hs d hd => ?_)
  rw [psz_eq] at hs
  have hce := eszL_len p.es
  rw [wd_eq]
  by_cases hf : fields p
  · rw [if_pos hf]
    by_cases hk : p.k = 1
    · rw [if_pos hk]
      exact ⟨scan_range hw p.t, planWidth_scan p ws hw d hf hk, widthWithin_scan p ws hw d hf hk⟩
    · rw [if_neg hk]
      have hks : 1 ≤ p.ks.length := by unfold fields at hf; omega
      by_cases hd0 : d = 0
      · subst hd0
        rw [if_pos rfl]
        refine ⟨by decide, planWidth_0 p ws hf (by omega), ?_⟩
        by_cases hfi : fieldsI p
        · have h := widthWithin_main p ws 0 (by decide) hfi hk (by omega) (by omega) (List.replicate p.ks.length 0) (by rw [List.length_replicate]) (fun j x hj => by have := List.eq_of_mem_replicate (List.mem_of_getElem? hj); omega) (fun i x n hx hn => by
            obtain rfl : n = 0 := List.eq_of_mem_replicate (List.mem_of_getElem? hn)
            exact widthWithin_neg x ws)
          rw [resV_z ⟨0, by rw [List.getElem?_replicate, if_pos (by omega)]⟩] at h
          exact h
        · exact widthWithin_no p ws 0 hfi
      · rw [if_neg hd0]
        have hc1 : ((d - 1 : Nat) : Int) = (d : Int) - 1 := by omega
        have hp : ∀ (x : Pl), x ∈ p.ks → (0 ≤ wdV ws x (d - 1) ∧ wdV ws x (d - 1) ≤ 6) ∧ Does Try.prog 54 [] [pD x, intsD ws, I ((d : Int) - 1)] (I (wdV ws x (d - 1))) [] ∧ Does Try.prog 36 [] [pD x, intsD ws, I ((d : Int) - 1)] (I (wdV ws x (d - 1))) [] := fun x hx => by
          have := ih x hx (by have := pszL_mem hx; omega) (d - 1) (by omega)
          rw [hc1] at this
          exact this
        have hl : (p.ks.map (fun x => wdV ws x (d - 1))).length = p.ks.length := List.length_map ..
        have hn : ∀ (j : Nat) (x : Int), (p.ks.map (fun x => wdV ws x (d - 1)))[j]? = some x → 0 ≤ x ∧ x ≤ 6 := fun j x hj => by
          obtain ⟨y, hy, rfl⟩ := List.mem_map.1 (List.mem_of_getElem? hj)
          exact (hp y hy).1
        refine ⟨resV_range p _ hn, planWidth_main p ws d hd (by omega) hf hk (by omega) (by omega) _ hl hn (fun i x n hx hn => ?_), ?_⟩
        · obtain rfl := wd_at hx hn
          exact (hp x (List.mem_of_getElem? hx)).2.1
        · by_cases hfi : fieldsI p
          · exact widthWithin_main p ws d hd hfi hk (by omega) (by omega) _ hl hn (fun i x n hx hn => by
              obtain rfl := wd_at hx hn
              exact (hp x (List.mem_of_getElem? hx)).2.2)
          · rw [resV_f (fun h => hfi h.1)]
            exact widthWithin_no p ws d hfi
  · rw [if_neg hf]
    exact ⟨by decide, planWidth_no p ws d hf, widthWithin_no p ws d (fun h => hf h.1)⟩
/-- The width of a plan for some tables. -/
noncomputable def PV (ws : List Int) (p : Pl) : Int := if wsOk ws then wdV ws p 8 else 0
theorem PV_t {ws : List Int} (h : wsOk ws) (p : Pl) : PV ws p = wdV ws p 8 := if_pos h
theorem PV_ok {ws : List Int} {p : Pl} (h : PV ws p ≠ 0) : wsOk ws := Classical.byContradiction fun hn => h (if_neg hn)
theorem PlanWidth_fn (p : Pl) (hs : psz p ≤ 1048576) (ws : List Int) (hl : ws.length ≤ 1048576) : (0 ≤ PV ws p ∧ PV ws p ≤ 6) ∧ Does Try.prog 33 [] [pD p, intsD ws] (I (PV ws p)) [] ∧ Does Try.prog 13 [] [pD p, intsD ws] (I (PV ws p)) [] := by
  have h1 := validWidths_spec ws hl
  have h2 := validWidths_impl ws hl
  by_cases hw : wsOk ws
  · rw [decide_eq_true hw] at h1 h2
    rw [PV_t hw]
    obtain ⟨hn, hA, hB⟩ := width_fn hw p hs 8 (by decide)
    refine ⟨hn, ?_, ?_⟩
    · refine does0 c_spec_widthOf mixed (Nat.le_of_ble_eq_true rfl) ?_
      conv => arg 3; whnf
      repeat' (first
        | with_reducible refine acc_none ?_ | (conv in hold _=>simp (disch:=omega) only [go_sem])|refine Stp.go ?_|(with_reducible first|refine it_pos rfl ?_|refine it_neg (by decide) ?_|refine st_nil rfl ?_|refine s_op ?_ ?_|exact trivial)|((with_reducible first|refine dw_reg0 ?_|refine dw_regB ?_);(conv=>arg 3;whnf))|(refine Spl.go (fun hq he=>?_) (fun hq he=>?_)<;>first|(exfalso;clear hq;omega)|((try first|(conv=>arg 8;simp only [hq])|(conv=>arg 4;simp only [hq]));clear hq))|((with_reducible first|refine c_split (fun hq=>?_) (fun hq=>?_)|refine q_split (fun hq=>?_) (fun hq=>?_))<;>(try first|(conv=>arg 8;simp only [hq])|(conv=>arg 4;simp only [hq])))|(with_reducible refine fin_0 ?_ (by first|rfl|(conv=>lhs;simp only [go_sem])) ?_)
        | (with_reducible show evC _ _ _ _ _ _ _ _ _ _ _ _
           first
           | (refine c_doesE (h1) ?_ ?_ ?_
              · ((try (conv=>rhs;simp (disch:=omega) only [go_sem])); try rfl)
              · first|rfl|(conv=>lhs;simp only [go_sem]))
           | (refine c_doesE (hA) ?_ ?_ ?_
              · ((try (conv=>rhs;simp (disch:=omega) only [go_sem])); try rfl)
              · first|rfl|(conv=>lhs;simp only [go_sem])))|exact Sub.refl _|omega)
    · refine does0 c_impl_PlanWidth mixed (Nat.le_of_ble_eq_true rfl) ?_
      conv => arg 3; whnf
      repeat' (first
        | with_reducible refine acc_none ?_ | (conv in hold _=>simp (disch:=omega) only [go_sem])|refine Stp.go ?_|(with_reducible first|refine it_pos rfl ?_|refine it_neg (by decide) ?_|refine st_nil rfl ?_|refine s_op ?_ ?_|exact trivial)|((with_reducible first|refine dw_reg0 ?_|refine dw_regB ?_);(conv=>arg 3;whnf))|(refine Spl.go (fun hq he=>?_) (fun hq he=>?_)<;>first|(exfalso;clear hq;omega)|((try first|(conv=>arg 8;simp only [hq])|(conv=>arg 4;simp only [hq]));clear hq))|((with_reducible first|refine c_split (fun hq=>?_) (fun hq=>?_)|refine q_split (fun hq=>?_) (fun hq=>?_))<;>(try first|(conv=>arg 8;simp only [hq])|(conv=>arg 4;simp only [hq])))|(with_reducible refine fin_0 ?_ (by first|rfl|(conv=>lhs;simp only [go_sem])) ?_)
        | (with_reducible show evC _ _ _ _ _ _ _ _ _ _ _ _
           first
           | (refine c_doesE (h2) ?_ ?_ ?_
              · ((try (conv=>rhs;simp (disch:=omega) only [go_sem])); try rfl)
              · first|rfl|(conv=>lhs;simp only [go_sem]))
           | (refine c_doesE (hB) ?_ ?_ ?_
              · ((try (conv=>rhs;simp (disch:=omega) only [go_sem])); try rfl)
              · first|rfl|(conv=>lhs;simp only [go_sem])))|exact Sub.refl _|omega)
  · rw [decide_eq_false hw] at h1 h2
    rw [show PV ws p = 0 from if_neg hw]
    refine ⟨by decide, ?_, ?_⟩
    · refine does0 c_spec_widthOf mixed (Nat.le_of_ble_eq_true rfl) ?_
      conv => arg 3; whnf
      repeat' (first
        | with_reducible refine acc_none ?_ | (conv in hold _=>simp (disch:=omega) only [go_sem])|refine Stp.go ?_|(with_reducible first|refine it_pos rfl ?_|refine it_neg (by decide) ?_|refine st_nil rfl ?_|refine s_op ?_ ?_|exact trivial)|((with_reducible first|refine dw_reg0 ?_|refine dw_regB ?_);(conv=>arg 3;whnf))|(refine Spl.go (fun hq he=>?_) (fun hq he=>?_)<;>first|(exfalso;clear hq;omega)|((try first|(conv=>arg 8;simp only [hq])|(conv=>arg 4;simp only [hq]));clear hq))|((with_reducible first|refine c_split (fun hq=>?_) (fun hq=>?_)|refine q_split (fun hq=>?_) (fun hq=>?_))<;>(try first|(conv=>arg 8;simp only [hq])|(conv=>arg 4;simp only [hq])))|(with_reducible refine fin_0 ?_ (by first|rfl|(conv=>lhs;simp only [go_sem])) ?_)
        | (with_reducible show evC _ _ _ _ _ _ _ _ _ _ _ _
           first
           | (refine c_doesE (h1) ?_ ?_ ?_
              · ((try (conv=>rhs;simp (disch:=omega) only [go_sem])); try rfl)
              · first|rfl|(conv=>lhs;simp only [go_sem])))|exact Sub.refl _|omega)
    · refine does0 c_impl_PlanWidth mixed (Nat.le_of_ble_eq_true rfl) ?_
      conv => arg 3; whnf
      repeat' (first
        | with_reducible refine acc_none ?_ | (conv in hold _=>simp (disch:=omega) only [go_sem])|refine Stp.go ?_|(with_reducible first|refine it_pos rfl ?_|refine it_neg (by decide) ?_|refine st_nil rfl ?_|refine s_op ?_ ?_|exact trivial)|((with_reducible first|refine dw_reg0 ?_|refine dw_regB ?_);(conv=>arg 3;whnf))|(refine Spl.go (fun hq he=>?_) (fun hq he=>?_)<;>first|(exfalso;clear hq;omega)|((try first|(conv=>arg 8;simp only [hq])|(conv=>arg 4;simp only [hq]));clear hq))|((with_reducible first|refine c_split (fun hq=>?_) (fun hq=>?_)|refine q_split (fun hq=>?_) (fun hq=>?_))<;>(try first|(conv=>arg 8;simp only [hq])|(conv=>arg 4;simp only [hq])))|(with_reducible refine fin_0 ?_ (by first|rfl|(conv=>lhs;simp only [go_sem])) ?_)
        | (with_reducible show evC _ _ _ _ _ _ _ _ _ _ _ _
           first
           | (refine c_doesE (h2) ?_ ?_ ?_
              · ((try (conv=>rhs;simp (disch:=omega) only [go_sem])); try rfl)
              · first|rfl|(conv=>lhs;simp only [go_sem])))|exact Sub.refl _|omega)
/-! What follows from a width. -/
theorem wd_fields {ws : List Int} {p : Pl} {d : Nat} (h : wdV ws p d ≠ 0) : fields p := Classical.byContradiction fun hf => h (by rw [wd_eq, if_neg hf])
theorem wd_scan {ws : List Int} {p : Pl} {d : Nat} (h : wdV ws p d ≠ 0) (hk : p.k = 1) : wdV ws p d = scanV ws p.t ∧ 0 ≤ p.t ∧ p.t ≤ (ws.length : Int) - 1 := by
  have hf := wd_fields h
  rw [wd_eq, if_pos hf, if_pos hk] at h ⊢
  exact ⟨rfl, Decidable.byContradiction fun hn => h (if_neg hn)⟩
theorem wd_res {ws : List Int} {p : Pl} {d : Nat} (h : wdV ws p d ≠ 0) (hk : ¬ p.k = 1) : d ≠ 0 ∧ wdV ws p d = resV p (p.ks.map (fun x => wdV ws x (d - 1))) := by
  have hf := wd_fields h
  rw [wd_eq, if_pos hf, if_neg hk] at h ⊢
  by_cases hd : d = 0
  · rw [if_pos hd] at h
    exact absurd rfl h
  · rw [if_neg hd]
    exact ⟨hd, rfl⟩
theorem wd_fit {ws : List Int} {p : Pl} {d : Nat} (h : wdV ws p d ≠ 0) (hk : ¬ p.k = 1) : (fieldsI p ∧ fitsV p (p.ks.map (fun x => wdV ws x (d - 1)))) ∧ wdV ws p d = fromV p (p.ks.map (fun x => wdV ws x (d - 1))) ∧ ∀ x, x ∈ p.ks → wdV ws x (d - 1) ≠ 0 := by
  obtain ⟨hd, hr⟩ := wd_res h hk
  rw [hr] at h
  have hz : ¬ zeroIn (p.ks.map (fun x => wdV ws x (d - 1))) := fun hz => h (resV_z hz)
  have hv : fieldsI p ∧ fitsV p (p.ks.map (fun x => wdV ws x (d - 1))) := Classical.byContradiction fun hv => h (resV_f hv)
  refine ⟨hv, by rw [hr, resV_t hz hv.1 hv.2], fun x hx h0 => hz ?_⟩
  obtain ⟨j, hj⟩ := List.mem_iff_getElem?.1 hx
  exact ⟨j, by rw [List.getElem?_map, hj, Option.map_some, h0]⟩
theorem wd_mono {ws : List Int} : ∀ (p : Pl) (d d' : Nat), d ≤ d' → wdV ws p d ≠ 0 → wdV ws p d' = wdV ws p d := by
  refine Pl.indA (fun p ih d d' hd h => ?_)
  by_cases hk : p.k = 1
  · rw [wd_eq, wd_eq ws p d, if_pos hk, if_pos hk]
  · obtain ⟨h0, hr⟩ := wd_res h hk
    have hf := wd_fields h
    have hkid := (wd_fit h hk).2.2
    rw [hr, wd_eq, if_pos hf, if_neg hk, if_neg (by omega)]
    congr 1
    exact List.map_congr_left (fun x hx => ih x hx (d - 1) (d' - 1) (by omega) (hkid x hx))
theorem wd_kid {ws : List Int} {p x : Pl} {d : Nat} (h : wdV ws p d ≠ 0) (hx : x ∈ p.ks) : wdV ws x d = wdV ws x (d - 1) ∧ wdV ws x d ≠ 0 := by
  have hk : ¬ p.k = 1 := fun hk => by
    have hf := wd_fields h
    unfold fields at hf
    have := List.length_pos_of_mem hx
    omega
  have h1 := (wd_fit h hk).2.2 x hx
  have h2 := wd_mono x (d - 1) d (by omega) h1
  exact ⟨h2, by rw [h2]; exact h1⟩
theorem PV_kid {ws : List Int} {p x : Pl} (h : PV ws p ≠ 0) (hx : x ∈ p.ks) : PV ws x ≠ 0 := by
  have hw := PV_ok h
  rw [PV_t hw] at h ⊢
  exact (wd_kid h hx).2
theorem wd_fine {ws : List Int} : ∀ (p : Pl) (d : Nat), wdV ws p d ≠ 0 → FineE ws p := by
  refine Pl.indA (fun p ih d h => ?_)
  have hf := wd_fields h
  by_cases hk : p.k = 1
  · refine .mk hf (fun _ => (wd_scan h hk).2) (fun e he => ?_) (fun h2 => by omega) (fun x hx => ?_)
    · have h0 : p.es.length = 0 := by unfold fields at hf; omega
      have := List.length_pos_of_mem he
      omega
    · have h0 : p.ks.length = 0 := by unfold fields at hf; omega
      have := List.length_pos_of_mem hx
      omega
  · obtain ⟨⟨_, hfit⟩, _, hkid⟩ := wd_fit h hk
    have hfe := hf
    unfold fields at hfe
    refine .mk hf (fun h => absurd h hk) (fun e he => ?_) (fun h2 x e hx he hx1 => ?_) (fun x hx => ih x hx (d - 1) (hkid x hx))
    · have hpos := List.length_pos_of_mem he
      unfold fitsV at hfit
      rw [if_neg (by omega), if_neg (by omega)] at hfit
      obtain ⟨j, hj⟩ := List.mem_iff_getElem?.1 he
      exact ⟨_, (hfit j e hj).2⟩
    · unfold fitsV at hfit
      rw [if_neg (by omega), if_neg (by omega)] at hfit
      have hn0 : (p.ks.map (fun x => wdV ws x (d - 1)))[0]? = some (wdV ws x (d - 1)) := by rw [List.getElem?_map, hx]; rfl
      have h3 := (hfit 0 e he).2
      rw [one_sum (by rw [List.length_map]; omega) hn0, (wd_scan (hkid x (List.mem_of_getElem? hx)) hx1).1] at h3
      exact h3
theorem PV_fine {ws : List Int} {p : Pl} (h : PV ws p ≠ 0) : FineE ws p := by
  have hw := PV_ok h
  rw [PV_t hw] at h
  exact wd_fine p 8 h
end Go.Proofs.Ytpfedjaedlfdfaa
set_option maxHeartbeats 4000000
set_option maxRecDepth 100000
set_option linter.unusedVariables false
set_option linter.unusedSimpArgs false
namespace Go.Proofs.Ytpfedjaedlfdfaa
open Go.RowKit
/-- The bound of a part, out of those of its kids. -/
def rbK (cnt : List Int) (k t : Int) (c : Nat) (l : List Int) : Int :=
  if k = 1 then cnt.getD t.toNat 0 else if k = 4 then min (l.getD 0 0 * l.getD 1 0) M else if k = 5 then min (l.getD 0 0 * max (l.getD 1 0) 1) M
  else if k = 6 then min (l.getD 0 0 + l.getD 1 0) M else if k = 8 ∧ c = 0 then min (l.getD 0 0) 1 else l.getD 0 0
mutual
def rb (cnt : List Int) : Pl → Int
  | .mk k t _ cs ks => rbK cnt k t cs.length (rbL cnt ks)
def rbL (cnt : List Int) : List Pl → List Int
  | [] => []
  | p :: l => rb cnt p :: rbL cnt l
end
theorem rbL_map (cnt : List Int) : ∀ l : List Pl, rbL cnt l = l.map (rb cnt)
  | [] => rfl
  | p :: l => by rw [rbL, rbL_map cnt l]; rfl
theorem rb_eq (cnt : List Int) (p : Pl) : rb cnt p = rbK cnt p.k p.t p.cs.length (p.ks.map (rb cnt)) := by
  cases p with
  | mk k t es cs ks => rw [rb, rbL_map]; rfl
def cntOk (cnt : List Int) : Prop := ∀ (j : Nat) (x : Int), cnt[j]? = some x → 0 ≤ x ∧ x ≤ 400
noncomputable instance cntDec (cnt : List Int) : Decidable (cntOk cnt) := Classical.propDecidable _
theorem rbK_mono {cnt cnt' : List Int} (hcc : ∀ j, cnt.getD j 0 ≤ cnt'.getD j 0) (k t : Int) (c : Nat) {l l' : List Int} (hl : ∀ j, 0 ≤ l.getD j 0 ∧ l.getD j 0 ≤ l'.getD j 0) : rbK cnt k t c l ≤ rbK cnt' k t c l' := by
  have h0 := hl 0
  have h1 := hl 1
  have h2 := hcc t.toNat
  have h3 : l.getD 0 0 * l.getD 1 0 ≤ l'.getD 0 0 * l'.getD 1 0 := Int.mul_le_mul h0.2 h1.2 h1.1 (by omega)
  have h4 : l.getD 0 0 * max (l.getD 1 0) 1 ≤ l'.getD 0 0 * max (l'.getD 1 0) 1 := Int.mul_le_mul h0.2 (by omega) (by omega) (by omega)
  unfold rbK M
  generalize l.getD 0 0 * l.getD 1 0 = a at *
  generalize l'.getD 0 0 * l'.getD 1 0 = a' at *
  generalize l.getD 0 0 * max (l.getD 1 0) 1 = b at *
  generalize l'.getD 0 0 * max (l'.getD 1 0) 1 = b' at *
  generalize l.getD 0 0 = c at *
  generalize l'.getD 0 0 = c' at *
  generalize l.getD 1 0 = d at *
  generalize l'.getD 1 0 = d' at *
  generalize cnt.getD t.toNat 0 = e at *
  generalize cnt'.getD t.toNat 0 = e' at *
  repeat' split
  all_goals omega
theorem getD_kid (f : Pl → Int) (l : List Pl) (j : Nat) : (l.map f).getD j 0 = match l[j]? with | none => 0 | some x => f x := by
  rw [List.getD_eq_getElem?_getD, List.getElem?_map]
  cases l[j]? <;> rfl
theorem rbK_1 (cnt : List Int) {k t : Int} (c : Nat) (l : List Int) (h : k = 1) : rbK cnt k t c l = cnt.getD t.toNat 0 := by
  unfold rbK
  rw [if_pos h]
theorem rbK_2 (cnt : List Int) {k t : Int} (c : Nat) (l : List Int) (h : k = 2 ∨ k = 3 ∨ k = 7) : rbK cnt k t c l = l.getD 0 0 := by
  unfold rbK
  rw [if_neg (by omega), if_neg (by omega), if_neg (by omega), if_neg (by omega), if_neg (by omega)]
theorem rbK_4 (cnt : List Int) {k t : Int} (c : Nat) (l : List Int) (h : k = 4) : rbK cnt k t c l = min (l.getD 0 0 * l.getD 1 0) M := by
  unfold rbK
  rw [if_neg (by omega), if_pos h]
theorem rbK_5 (cnt : List Int) {k t : Int} (c : Nat) (l : List Int) (h : k = 5) : rbK cnt k t c l = min (l.getD 0 0 * max (l.getD 1 0) 1) M := by
  unfold rbK
  rw [if_neg (by omega), if_neg (by omega), if_pos h]
theorem rbK_6 (cnt : List Int) {k t : Int} (c : Nat) (l : List Int) (h : k = 6) : rbK cnt k t c l = min (l.getD 0 0 + l.getD 1 0) M := by
  unfold rbK
  rw [if_neg (by omega), if_neg (by omega), if_neg (by omega), if_pos h]
theorem rbK_80 (cnt : List Int) {k t : Int} {c : Nat} (l : List Int) (h : k = 8) (hc : c = 0) : rbK cnt k t c l = min (l.getD 0 0) 1 := by
  unfold rbK
  rw [if_neg (by omega), if_neg (by omega), if_neg (by omega), if_neg (by omega), if_pos ⟨h, hc⟩]
theorem rbK_81 (cnt : List Int) {k t : Int} {c : Nat} (l : List Int) (h : k = 8) (hc : ¬ c = 0) : rbK cnt k t c l = l.getD 0 0 := by
  unfold rbK
  rw [if_neg (by omega), if_neg (by omega), if_neg (by omega), if_neg (by omega), if_neg (fun h => hc h.2)]
end Go.Proofs.Ytpfedjaedlfdfaa
