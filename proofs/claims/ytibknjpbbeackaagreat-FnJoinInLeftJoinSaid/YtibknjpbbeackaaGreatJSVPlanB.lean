/-
  The width of a plan as a function; what a plan with a width is made of. No condition.
-/
import Derived.Test.YtibknjpbbeackaaGreatJSDcVWidB
import Derived.Test.YtibknjpbbeackaaGreatKSDca
import Derived.Test.YtibknjpbbeackaaGreatJSVPiC
import Derived.Test.YtibknjpbbeackaaGreatJSVGo
import Derived.Test.YtibknjpbbeackaaGreatKSDch
set_option maxHeartbeats 4000000
set_option maxRecDepth 100000
set_option linter.unusedVariables false
set_option linter.unusedSimpArgs false
namespace Go.Proofs.YtibknjpbbeackaaGreat
open Go.RowKit
mutual
noncomputable def wdV (ws : List Int) : Pl → Nat → Int
  | .mk k t es cs ks, d => if fields (.mk k t es cs ks) then (if k = 1 then scanV ws t else if d = 0 then 0 else resV (.mk k t es cs ks) (wdL ws ks (d - 1))) else 0
noncomputable def wdL (ws : List Int) : List Pl → Nat → List Int
  | [], _ => []
  | x :: l, d => wdV ws x d :: wdL ws l d
end
theorem wdL_map (ws : List Int) (d : Nat) : ∀ l : List Pl, wdL ws l d = l.map (fun x => wdV ws x d)
  | [] => by rw [wdL]; rfl
  | x :: l => by rw [wdL, wdL_map ws d l]; rfl
theorem wd_eq (ws : List Int) (p : Pl) (d : Nat) : wdV ws p d = if fields p then (if p.k = 1 then scanV ws p.t else if d = 0 then 0 else resV p (p.ks.map (fun x => wdV ws x (d - 1)))) else 0 := by
  cases p with
  | mk k t es cs ks => rw [wdV, wdL_map]; rfl
theorem wd_at {ws : List Int} {l : List Pl} {d i : Nat} {x : Pl} {n : Int} (hx : l[i]? = some x) (hn : (l.map (fun x => wdV ws x d))[i]? = some n) : n = wdV ws x d := by
  rw [List.getElem?_map, hx] at hn
  simpa using hn.symm
theorem width_fn {ws : List Int} (hw : wsOk ws) : ∀ (p : Pl), psz p ≤ 1048576 → ∀ d : Nat, d < 1000 → (0 ≤ wdV ws p d ∧ wdV ws p d ≤ 6) ∧ Does Tryz.prog 61 [] [pD p, intsD ws, I d] (I (wdV ws p d)) [] ∧ Does Tryz.prog 49 [] [pD p, intsD ws, I d] (I (wdV ws p d)) [] := by
  refine Pl.indA (fun p ih hs d hd => ?_)
  rw [psz_eq] at hs
  have hce := eszL_len p.es
  rw [wd_eq]
  by_cases hf : fields p
  · rw [if_pos hf]
    by_cases hk : p.k = 1
    · rw [if_pos hk]
      exact ⟨scan_range hw p.t, planWidth_scan p ws hw d hf hk, widthWithin_scan p ws hw d hf hk⟩
    · rw [if_neg hk]
      have hks : 1 ≤ p.ks.length := by unfold fields at hf; omega
      by_cases hd0 : d = 0
      · subst hd0
        rw [if_pos rfl]
        refine ⟨by decide, planWidth_0 p ws hf (by omega), ?_⟩
        by_cases hfi : fieldsI p
        · have h := widthWithin_main p ws 0 (by decide) hfi hk (by omega) (by omega) (List.replicate p.ks.length 0) (by rw [List.length_replicate]) (fun j x hj => by have := List.eq_of_mem_replicate (List.mem_of_getElem? hj); omega) (fun i x n hx hn => by
            obtain rfl : n = 0 := List.eq_of_mem_replicate (List.mem_of_getElem? hn)
            exact widthWithin_neg x ws)
          rw [resV_z ⟨0, by rw [List.getElem?_replicate, if_pos (by omega)]⟩] at h
          exact h
        · exact widthWithin_no p ws 0 hfi
      · rw [if_neg hd0]
        have hc1 : ((d - 1 : Nat) : Int) = (d : Int) - 1 := by omega
        have hp : ∀ (x : Pl), x ∈ p.ks → (0 ≤ wdV ws x (d - 1) ∧ wdV ws x (d - 1) ≤ 6) ∧ Does Tryz.prog 61 [] [pD x, intsD ws, I ((d : Int) - 1)] (I (wdV ws x (d - 1))) [] ∧ Does Tryz.prog 49 [] [pD x, intsD ws, I ((d : Int) - 1)] (I (wdV ws x (d - 1))) [] := fun x hx => by
          have := ih x hx (by have := pszL_mem hx; omega) (d - 1) (by omega)
          rw [hc1] at this
          exact this
        have hl : (p.ks.map (fun x => wdV ws x (d - 1))).length = p.ks.length := List.length_map ..
        have hn : ∀ (j : Nat) (x : Int), (p.ks.map (fun x => wdV ws x (d - 1)))[j]? = some x → 0 ≤ x ∧ x ≤ 6 := fun j x hj => by
          obtain ⟨y, hy, rfl⟩ := List.mem_map.1 (List.mem_of_getElem? hj)
          exact (hp y hy).1
        refine ⟨resV_range p _ hn, planWidth_main p ws d hd (by omega) hf hk (by omega) (by omega) _ hl hn (fun i x n hx hn => ?_), ?_⟩
        · obtain rfl := wd_at hx hn
          exact (hp x (List.mem_of_getElem? hx)).2.1
        · by_cases hfi : fieldsI p
          · exact widthWithin_main p ws d hd hfi hk (by omega) (by omega) _ hl hn (fun i x n hx hn => by
              obtain rfl := wd_at hx hn
              exact (hp x (List.mem_of_getElem? hx)).2.2)
          · rw [resV_f (fun h => hfi h.1)]
            exact widthWithin_no p ws d hfi
  · rw [if_neg hf]
    exact ⟨by decide, planWidth_no p ws d hf, widthWithin_no p ws d (fun h => hf h.1)⟩
noncomputable def PV (ws : List Int) (p : Pl) : Int := if wsOk ws then wdV ws p 8 else 0
theorem PV_t {ws : List Int} (h : wsOk ws) (p : Pl) : PV ws p = wdV ws p 8 := if_pos h
theorem PV_ok {ws : List Int} {p : Pl} (h : PV ws p ≠ 0) : wsOk ws := Classical.byContradiction fun hn => h (if_neg hn)
theorem PlanWidth_fn (p : Pl) (hs : psz p ≤ 1048576) (ws : List Int) (hl : ws.length ≤ 1048576) : (0 ≤ PV ws p ∧ PV ws p ≤ 6) ∧ Does Tryz.prog 37 [] [pD p, intsD ws] (I (PV ws p)) [] ∧ Does Tryz.prog 27 [] [pD p, intsD ws] (I (PV ws p)) [] := by
  have h1 := validWidths_spec ws hl
  have h2 := validWidths_impl ws hl
  by_cases hw : wsOk ws
  · rw [decide_eq_true hw] at h1 h2
    rw [PV_t hw]
    obtain ⟨hn, hA, hB⟩ := width_fn hw p hs 8 (by decide)
    refine ⟨hn, ?_, ?_⟩
    · refine Bg c_Z162 mixed (go1 trivial ?_)
      refine Uc trivial (h1) (go1 trivial ?_)
      exact Uc trivial (hA) (go0 trivial)
    · refine Bg c_Z111 mixed (go1 trivial ?_)
      refine Uc trivial (h2) (go1 trivial ?_)
      exact Uc trivial (hB) (go0 trivial)
  · rw [decide_eq_false hw] at h1 h2
    rw [show PV ws p = 0 from if_neg hw]
    refine ⟨by decide, ?_, ?_⟩
    · refine Bg c_Z162 mixed (go1 trivial ?_)
      exact Uc trivial (h1) (go0 trivial)
    · refine Bg c_Z111 mixed (go1 trivial ?_)
      exact Uc trivial (h2) (go0 trivial)
/-! What follows from a width. -/
theorem wd_fields {ws : List Int} {p : Pl} {d : Nat} (h : wdV ws p d ≠ 0) : fields p := Classical.byContradiction fun hf => h (by rw [wd_eq, if_neg hf])
theorem wd_scan {ws : List Int} {p : Pl} {d : Nat} (h : wdV ws p d ≠ 0) (hk : p.k = 1) : wdV ws p d = scanV ws p.t ∧ 0 ≤ p.t ∧ p.t ≤ (ws.length : Int) - 1 := by
  have hf := wd_fields h
  rw [wd_eq, if_pos hf, if_pos hk] at h ⊢
  exact ⟨rfl, Decidable.byContradiction fun hn => h (if_neg hn)⟩
theorem wd_res {ws : List Int} {p : Pl} {d : Nat} (h : wdV ws p d ≠ 0) (hk : ¬ p.k = 1) : d ≠ 0 ∧ wdV ws p d = resV p (p.ks.map (fun x => wdV ws x (d - 1))) := by
  have hf := wd_fields h
  rw [wd_eq, if_pos hf, if_neg hk] at h ⊢
  by_cases hd : d = 0
  · rw [if_pos hd] at h
    exact absurd rfl h
  · rw [if_neg hd]
    exact ⟨hd, rfl⟩
theorem wd_fit {ws : List Int} {p : Pl} {d : Nat} (h : wdV ws p d ≠ 0) (hk : ¬ p.k = 1) : (fieldsI p ∧ fitsV p (p.ks.map (fun x => wdV ws x (d - 1)))) ∧ wdV ws p d = fromV p (p.ks.map (fun x => wdV ws x (d - 1))) ∧ ∀ x, x ∈ p.ks → wdV ws x (d - 1) ≠ 0 := by
  obtain ⟨hd, hr⟩ := wd_res h hk
  rw [hr] at h
  have hz : ¬ zeroIn (p.ks.map (fun x => wdV ws x (d - 1))) := fun hz => h (resV_z hz)
  have hv : fieldsI p ∧ fitsV p (p.ks.map (fun x => wdV ws x (d - 1))) := Classical.byContradiction fun hv => h (resV_f hv)
  refine ⟨hv, by rw [hr, resV_t hz hv.1 hv.2], fun x hx h0 => hz ?_⟩
  obtain ⟨j, hj⟩ := List.mem_iff_getElem?.1 hx
  exact ⟨j, by rw [List.getElem?_map, hj, Option.map_some, h0]⟩
end Go.Proofs.YtibknjpbbeackaaGreat
set_option maxHeartbeats 4000000
set_option maxRecDepth 100000
set_option linter.unusedVariables false
set_option linter.unusedSimpArgs false
namespace Go.Proofs.YtibknjpbbeackaaGreat
open Go.RowKit
variable {bs : List Nat} {ws : List Int} {p j u d : Nat} {x : Pl} {t k6 c n : Int} {q j1 u1 : Nat}
theorem plan_dist (h : Pre bs ws p j u d x t k6 c n q j1 u1) (hc : c = 8) : DPlan bs ws p j u ((d + 1 : Nat) : Int) (.mk 7 0 [] [] [x]) (q + 1) j1 u1 := by
  obtain ⟨hl, hd, h1, h2, h6, hk, hw, hn, h3, hj, hu⟩ := h
  subst hc
  have hs : Sub (.agg [I 7, I 0, .nul, .nul, .sl 5 [pD x]]) (pD (.mk 7 0 [] [] [x])) := plS (Sub.nul 5) (Sub.nul 1) (Sub.refl _)
  simp only [go_sem] at hs
  refine Bk c_Z57 mixed 3 (go1 trivial ?_)
  refine UcR [1000001] trivial (h1) (go1 trivial ?_)
  refine UcR [1000001] trivial (h2) (go1 trivial ?_)
  refine UcR [1000000, 1000001, 1000002] trivial (hk) (go1 trivial ?_)
  refine UcR [1000002] trivial (hw) (go1 trivial ?_)
  refine UcR [1000001] trivial (h3) (go1 trivial ?_)
  refine fin_L [1000000, 1000001, 1000002] ?_ ?_ rfl ?_
  repeat' (first|(conv in hold _=>simp (disch:=omega) only [go_sem])|exact trivial|exact Sub.refl _|omega)
  all_goals exact hs
theorem plan_grp (h : Pre bs ws p j u d x t k6 c n q j1 u1) (hc : c = 9) (hn1 : ¬ 1 < n) : DPlan bs ws p j u ((d + 1 : Nat) : Int) (.mk 8 0 [] [] [x]) (q + 1) j1 u1 := by
  obtain ⟨hl, hd, h1, h2, h6, hk, hw, hn, h3, hj, hu⟩ := h
  subst hc
  have hs : Sub (.agg [I 8, I 0, .nul, .nul, .sl 5 [pD x]]) (pD (.mk 8 0 [] [] [x])) := plS (Sub.nul 5) (Sub.nul 1) (Sub.refl _)
  simp only [go_sem] at hs
  refine Bk c_Z57 mixed 3 (go1 trivial ?_)
  refine UcR [1000001] trivial (h1) (go1 trivial ?_)
  refine UcR [1000001] trivial (h2) (go1 trivial ?_)
  refine UcR [1000000, 1000001, 1000002] trivial (hk) (go1 trivial ?_)
  refine UcR [1000002] trivial (hw) (go1 trivial ?_)
  refine UcR [1000001] trivial (h3) (go1 trivial ?_)
  refine fin_L [1000000, 1000001, 1000002] ?_ ?_ rfl ?_
  repeat' (first|(conv in hold _=>simp (disch:=omega) only [go_sem])|exact trivial|exact Sub.refl _|omega)
  all_goals exact hs
theorem plan_grpc (h : Pre bs ws p j u d x t k6 c n q j1 u1) (hc : c = 9) (hn1 : 1 < n) {g : Int} (hg : DPick bs (q + 1) n g) : DPlan bs ws p j u ((d + 1 : Nat) : Int) (.mk 8 0 [] [g] [x]) (q + 2) j1 u1 := by
  obtain ⟨hl, hd, h1, h2, h6, hk, hw, hn, h3, hj, hu⟩ := h
  subst hc
  have hs : Sub (.agg [I 8, I 0, .nul, .sl 1 [I g], .sl 5 [pD x]]) (pD (.mk 8 0 [] [g] [x])) := plS (Sub.nul 5) (Sub.refl _) (Sub.refl _)
  simp only [go_sem] at hs
  refine Bk c_Z57 mixed 3 (go1 trivial ?_)
  refine UcR [1000001] trivial (h1) (go1 trivial ?_)
  refine UcR [1000001] trivial (h2) (go1 trivial ?_)
  refine UcR [1000000, 1000001, 1000002] trivial (hk) (go1 trivial ?_)
  refine UcR [1000002] trivial (hw) (go1 trivial ?_)
  refine UcR [1000001] trivial (h3) (go1 trivial ?_)
  refine UcR [1000001] trivial (hg) (go1 trivial ?_)
  refine fin_L [1000000, 1000001, 1000002] ?_ ?_ rfl ?_
  repeat' (first|(conv in hold _=>simp (disch:=omega) only [go_sem])|exact trivial|exact Sub.refl _|omega)
  all_goals exact hs
theorem plan_uni (h : Pre bs ws p j u d x t k6 c n q j1 u1) (hc : c = 7) (hu1 : 0 < u1) (hsz : psz x ≤ 900000) {e : E} {q2 : Nat} (hce : DCond bs (q + 1) n e q2) : DPlan bs ws p j u ((d + 1 : Nat) : Int) (.mk 6 0 [] [] [x, .mk 2 0 [e] [] [x]]) q2 j1 (u1 - 1) := by
  obtain ⟨hl, hd, h1, h2, h6, hk, hw, hn, h3, hj, hu⟩ := h
  subst hc
  have hf := filterOf_ok e x
  have hcp := copyPlan_ok x hsz
  have hs : Sub (.agg [I 6, I 0, .nul, .nul, .sl 5 [pD x, pD (.mk 2 0 [e] [] [x])]]) (pD (.mk 6 0 [] [] [x, .mk 2 0 [e] [] [x]])) := plS (Sub.nul 5) (Sub.nul 1) (Sub.refl _)
  simp only [go_sem] at hs
  have hu2 : ((u1 - 1 : Nat) : Int) = (u1 : Int) - 1 := by omega
  refine Bk c_Z57 mixed 3 (go1 trivial ?_)
  refine UcR [1000001] trivial (h1) (go1 trivial ?_)
  refine UcR [1000001] trivial (h2) (go1 trivial ?_)
  refine UcR [1000000, 1000001, 1000002] trivial (hk) (go1 trivial ?_)
  refine UcR [1000002] trivial (hw) (go1 trivial ?_)
  refine UcR [1000001] trivial (h3) (go1 trivial ?_)
  refine UcR [1000001] trivial (hce) (go1 trivial ?_)
  refine Uc trivial (hcp) (go1 trivial ?_)
  refine Uc trivial (hf) (go1 trivial ?_)
  refine fin_L [1000000, 1000001, 1000002] ?_ ?_ rfl ?_
  repeat' (first|(conv in hold _=>simp (disch:=omega) only [go_sem, hu2])|exact trivial|exact Sub.refl _|omega)
  all_goals exact hs
theorem plan_join (h : Pre bs ws p j u d x t k6 c n q j1 u1) (hc : c = 5 ∨ c = 6) (hj0 : 0 < j1) (hn4 : n ≤ 4) {d2 : Int} (hd2 : DPick bs (q + 1) 2 d2) {y : Pl} {q2 j2 u2 : Nat} (hy : DPlan bs ws (q + 2) (j1 - 1) u1 d2 y q2 j2 u2) {m : Int} (hm : DWid ws y m) (hm0 : 0 ≤ m ∧ m ≤ 6) (hnm : n + m ≤ 6)
    {k : Int} (hkk : Does Tryz.prog 80 [rdD bs q2] [.ref 1000000 0, .sl 1 ([4, 5].map I)] (I k) [rdD bs (q2 + 1)]) {e : E} {q3 : Nat} (hce : DCond bs (q2 + 1) (n + m) e q3) : DPlan bs ws p j u ((d + 1 : Nat) : Int) (.mk k 0 [e] [] [x, y]) q3 j2 u2 := by
  obtain ⟨hl, hd, h1, h2, h6, hk, hw, hn, h3, hj, hu⟩ := h
  have hs : Sub (.agg [I k, I 0, .sl 5 [eD e], .nul, .sl 5 [pD x, pD y]]) (pD (.mk k 0 [e] [] [x, y])) := plS (Sub.refl _) (Sub.nul 1) (Sub.refl _)
  simp only [go_sem] at hs
  have hj2 : ((j1 - 1 : Nat) : Int) = (j1 : Int) - 1 := by omega
  unfold DPlan gnD at hy
  rw [hj2] at hy
  rcases hc with rfl | rfl
  all_goals
    refine Bk c_Z57 mixed 3 (go1 trivial ?_)
    refine UcR [1000001] trivial (h1) (go1 trivial ?_)
    refine UcR [1000001] trivial (h2) (go1 trivial ?_)
    refine UcR [1000000, 1000001, 1000002] trivial (hk) (go1 trivial ?_)
    refine UcR [1000002] trivial (hw) (go1 trivial ?_)
    refine UcR [1000001] trivial (h3) (go1 trivial ?_)
    refine UcR [1000001] trivial (hd2) (go1 trivial ?_)
    refine UcR [1000000, 1000001, 1000002] trivial (hy) (go1 trivial ?_)
    refine UcR [1000002] trivial (hm) (go1 trivial ?_)
    refine UcR [1000001] trivial (hkk) (go1 trivial ?_)
    refine UcR [1000001] trivial (hce) (go1 trivial ?_)
    refine fin_L [1000000, 1000001, 1000002] ?_ ?_ rfl ?_
    repeat' (first|(conv in hold _=>simp (disch:=omega) only [go_sem])|exact trivial|exact Sub.refl _|omega)
  all_goals exact hs
theorem plan_wide (h : Pre bs ws p j u d x t k6 c n q j1 u1) (hc : c = 5 ∨ c = 6) (hj0 : 0 < j1) (hn4 : n ≤ 4) {d2 : Int} (hd2 : DPick bs (q + 1) 2 d2) {y : Pl} {q2 j2 u2 : Nat} (hy : DPlan bs ws (q + 2) (j1 - 1) u1 d2 y q2 j2 u2) {m : Int} (hm : DWid ws y m) (hm0 : 0 ≤ m ∧ m ≤ 6) (hnm : ¬ n + m ≤ 6)
    {e : E} {q3 : Nat} (hce : DCond bs q2 n e q3) : DPlan bs ws p j u ((d + 1 : Nat) : Int) (.mk 2 0 [e] [] [x]) q3 j2 u2 := by
  obtain ⟨hl, hd, h1, h2, h6, hk, hw, hn, h3, hj, hu⟩ := h
  have hf := filterOf_ok e x
  have hj2 : ((j1 - 1 : Nat) : Int) = (j1 : Int) - 1 := by omega
  unfold DPlan gnD at hy
  rw [hj2] at hy
  rcases hc with rfl | rfl
  all_goals
    refine Bk c_Z57 mixed 3 (go1 trivial ?_)
    refine UcR [1000001] trivial (h1) (go1 trivial ?_)
    refine UcR [1000001] trivial (h2) (go1 trivial ?_)
    refine UcR [1000000, 1000001, 1000002] trivial (hk) (go1 trivial ?_)
    refine UcR [1000002] trivial (hw) (go1 trivial ?_)
    refine UcR [1000001] trivial (h3) (go1 trivial ?_)
    refine UcR [1000001] trivial (hd2) (go1 trivial ?_)
    refine UcR [1000000, 1000001, 1000002] trivial (hy) (go1 trivial ?_)
    refine UcR [1000002] trivial (hm) (go1 trivial ?_)
    refine UcR [1000001] trivial (hce) (go1 trivial ?_)
    refine Uc trivial (hf) (go1 trivial ?_)
    refine fin_L [1000000, 1000001, 1000002] ?_ ?_ rfl ?_
    repeat' (first|(conv in hold _=>simp (disch:=omega) only [go_sem])|exact trivial|exact Sub.refl _|omega)
def DOne (bs : List Nat) (n : Int) (p : Nat) (e : E) (q : Nat) : Prop := (∃ dd : Int, DPick bs p 2 dd ∧ Does Tryz.prog 126 [rdD bs (p + 1)] [.ref 1000000 0, I n, I dd] (eD e) [rdD bs q]) ∧ esz e ≤ 3
theorem one_drawn (hs : Src bs) (n : Int) (hn : n < 1000) (p : Nat) (hp : p < 600000000) : ∃ e q, DOne bs n p e q ∧ p ≤ q ∧ q ≤ p + 60 := by
  obtain ⟨dd, hdd, d0, d1, _⟩ := pick_ok hs p (by omega) 2 (by omega)
  have hd1 := d1 (by omega)
  obtain ⟨m, rfl⟩ := Int.eq_ofNat_of_zero_le d0
  have hb0 : bnd 0 = 5 := by decide
  have hb1 : bnd 1 = 20 := by decide
  have hz0 : szb 0 = 1 := by decide
  have hz1 : szb 1 = 3 := by decide
  have hm : m = 0 ∨ m = 1 := by omega
  rcases hm with rfl | rfl
  · obtain ⟨e, q, he, hq0, hq1, hz⟩ := randomExpr_ok hs n hn 0 (p + 1) (by omega)
    exact ⟨e, q, ⟨⟨_, hdd, he⟩, by omega⟩, by omega, by omega⟩
  · obtain ⟨e, q, he, hq0, hq1, hz⟩ := randomExpr_ok hs n hn 1 (p + 1) (by omega)
    exact ⟨e, q, ⟨⟨_, hdd, he⟩, by omega⟩, by omega, by omega⟩
theorem plan_proj (h : Pre bs ws p j u d x t k6 c n q j1 u1) (hc : c = 3 ∨ c = 4) {mm : Nat} (hmm : DPick bs (q + 1) 2 mm) (hm1 : mm ≤ 1) {es : List E} {ps : Nat → Nat} (hel : es.length = 1 + mm) (h0 : ps 0 = q + 2) (hes : ∀ i e, es[i]? = some e → DOne bs n (ps i) e (ps (i + 1))) : DPlan bs ws p j u ((d + 1 : Nat) : Int) (.mk 3 0 es [] [x]) (ps (1 + mm)) j1 u1 := by
  obtain ⟨hl, hd, h1, h2, h6, hk, hw, hn, h3, hj, hu⟩ := h
  have hs : Sub (.agg [I 3, I 0, .sl 5 (es.map eD), .nul, .sl 5 [pD x]]) (pD (.mk 3 0 es [] [x])) := plS (Sub.refl _) (Sub.nul 1) (Sub.refl _)
  simp only [go_sem] at hs
  rcases hc with rfl | rfl
  all_goals
    refine Bk c_Z57 mixed 3 (go1 trivial ?_)
    refine UcR [1000001] trivial (h1) (go1 trivial ?_)
    refine UcR [1000001] trivial (h2) (go1 trivial ?_)
    refine UcR [1000000, 1000001, 1000002] trivial (hk) (go1 trivial ?_)
    refine UcR [1000002] trivial (hw) (go1 trivial ?_)
    refine UcR [1000001] trivial (h3) (go1 trivial ?_)
    refine UcR [1000001] trivial (hmm) (go1 trivial ?_)
    refine dw_for (c := 6) (l := fun i => [(4, .ref 1000003 0), (5, .ref 1000001 0), (7, .ref 1000004 0), (8, I n), (9, .own 1000005 5 i), (10, I (1 + (mm : Int) - i)), (1000000, gnD ws j1 u1), (1000001, rdD bs (ps i)), (1000002, wrD ws), (1000003, .obj [I 0, I 0, .nul, .nul, .nul]), (1000004, .obj [I x.k, I x.t, .sl 5 (x.es.map eD), .sl 1 (x.cs.map I), .sl 5 (x.ks.map pD)]), (1000005, .row 5 ((es.take i).map eD))]) (1 + mm) (fun _ => True) 0 trivial ((wk_row 9 2000099 5 (by decide) (by decide) rfl rfl).trans (Wk.list [1000000, 1000001, 1000002, 2000004, 2000007, 2000099] rfl rfl ?_)) (fun i hi _ => ?_) (Nat.zero_le _)
    · rw [h0]
      repeat' (first|(conv in hold _=>simp (disch:=omega) only [go_sem])|exact trivial|exact Sub.refl _|omega)
      exact congrArg (fun n => D.v (Value.int .i64 n)) (by omega)
    · have hlt := take_len (vs := es) (i := i) (by omega)
      have hmt := take_map eD (vs := es) (i := i) (by omega)
      by_cases hil : i < 1 + mm
      · obtain ⟨e, he1⟩ : ∃ e, es[i]? = some e := ⟨es[i], List.getElem?_eq_getElem (by omega)⟩
        obtain ⟨⟨dd, hx1, hx2⟩, _⟩ := hes i e he1
        have hnx := take_next he1
        refine go1 trivial ?_
        refine UcR [1000001] trivial (hx1) (go1 trivial ?_)
        refine UcR [1000001] trivial (hx2) (go1 trivial ?_)
        refine ⟨by omega, trivial, Wk.list [1000000, 1000001, 1000002, 1000003, 1000004, 2000072] rfl rfl ?_⟩
        repeat' (first|(conv in hold _=>simp (disch:=omega) only [go_sem])|exact trivial|exact Sub.refl _|omega)
        refine ⟨congrArg (fun n => D.v (Value.int .i64 n)) (by omega), ?_⟩
        rw [hmt, hnx, List.map_append, List.map_cons, List.map_nil, eD_eq e]
      · obtain rfl : i = 1 + mm := by omega
        have e1 : es.take (1 + mm) = es := List.take_of_length_le (by omega)
        have e2 : (es.map eD).take (1 + mm) = es.map eD := List.take_of_length_le (by rw [List.length_map]; omega)
        refine go1F @e1 ?_
        refine fin_wk (wk_frzO 1000003 1000005 (by decide) (by decide) rfl (by decide) rfl ?_) ?_
        rotate_left
        (conv in hold _=>simp (disch:=omega) only [go_sem, e1, e2])
        · refine fin_L [1000000, 1000001, 1000002] ?_ ?_ rfl ?_
          repeat' (first|(conv in hold _=>simp (disch:=omega) only [go_sem])|exact trivial|exact Sub.refl _|omega)
          rw [if_pos (by omega)]
          exact hs
        · exact exprs_pur _
end Go.Proofs.YtibknjpbbeackaaGreat
