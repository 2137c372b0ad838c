/-
  The law that groups are distinct projections. No condition.
-/
import Derived.Test.YtibknjpbbeackaaGreatKSDcWEpG
import Derived.Test.YtibknjpbbeackaaGreatKSDca
import Derived.Test.YtibknjpbbeackaaGreatJSVCplE
import Derived.Test.YtibknjpbbeackaaGreatJSVGo
set_option maxHeartbeats 4000000
set_option maxRecDepth 100000
set_option linter.unusedVariables false
set_option linter.unusedSimpArgs false
namespace Go.Proofs.YtibknjpbbeackaaGreat
open Go.RowKit
theorem plOne {cs : List D} {p : Pl} (h : SubL cs [I p.k, I p.t, .sl 5 (p.es.map eD), intsD p.cs, .sl 5 (p.ks.map pD)]) : Sub (.sl 5 [.agg cs]) (.sl 5 [pD p]) := by
  rw [pD_eq]
  refine Sub.sl rfl (fun e he => by rw [List.mem_singleton.1 he]; rfl) ?_
  have e1 : ∀ l : List D, D.flat [.agg l] = l := fun l => by unfold D.flat; rw [List.flatMap_cons, List.flatMap_nil, List.append_nil]; rfl
  rw [e1, e1]
  exact h
theorem col0_s : Sub (.sl 5 [.agg [I 1, I 0, Bo false, I 0, .nul]]) (.sl 5 ([colE 0].map eD)) := oneS (leafC 0)
theorem gk_x (x : Pl) : Sub (.agg [I 3, I 0, .sl 5 [.agg [I 1, I 0, Bo false, I 0, .nul]], .nul, .sl 5 [.agg [I 8, I 0, .nul, .sl 1 [I 0], .sl 5 [pD x]]]]) (pD (prP [colE 0] (grP [0] x))) :=
  plS col0_s (Sub.nul 1) (plOne ⟨Sub.refl _, Sub.refl _, Sub.nul 5, Sub.refl _, Sub.refl _, trivial⟩)
theorem gk_y (x : Pl) : Sub (.agg [I 7, I 0, .nul, .nul, .sl 5 [.agg [I 3, I 0, .sl 5 [.agg [I 1, I 0, Bo false, I 0, .nul]], .nul, .sl 5 [pD x]]]]) (pD (diP (prP [colE 0] x))) :=
  plS (Sub.nul 5) (Sub.nul 1) (plOne ⟨Sub.refl _, Sub.refl _, col0_s, Sub.nul 1, Sub.refl _, trivial⟩)
theorem cols_0 {w : Int} (h : 1 ≤ w) : colsOk [0] w := fun i c hc => by
  cases i with
  | zero =>
    obtain rfl : (0 : Int) = c := by simpa using hc
    exact ⟨⟨Int.le_refl _, by omega⟩, fun b h0 => by omega⟩
  | succ i => simp at hc
theorem gk_fit {ws : List Int} (hw : wsOk ws) {x : Pl} (hs : psz x ≤ 1048576) (hs2 : psz (grP [0] x) ≤ 1048576) (hs3 : psz (prP [colE 0] x) ≤ 1048576) : (wdV ws (prP [colE 0] (grP [0] x)) 8 = if wdV ws x 6 = 0 then 0 else 1) ∧ (wdV ws (diP (prP [colE 0] x)) 8 = if wdV ws x 6 = 0 then 0 else 1) := by
  have hr := wd_in hw hs (d := 6) (by decide)
  have h1 : wdV ws (grP [0] x) 7 = if wdV ws x 6 = 0 then 0 else 2 := gr_wd ⟨by decide, fun h => cols_0 (by omega)⟩
  have h2 : wdV ws (prP [colE 0] x) 7 = if wdV ws x 6 = 0 then 0 else 1 := pr_wd hr (by decide) (fun h e he => by rw [List.mem_singleton.1 he]; exact col_ok (by omega) 8)
  refine ⟨?_, ?_⟩
  · rw [pr_wd (wd_in hw hs2 (d := 7) (by decide)) (by decide) (fun h e he => by rw [List.mem_singleton.1 he]; exact col_ok (by omega) 8), h1]
    by_cases h0 : wdV ws x 6 = 0
    · rw [if_pos h0, if_pos h0, if_pos rfl]
    · rw [if_neg h0, if_neg h0, if_neg (by decide)]; rfl
  · rw [di_wd (wd_in hw hs3 (d := 7) (by decide)), h2]
theorem does_FnGroupKeys (bs : List Nat) (hb : ∀ b, b ∈ bs → b < 256) : Does Tryz.prog 8 [] [bytesD bs] (Bo true) [] := by
  by_cases hlen : bs.length ≤ 1048576
  · obtain ⟨x, db, hd, hz, hdl, hsm, hrb⟩ := DrawEvalPlan_ok bs hb
    obtain ⟨h1, h2⟩ := EvalPlan_fn x (by omega) db (by omega) hsm.sz
    have h3 := equalTables_same (EP db x) (EP_small db x)
    by_cases hf : fitB db x
    · obtain ⟨n, hn, hwt, hdw, hT⟩ := fit_wt hf
      have hn6 := hwt.pos hdw.wid
      have hw := PV_ok hf.2
      have z1 : psz (grP [0] x) = psz x + 2 := by unfold grP; rw [psk_one, eszL]; simp only [List.length_cons, List.length_nil]; omega
      have ec : eszL [colE 0] = 1 := by unfold colE; rw [eszL, eszL, esz, eszL]
      have z2 : psz (prP [colE 0] x) = psz x + 2 := by unfold prP; rw [psk_one, ec]; simp only [List.length_nil]; omega
      have z3 : psz (prP [colE 0] (grP [0] x)) ≤ 1048576 := by
        have : psz (prP [colE 0] (grP [0] x)) = psz (grP [0] x) + 2 := by unfold prP; rw [psk_one, ec]; simp only [List.length_nil]; omega
        omega
      have z4 : psz (diP (prP [colE 0] x)) ≤ 1048576 := by
        have : psz (diP (prP [colE 0] x)) = psz (prP [colE 0] x) + 1 := by unfold diP; rw [psk_one, eszL]; simp only [List.length_nil]; omega
        omega
      obtain ⟨g1, g2⟩ := gk_fit hw (x := x) (by omega) (by omega) (by omega)
      have kx := ((EvalPlan_fn _ z3 db (by omega) hsm.sz).1).weak (es := [.agg [I 3, I 0, .sl 5 [.agg [I 1, I 0, Bo false, I 0, .nul]], .nul, .sl 5 [.agg [I 8, I 0, .nul, .sl 1 [I 0], .sl 5 [pD x]]]], tasD db]) ⟨gk_x x, Sub.refl _, trivial⟩ (Sub.refl _)
      have ky := ((EvalPlan_fn _ z4 db (by omega) hsm.sz).1).weak (es := [.agg [I 7, I 0, .nul, .nul, .sl 5 [.agg [I 3, I 0, .sl 5 [.agg [I 1, I 0, Bo false, I 0, .nul]], .nul, .sl 5 [pD x]]]], tasD db]) ⟨gk_y x, Sub.refl _, trivial⟩ (Sub.refl _)
      have he : fitB db (diP (prP [colE 0] x)) ↔ fitB db (prP [colE 0] (grP [0] x)) := by
        unfold fitB
        rw [PV_t hw, PV_t hw, g1, g2]
      rw [EO_t hf] at h1 h2
      rw [EP_t hf] at h1 h2 h3
      by_cases hg : fitB db (prP [colE 0] (grP [0] x))
      · have h4 := equalTables_same (EP db (diP (prP [colE 0] x))) (EP_small db _)
        rw [EP_t (he.2 hg)] at h4
        rw [EP_t hg, EO_t hg, gk_ev hT hn6.1] at kx
        rw [EP_t (he.2 hg), EO_t (he.2 hg)] at ky
        generalize evP db (diP (prP [colE 0] x)) = ty at *
        generalize evP db x = t at *
        refine Bg c_Z89 mixed (go1 @bytesD.eq_1 ?_)
        refine Uc @bytesD.eq_1 (hd) (go1 @bytesD.eq_1 ?_)
        refine Uc @bytesD.eq_1 (h1) (go1 @bytesD.eq_1 ?_)
        refine Uc @bytesD.eq_1 (h2) (go1 @bytesD.eq_1 ?_)
        refine Uc @bytesD.eq_1 (h3) (go1 @bytesD.eq_1 ?_)
        refine Uc @bytesD.eq_1 (kx) (go1 @bytesD.eq_1 ?_)
        refine Uc @bytesD.eq_1 (ky) (go1 @bytesD.eq_1 ?_)
        exact Uc @bytesD.eq_1 (h4) (go0 @bytesD.eq_1)
      · rw [EP_f hg, EO_f hg] at kx
        rw [EP_f (fun h => hg (he.1 h)), EO_f (fun h => hg (he.1 h))] at ky
        generalize evP db x = t at *
        refine Bg c_Z89 mixed (go1 @bytesD.eq_1 ?_)
        refine Uc @bytesD.eq_1 (hd) (go1 @bytesD.eq_1 ?_)
        refine Uc @bytesD.eq_1 (h1) (go1 @bytesD.eq_1 ?_)
        refine Uc @bytesD.eq_1 (h2) (go1 @bytesD.eq_1 ?_)
        refine Uc @bytesD.eq_1 (h3) (go1 @bytesD.eq_1 ?_)
        refine Uc @bytesD.eq_1 (kx) (go1 @bytesD.eq_1 ?_)
        exact Uc @bytesD.eq_1 (ky) (go0 @bytesD.eq_1)
    · rw [EO_f hf] at h1 h2
      refine Bg c_Z89 mixed (go1 @bytesD.eq_1 ?_)
      refine Uc @bytesD.eq_1 (hd) (go1 @bytesD.eq_1 ?_)
      refine Uc @bytesD.eq_1 (h1) (go1 @bytesD.eq_1 ?_)
      refine Uc @bytesD.eq_1 (h2) (go1 @bytesD.eq_1 ?_)
      refine Uc @bytesD.eq_1 (h3) (go1 @bytesD.eq_1 ?_)
      exact Uc @bytesD.eq_1 (h3) (go0 @bytesD.eq_1)
  · exact Bg c_Z89 mixed (go0 @bytesD.eq_1)
theorem walk_FnGroupKeys (a : Option Addr) (len cap : Nat) (zs : List Int) (w : World) (h : IsRow .u8 w a len cap zs) :
    Calls Tryz.prog 8 #[.slice a len cap] w fun e W' => e = .returned (.bool true) ∧ Below w.heap.size w W' := walk_of does_FnGroupKeys a len cap zs w h
end Go.Proofs.YtibknjpbbeackaaGreat
