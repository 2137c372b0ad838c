/-
  The law that a filter, its negation and its null test divide a table. No condition.
-/
import Derived.Test.YtibknjpbbeackaaGreatKSDcWEpW
import Derived.Test.YtibknjpbbeackaaGreatKSDca
import Derived.Test.YtibknjpbbeackaaGreatKSWEpT
import Derived.Test.YtibknjpbbeackaaGreatJSVPiC
import Derived.Test.YtibknjpbbeackaaGreatJSVGo
set_option maxHeartbeats 4000000
set_option maxRecDepth 100000
set_option linter.unusedVariables false
set_option linter.unusedSimpArgs false
namespace Go.Proofs.YtibknjpbbeackaaGreat
open Go.RowKit
theorem tab_ok {w : Nat} (hw : 1 ≤ w ∧ w ≤ 6) {rs : List (List V)} (h : TabW w ⟨(w : Int), rs⟩) : tOk ⟨(w : Int), rs⟩ := tOk_of hw h.few h.row h.asc
theorem null_w (e : E) : Sub (.agg [I 11, I 0, Bo false, I 0, .sl 5 [eD e]]) (eD (oneE 11 e)) := by
  unfold oneE
  rw [eD_eC (.mk 11 0 ⟨false, 0⟩ [e])]
  exact Sub.refl _
theorem does_FnFilterSplits (bs : List Nat) (hb : ∀ b, b ∈ bs → b < 256) (ms : List Nat) (hm : ∀ b, b ∈ ms → b < 256) : Does Tryz.prog 10 [] [bytesD bs, bytesD ms] (Bo true) [] := by
  by_cases hlen : bs.length ≤ 1048576
  · by_cases hlen2 : ms.length ≤ 1048576
    · obtain ⟨x, db, hd, hz, hdl, hsm, hrb⟩ := DrawEvalPlan_ok bs hb
      obtain ⟨h1, h2⟩ := EvalPlan_fn x (by omega) db (by omega) hsm.sz
      have h3 := equalTables_same (EP db x) (EP_small db x)
      by_cases hf : fitB db x
      · obtain ⟨n, hn, hwt, hdw, hT⟩ := fit_wt hf
        have hw := PV_ok hf.2
        have hn6 := hwt.pos hdw.wid
        have hk : 0 ≤ (ms.length : Int) % 4 ∧ (ms.length : Int) % 4 ≤ 3 := by omega
        generalize hkk : (ms.length : Int) % 4 = k at hk
        have hkt : (ms.length : Int).tmod 4 = k := by rw [← hkk]; exact Int.tmod_eq_emod_of_nonneg (by omega)
        have t1 : Does Tryz.prog 21 [] [I 7, .agg [I 1, I 0, Bo false, I 0, .nul], .agg [I 2, I 0, Bo false, I k, .nul]] (eD (lessE k)) [] := two_w1 7 0 k
        have hzl := esz_less k
        have n1 : esz (oneE 10 (lessE k)) = 4 := by unfold oneE; rw [esz, eszL, eszL, hzl]
        have n2 : esz (oneE 11 (lessE k)) = 4 := by unfold oneE; rw [esz, eszL, eszL, hzl]
        have za : psz (fiP (lessE k) x) ≤ 1048576 := by rw [fi_psz, hzl]; omega
        have zb : psz (fiP (oneE 10 (lessE k)) x) ≤ 1048576 := by rw [fi_psz, n1]; omega
        have zc : psz (fiP (oneE 11 (lessE k)) x) ≤ 1048576 := by rw [fi_psz, n2]; omega
        have ka := (EvalPlan_fn (fiP (lessE k) x) za db (by omega) hsm.sz).1
        have kb := (EvalPlan_fn (fiP (oneE 10 (lessE k)) x) zb db (by omega) hsm.sz).1
        have kc := (EvalPlan_fn (fiP (oneE 11 (lessE k)) x) zc db (by omega) hsm.sz).1
        have fa := filter_l (lessE k) x
        have fb := filter_l (oneE 10 (lessE k)) x
        have fc : Does Tryz.prog 19 [] [.agg [I 11, I 0, Bo false, I 0, .sl 5 [eD (lessE k)]], pD x] (pD (fiP (oneE 11 (lessE k)) x)) [] := (filter_l (oneE 11 (lessE k)) x).weak ⟨null_w _, Sub.refl _, trivial⟩ (Sub.refl _)
        have nl := not_l (lessE k)
        have hzx : psz x ≤ 1048576 := by omega
        have ga := fi_fit (e := lessE k) hf.1 hw hzx (fun h => lessE_ok hk h 7)
        have gb := fi_fit (e := oneE 10 (lessE k)) hf.1 hw hzx (fun h => one_w (Or.inl rfl) (lessE_ok hk h 6))
        have gc := fi_fit (e := oneE 11 (lessE k)) hf.1 hw hzx (fun h => one_w (Or.inr rfl) (lessE_ok hk h 6))
        rw [EO_t hf] at h1 h2
        rw [EP_t hf] at h1 h2 h3
        by_cases h7 : wdV (natI (dbWs db)) x 7 ≠ 0
        · rw [EP_t (ga.2 h7), EO_t (ga.2 h7), fi_ev, (fi_tab hT _).1] at ka
          rw [EP_t (gb.2 h7), EO_t (gb.2 h7), fi_ev, (fi_tab hT _).1] at kb
          rw [EP_t (gc.2 h7), EO_t (gc.2 h7), fi_ev, (fi_tab hT _).1] at kc
          have hsp := holds_split (lessE k) (evP db x).rows
          have ta := (fi_tab hT (holdsB (lessE k))).2
          have tb := (fi_tab hT (holdsB (oneE 10 (lessE k)))).2
          have tc := (fi_tab hT (holdsB (oneE 11 (lessE k)))).2
          have hfew := hT.few
          have hrow := hT.row
          have hasc := hT.asc
          have hte := hT.eta
          generalize (evP db x).rows = rs at hte hsp ta tb tc ka kb kc hfew hrow hasc
          rw [hte] at h1 h2 h3 ta tb tc ka kb kc
          generalize hra : rs.filter (holdsB (lessE k)) = ra at *
          generalize hrb2 : rs.filter (holdsB (oneE 10 (lessE k))) = rb2 at *
          generalize hrc : rs.filter (holdsB (oneE 11 (lessE k))) = rc at *
          have hpl := hsp.length_eq
          rw [List.length_append, List.length_append] at hpl
          have oa := tab_ok hn6 ta
          have ob := tab_ok hn6 tb
          have oc := tab_ok hn6 tc
          have u1 := UnionAll_impl_t (tOk_sz oa) (tOk_sz ob) ⟨oa, ob, rfl⟩ (by show ra.length + rb2.length ≤ 400; omega)
          have hsl := srt_len (ra ++ rb2)
          rw [List.length_append] at hsl
          have hrw := rsw_app ta.row tb.row
          have hou : tOk ⟨(n : Int), srt (ra ++ rb2)⟩ := tOk_of hn6 (by omega) (srt_rsw hrw) (srt_asc hrw)
          have u2 := UnionAll_impl_t (tOk_sz hou) (tOk_sz oc) ⟨hou, oc, rfl⟩ (by show (srt (ra ++ rb2)).length + rc.length ≤ 400; omega)
          have hfin : srt (srt (ra ++ rb2) ++ rc) = rs := by
            rw [srt_congr (rsw_app hrw tc.row) ((srt_perm (ra ++ rb2)).append_right rc), srt_congr hrow hsp, srt_of_asc hrow hasc]
          simp only at u1 u2
          rw [hfin] at u2
          generalize srt (ra ++ rb2) = ru at *
          refine Bg c_Z43 mixed (go1 @bytesD.eq_1 ?_)
          refine Uc @bytesD.eq_1 (hd) (go1 @bytesD.eq_1 ?_)
          refine Uc @bytesD.eq_1 (h1) (go1 @bytesD.eq_1 ?_)
          refine Uc @bytesD.eq_1 (h2) (go1 @bytesD.eq_1 ?_)
          refine Uc (cj3 @bytesD.eq_1 @hkt @hkk) (h3) (go1 (cj3 @bytesD.eq_1 @hkt @hkk) ?_)
          refine Uc (cj3 @bytesD.eq_1 @hkt @hkk) (t1) (go1 (cj3 @bytesD.eq_1 @hkt @hkk) ?_)
          refine Uc @bytesD.eq_1 (fa) (go1 @bytesD.eq_1 ?_)
          refine Uc @bytesD.eq_1 (ka) (go1 @bytesD.eq_1 ?_)
          refine Uc @bytesD.eq_1 (nl) (go1 @bytesD.eq_1 ?_)
          refine Uc @bytesD.eq_1 (fb) (go1 @bytesD.eq_1 ?_)
          refine Uc @bytesD.eq_1 (kb) (go1 @bytesD.eq_1 ?_)
          refine Uc @bytesD.eq_1 (fc) (go1 @bytesD.eq_1 ?_)
          refine Uc @bytesD.eq_1 (kc) (go1 @bytesD.eq_1 ?_)
          refine Uc @bytesD.eq_1 (u1) (go1 @bytesD.eq_1 ?_)
          refine Uc @bytesD.eq_1 (u2) (go1 @bytesD.eq_1 ?_)
          exact Uc @bytesD.eq_1 (h3) (go0 @bytesD.eq_1)
        · rw [EO_f (fun h => h7 (ga.1 h))] at ka
          rw [EO_f (fun h => h7 (gb.1 h))] at kb
          rw [EO_f (fun h => h7 (gc.1 h))] at kc
          generalize evP db x = t at *
          refine Bg c_Z43 mixed (go1 @bytesD.eq_1 ?_)
          refine Uc @bytesD.eq_1 (hd) (go1 @bytesD.eq_1 ?_)
          refine Uc @bytesD.eq_1 (h1) (go1 @bytesD.eq_1 ?_)
          refine Uc @bytesD.eq_1 (h2) (go1 @bytesD.eq_1 ?_)
          refine Uc (cj3 @bytesD.eq_1 @hkt @hkk) (h3) (go1 (cj3 @bytesD.eq_1 @hkt @hkk) ?_)
          refine Uc (cj3 @bytesD.eq_1 @hkt @hkk) (t1) (go1 (cj3 @bytesD.eq_1 @hkt @hkk) ?_)
          refine Uc @bytesD.eq_1 (fa) (go1 @bytesD.eq_1 ?_)
          refine Uc @bytesD.eq_1 (ka) (go1 @bytesD.eq_1 ?_)
          refine Uc @bytesD.eq_1 (nl) (go1 @bytesD.eq_1 ?_)
          refine Uc @bytesD.eq_1 (fb) (go1 @bytesD.eq_1 ?_)
          refine Uc @bytesD.eq_1 (kb) (go1 @bytesD.eq_1 ?_)
          refine Uc @bytesD.eq_1 (fc) (go1 @bytesD.eq_1 ?_)
          exact Uc @bytesD.eq_1 (kc) (go0 @bytesD.eq_1)
      · rw [EO_f hf] at h1 h2
        refine Bg c_Z43 mixed (go1 @bytesD.eq_1 ?_)
        refine Uc @bytesD.eq_1 (hd) (go1 @bytesD.eq_1 ?_)
        refine Uc @bytesD.eq_1 (h1) (go1 @bytesD.eq_1 ?_)
        refine Uc @bytesD.eq_1 (h2) (go1 @bytesD.eq_1 ?_)
        refine Uc @bytesD.eq_1 (h3) (go1 @bytesD.eq_1 ?_)
        exact Uc @bytesD.eq_1 (h3) (go0 @bytesD.eq_1)
    · exact Bg c_Z43 mixed (go0 @bytesD.eq_1)
  · exact Bg c_Z43 mixed (go0 @bytesD.eq_1)
theorem walk_FnFilterSplits (a : Option Addr) (len cap : Nat) (zs : List Int) (a' : Option Addr) (len' cap' : Nat) (zs' : List Int) (w : World) (h : IsRow .u8 w a len cap zs) (h' : IsRow .u8 w a' len' cap' zs') :
    Calls Tryz.prog 10 #[.slice a len cap, .slice a' len' cap'] w fun e W' => e = .returned (.bool true) ∧ Below w.heap.size w W' := walk_of2 does_FnFilterSplits a len cap zs a' len' cap' zs' w h h'
end Go.Proofs.YtibknjpbbeackaaGreat
