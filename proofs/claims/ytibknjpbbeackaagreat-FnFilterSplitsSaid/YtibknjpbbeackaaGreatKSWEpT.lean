/-
  The law of filters that are idempotent and commute. No condition.
-/
import Derived.Test.YtibknjpbbeackaaGreatKSDcWEpT
import Derived.Test.YtibknjpbbeackaaGreatKSDca
import Derived.Test.YtibknjpbbeackaaGreatJSVEpL
import Derived.Test.YtibknjpbbeackaaGreatJSVGo
set_option maxHeartbeats 4000000
set_option maxRecDepth 100000
set_option linter.unusedVariables false
set_option linter.unusedSimpArgs false
namespace Go.Proofs.YtibknjpbbeackaaGreat
open Go.RowKit
def lessE (k : Int) : E := twoE 7 (colE 0) (cstE ⟨false, k⟩)
def isOneE (c : Nat) : E := twoE 6 (colE c) (cstE ⟨false, 1⟩)
theorem lessE_ok {k n : Int} (hk : 0 ≤ k ∧ k ≤ 3) (hn : 1 ≤ n) (d : Nat) : eOk (lessE k) n (d + 1) := two_w (by decide) (col_ok (by omega) d) (cst_w (okV (by show (-9999 : Int) ≤ k; omega) (by show k ≤ 9999; omega) (by simp)) n d)
theorem isOneE_ok {c : Nat} {n : Int} (hc : (c : Int) < n) (d : Nat) : eOk (isOneE c) n (d + 1) := two_w (by decide) (col_ok hc d) (cst_w (okV (by decide) (by decide) (by simp)) n d)
theorem two_w1 (k c a : Int) : Does Tryz.prog 21 [] [I k, .agg [I 1, I c, Bo false, I 0, .nul], .agg [I 2, I 0, Bo false, I a, .nul]] (eD (twoE k (.mk 1 c ⟨false, 0⟩ []) (cstE ⟨false, a⟩))) [] :=
  (two_l k (.mk 1 c ⟨false, 0⟩ []) (cstE ⟨false, a⟩)).weak ⟨Sub.refl _, leaf_d 1 c ⟨false, 0⟩, leaf_d 2 0 ⟨false, a⟩, trivial⟩ (Sub.refl _)
theorem fi_fit {db : List Ta} {p : Pl} {e : E} (h : dbOk db) (hw : wsOk (natI (dbWs db))) (hs : psz p ≤ 1048576) (he : 1 ≤ wdV (natI (dbWs db)) p 7 → eOk e (wdV (natI (dbWs db)) p 7) 8) : fitB db (fiP e p) ↔ wdV (natI (dbWs db)) p 7 ≠ 0 := by
  unfold fitB
  rw [PV_t hw, fi_wd (wd_in hw hs (by decide)) he]
  exact ⟨fun x => x.2, fun x => ⟨h, x⟩⟩
theorem esz_less (k : Int) : esz (lessE k) = 3 := by
  unfold lessE twoE colE cstE
  rw [esz, eszL, eszL, eszL, esz, esz, eszL]
theorem esz_isOne (c : Nat) : esz (isOneE c) = 3 := by
  unfold isOneE twoE colE cstE
  rw [esz, eszL, eszL, eszL, esz, esz, eszL]
theorem does_FnFilterTwice (bs : List Nat) (hb : ∀ b, b ∈ bs → b < 256) (ms : List Nat) (hm : ∀ b, b ∈ ms → b < 256) : Does Tryz.prog 9 [] [bytesD bs, bytesD ms] (Bo true) [] := by
  by_cases hlen : bs.length ≤ 1048576
  · by_cases hlen2 : ms.length ≤ 1048576
    · obtain ⟨x, db, hd, hz, hdl, hsm, hrb⟩ := DrawEvalPlan_ok bs hb
      obtain ⟨h1, h2⟩ := EvalPlan_fn x (by omega) db (by omega) hsm.sz
      have h3 := equalTables_same (EP db x) (EP_small db x)
      by_cases hf : fitB db x
      · obtain ⟨n, hn, hwt, hdw, hT⟩ := fit_wt hf
        have hw := PV_ok hf.2
        have hn6 := hwt.pos hdw.wid
        have hTw := hT.wid
        rw [PV_t hw] at hn
        obtain ⟨c, rfl⟩ : ∃ c, n = c + 1 := ⟨n - 1, by omega⟩
        have hk : 0 ≤ (ms.length : Int) % 4 ∧ (ms.length : Int) % 4 ≤ 3 := by omega
        generalize hkk : (ms.length : Int) % 4 = k at hk
        have hkt : (ms.length : Int).tmod 4 = k := by rw [← hkk]; exact Int.tmod_eq_emod_of_nonneg (by omega)
        have t1 := two_w1 7 0 k
        have t2 := two_w1 6 (c : Int) 1
        have hwc : ((c + 1 : Nat) : Int) - 1 = (c : Int) := by omega
        have e7 : ∀ q, 1 ≤ wdV (natI (dbWs db)) q 7 → eOk (lessE k) (wdV (natI (dbWs db)) q 7) 8 := fun q h => lessE_ok hk h 7
        have ze : psz (fiP (lessE k) x) ≤ 1048576 := by rw [fi_psz, esz_less]; omega
        have zf : psz (fiP (isOneE c) x) ≤ 1048576 := by rw [fi_psz, esz_isOne]; omega
        have zb : psz (fiP (lessE k) (fiP (lessE k) x)) ≤ 1048576 := by rw [fi_psz, fi_psz, esz_less]; omega
        have zx : psz (fiP (lessE k) (fiP (isOneE c) x)) ≤ 1048576 := by rw [fi_psz, fi_psz, esz_less, esz_isOne]; omega
        have zy : psz (fiP (isOneE c) (fiP (lessE k) x)) ≤ 1048576 := by rw [fi_psz, fi_psz, esz_less, esz_isOne]; omega
        have ka := (EvalPlan_fn (fiP (lessE k) x) ze db (by omega) hsm.sz).1
        have kb := (EvalPlan_fn (fiP (lessE k) (fiP (lessE k) x)) zb db (by omega) hsm.sz).1
        have kx := (EvalPlan_fn (fiP (lessE k) (fiP (isOneE c) x)) zx db (by omega) hsm.sz).1
        have ky := (EvalPlan_fn (fiP (isOneE c) (fiP (lessE k) x)) zy db (by omega) hsm.sz).1
        have fe := filter_l (lessE k) x
        have ff := filter_l (isOneE c) x
        have fee := filter_l (lessE k) (fiP (lessE k) x)
        have fef := filter_l (lessE k) (fiP (isOneE c) x)
        have ffe := filter_l (isOneE c) (fiP (lessE k) x)
        have w6 : wdV (natI (dbWs db)) x 6 ≠ 0 → wdV (natI (dbWs db)) x 6 = ((c + 1 : Nat) : Int) := fun h => by rw [← hn]; exact (wd_mono x 6 8 (by decide) h).symm
        have i6 := wd_in hw (p := x) (by omega) (d := 6) (by decide)
        have we : wdV (natI (dbWs db)) (fiP (lessE k) x) 7 = wdV (natI (dbWs db)) x 6 := fi_wd i6 (fun h => lessE_ok hk h 7)
        have wf : wdV (natI (dbWs db)) (fiP (isOneE c) x) 7 = wdV (natI (dbWs db)) x 6 := fi_wd i6 (fun h => isOneE_ok (by rw [w6 (by omega)]; omega) 7)
        have gb := fi_fit (e := lessE k) hf.1 hw ze (e7 _)
        have gx := fi_fit (e := lessE k) hf.1 hw zf (e7 _)
        have gy := fi_fit (e := isOneE c) hf.1 hw ze (fun h => isOneE_ok (by rw [we, w6 (by omega)]; omega) 7)
        rw [we] at gb gy
        rw [wf] at gx
        have ha3 := equalTables_same (EP db (fiP (lessE k) x)) (EP_small db _)
        have hx3 := equalTables_same (EP db (fiP (lessE k) (fiP (isOneE c) x))) (EP_small db _)
        have hexy : EP db (fiP (isOneE c) (fiP (lessE k) x)) = EP db (fiP (lessE k) (fiP (isOneE c) x)) := by
          by_cases h6 : wdV (natI (dbWs db)) x 6 ≠ 0
          · rw [EP_t (gx.2 h6), EP_t (gy.2 h6)]; exact fi_swap hT _ _
          · rw [EP_f (fun h => h6 (gx.1 h)), EP_f (fun h => h6 (gy.1 h))]
        have hoxy : EO db (fiP (isOneE c) (fiP (lessE k) x)) = EO db (fiP (lessE k) (fiP (isOneE c) x)) := by
          by_cases h6 : wdV (natI (dbWs db)) x 6 ≠ 0
          · rw [EO_t (gx.2 h6), EO_t (gy.2 h6)]
          · rw [EO_f (fun h => h6 (gx.1 h)), EO_f (fun h => h6 (gy.1 h))]
        rw [hexy, hoxy] at ky
        have hab : EO db (fiP (lessE k) (fiP (lessE k) x)) = true → EO db (fiP (lessE k) x) = true ∧ EP db (fiP (lessE k) (fiP (lessE k) x)) = EP db (fiP (lessE k) x) := fun h => by
          have hg := gb.1 (of_decide_eq_true h)
          have h7 : wdV (natI (dbWs db)) x 7 ≠ 0 := by rw [wd_mono x 6 7 (by decide) hg]; exact hg
          have ga := (fi_fit (e := lessE k) hf.1 hw (show psz x ≤ 1048576 by omega) (e7 _)).2 h7
          exact ⟨EO_t ga, by rw [EP_t (gb.2 hg), EP_t ga]; exact fi_same hT _⟩
        rw [EO_t hf] at h1 h2
        rw [EP_t hf] at h1 h2 h3
        have hte := hT.eta
        generalize (evP db x).rows = rs at hte
        rw [hte] at h1 h2 h3
        generalize EP db (fiP (lessE k) (fiP (isOneE c) x)) = tx at *
        generalize EO db (fiP (lessE k) (fiP (isOneE c) x)) = ox at *
        have t1 : Does Tryz.prog 21 [] [I 7, .agg [I 1, I 0, Bo false, I 0, .nul], .agg [I 2, I 0, Bo false, I k, .nul]] (eD (lessE k)) [] := t1
        have t2 : Does Tryz.prog 21 [] [I 6, .agg [I 1, I c, Bo false, I 0, .nul], .agg [I 2, I 0, Bo false, I 1, .nul]] (eD (isOneE c)) [] := t2
        generalize fiP (lessE k) (fiP (isOneE c) x) = pfx at *
        generalize fiP (isOneE c) (fiP (lessE k) x) = pfy at *
        generalize hob : EO db (fiP (lessE k) (fiP (lessE k) x)) = ob at *
        cases ob with
        | true =>
          obtain ⟨hoa, heb⟩ := hab rfl
          rw [heb] at kb
          rw [hoa] at ka
          generalize EP db (fiP (lessE k) x) = ta at *
          generalize fiP (lessE k) (fiP (lessE k) x) = pee at *
          refine Bg c_Z54 mixed (go1 @bytesD.eq_1 ?_)
          refine Uc @bytesD.eq_1 (hd) (go1 @bytesD.eq_1 ?_)
          refine Uc @bytesD.eq_1 (h1) (go1 @bytesD.eq_1 ?_)
          refine Uc @bytesD.eq_1 (h2) (go1 @bytesD.eq_1 ?_)
          refine Uc (cj3 @bytesD.eq_1 @hkt @hkk) (h3) (go1 (cj3 @bytesD.eq_1 @hkt @hkk) ?_)
          refine Uc (cj3 @bytesD.eq_1 @hkt @hkk) (t1) (go1 (cj3 @bytesD.eq_1 @hkt @hkk) ?_)
          refine Uc (cj2 @bytesD.eq_1 @hwc) (t2) (go1 (cj2 @bytesD.eq_1 @hwc) ?_)
          refine Uc @bytesD.eq_1 (fe) (go1 @bytesD.eq_1 ?_)
          refine Uc @bytesD.eq_1 (ka) (go1 @bytesD.eq_1 ?_)
          refine Uc @bytesD.eq_1 (fe) (go1 @bytesD.eq_1 ?_)
          refine Uc @bytesD.eq_1 (fee) (go1 @bytesD.eq_1 ?_)
          refine Uc @bytesD.eq_1 (kb) (go1 @bytesD.eq_1 ?_)
          refine Uc @bytesD.eq_1 (ff) (go1 @bytesD.eq_1 ?_)
          refine Uc @bytesD.eq_1 (fef) (go1 @bytesD.eq_1 ?_)
          refine Uc @bytesD.eq_1 (kx) (go1 @bytesD.eq_1 ?_)
          refine Uc @bytesD.eq_1 (fe) (go1 @bytesD.eq_1 ?_)
          refine Uc @bytesD.eq_1 (ffe) (go1 @bytesD.eq_1 ?_)
          refine Uc @bytesD.eq_1 (ky) (go1 @bytesD.eq_1 ?_)
          refine Uc @bytesD.eq_1 (ha3) (go1 @bytesD.eq_1 ?_)
          exact Uc @bytesD.eq_1 (hx3) (go0 @bytesD.eq_1)
        | false =>
          generalize fiP (lessE k) (fiP (lessE k) x) = pee at *
          refine Bg c_Z54 mixed (go1 @bytesD.eq_1 ?_)
          refine Uc @bytesD.eq_1 (hd) (go1 @bytesD.eq_1 ?_)
          refine Uc @bytesD.eq_1 (h1) (go1 @bytesD.eq_1 ?_)
          refine Uc @bytesD.eq_1 (h2) (go1 @bytesD.eq_1 ?_)
          refine Uc (cj3 @bytesD.eq_1 @hkt @hkk) (h3) (go1 (cj3 @bytesD.eq_1 @hkt @hkk) ?_)
          refine Uc (cj3 @bytesD.eq_1 @hkt @hkk) (t1) (go1 (cj3 @bytesD.eq_1 @hkt @hkk) ?_)
          refine Uc (cj2 @bytesD.eq_1 @hwc) (t2) (go1 (cj2 @bytesD.eq_1 @hwc) ?_)
          refine Uc @bytesD.eq_1 (fe) (go1 @bytesD.eq_1 ?_)
          refine Uc @bytesD.eq_1 (ka) (go1 @bytesD.eq_1 ?_)
          refine Uc @bytesD.eq_1 (fe) (go1 @bytesD.eq_1 ?_)
          refine Uc @bytesD.eq_1 (fee) (go1 @bytesD.eq_1 ?_)
          refine Uc @bytesD.eq_1 (kb) (go1 @bytesD.eq_1 ?_)
          refine Uc @bytesD.eq_1 (ff) (go1 @bytesD.eq_1 ?_)
          refine Uc @bytesD.eq_1 (fef) (go1 @bytesD.eq_1 ?_)
          refine Uc @bytesD.eq_1 (kx) (go1 @bytesD.eq_1 ?_)
          refine Uc @bytesD.eq_1 (fe) (go1 @bytesD.eq_1 ?_)
          refine Uc @bytesD.eq_1 (ffe) (go1 @bytesD.eq_1 ?_)
          refine Uc @bytesD.eq_1 (ky) (go1 @bytesD.eq_1 ?_)
          exact Uc @bytesD.eq_1 (hx3) (go0 @bytesD.eq_1)
      · rw [EO_f hf] at h1 h2
        refine Bg c_Z54 mixed (go1 @bytesD.eq_1 ?_)
        refine Uc @bytesD.eq_1 (hd) (go1 @bytesD.eq_1 ?_)
        refine Uc @bytesD.eq_1 (h1) (go1 @bytesD.eq_1 ?_)
        refine Uc @bytesD.eq_1 (h2) (go1 @bytesD.eq_1 ?_)
        refine Uc @bytesD.eq_1 (h3) (go1 @bytesD.eq_1 ?_)
        exact Uc @bytesD.eq_1 (h3) (go0 @bytesD.eq_1)
    · exact Bg c_Z54 mixed (go0 @bytesD.eq_1)
  · exact Bg c_Z54 mixed (go0 @bytesD.eq_1)
theorem walk_FnFilterTwice (a : Option Addr) (len cap : Nat) (zs : List Int) (a' : Option Addr) (len' cap' : Nat) (zs' : List Int) (w : World) (h : IsRow .u8 w a len cap zs) (h' : IsRow .u8 w a' len' cap' zs') :
    Calls Tryz.prog 9 #[.slice a len cap, .slice a' len' cap'] w fun e W' => e = .returned (.bool true) ∧ Below w.heap.size w W' := walk_of2 does_FnFilterTwice a len cap zs a' len' cap' zs' w h h'
end Go.Proofs.YtibknjpbbeackaaGreat
