/-
  The law that distinct absorbs duplicates. No condition.
-/
import Derived.Test.YtibknjpbbeackaaGreatKSDcWEpD
import Derived.Test.YtibknjpbbeackaaGreatKSDca
import Derived.Test.YtibknjpbbeackaaGreatJSVCplE
import Derived.Test.YtibknjpbbeackaaGreatJSVDst
import Derived.Test.YtibknjpbbeackaaGreatKSVCmp
import Derived.Test.YtibknjpbbeackaaGreatKSWEpG
import Derived.Test.YtibknjpbbeackaaGreatJSVGo
set_option maxHeartbeats 4000000
set_option maxRecDepth 100000
set_option linter.unusedVariables false
set_option linter.unusedSimpArgs false
namespace Go.Proofs.YtibknjpbbeackaaGreat
open Go.RowKit
theorem du_s (x : Pl) : Sub (.agg [I 7, I 0, .nul, .nul, .sl 5 [.agg [I 6, I 0, .nul, .nul, .sl 5 [pD x, pD x]]]]) (pD (diP (unP x x))) :=
  plS (Sub.nul 5) (Sub.nul 1) (plOne ⟨Sub.refl _, Sub.refl _, Sub.nul 5, Sub.nul 1, Sub.refl _, trivial⟩)
theorem du_ev {db : List Ta} {x : Pl} {n : Nat} (h : TabW n (evP db x)) (hl : (evP db x).rows.length + (evP db x).rows.length ≤ 400) : evP db (diP (unP x x)) = ⟨(evP db x).w, dstL (evP db x).rows (evP db x).rows.length⟩ := by
  have hr := rsw_app h.row h.row
  rw [di_ev, un_ev, tabT_s (by rw [List.length_append]; exact hl)]
  show Ta.mk _ _ = Ta.mk _ _
  rw [dst_set (srt_rsw hr) h.row (srt_asc hr) h.asc (fun y => by rw [mem_srt, List.mem_append]; exact ⟨fun h => h.elim id id, Or.inl⟩)]
theorem does_FnDistinctUnion (bs : List Nat) (hb : ∀ b, b ∈ bs → b < 256) : Does Tryz.prog 5 [] [bytesD bs] (Bo true) [] := by
  by_cases hlen : bs.length ≤ 1048576
  · obtain ⟨x, db, hd, hz, hdl, hsm, hrb⟩ := DrawEvalPlan_ok bs hb
    obtain ⟨h1, h2⟩ := EvalPlan_fn x (by omega) db (by omega) hsm.sz
    have h3 := equalTables_same (EP db x) (EP_small db x)
    by_cases hf : fitB db x
    · obtain ⟨n, hn, hwt, hdw, hT⟩ := fit_wt hf
      have hn6 := hwt.pos hdw.wid
      have hb1 := hrb (fit_fields hf)
      have hb2 := wt_bound hsm hwt
      have z0 : psz (unP x x) = psz x + psz x + 2 := by unfold unP; rw [psk_two, eszL]; simp only [List.length_nil]; omega
      have z1 : psz (diP (unP x x)) ≤ 1048576 := by unfold diP; rw [psk_one, eszL, z0]; simp only [List.length_nil]; omega
      have k1 := ((EvalPlan_fn _ z1 db (by omega) hsm.sz).1).weak (es := [.agg [I 7, I 0, .nul, .nul, .sl 5 [.agg [I 6, I 0, .nul, .nul, .sl 5 [pD x, pD x]]]], tasD db]) ⟨du_s x, Sub.refl _, trivial⟩ (Sub.refl _)
      have hev := du_ev hT (by omega)
      rw [EO_t hf] at h1 h2
      rw [EP_t hf] at h1 h2 h3
      have hte := hT.eta
      have hok : tOk (evP db x) := by rw [hte]; exact tOk_of hn6 hT.few hT.row hT.asc
      have k2 := DistinctRows_impl_t hok
      have hds := dstL_sub (evP db x).rows (evP db x).rows.length (Nat.le_refl _)
      rw [List.take_length] at hds
      have hk : EO db (diP (unP x x)) = true → EP db (diP (unP x x)) = ⟨(evP db x).w, dstL (evP db x).rows (evP db x).rows.length⟩ := fun h => by rw [EP_t (of_decide_eq_true h)]; exact hev
      have h4 := equalTables_same ⟨(evP db x).w, dstL (evP db x).rows (evP db x).rows.length⟩ (small_ok (by rw [hT.wid]; exact tOk_of hn6 (Nat.le_trans hds.length_le hT.few) (rsw_sub hds hT.row) (asc_sub hds hT.asc)))
      generalize EO db (diP (unP x x)) = o at hk k1
      generalize EP db (diP (unP x x)) = t1 at hk k1
      generalize dstL (evP db x).rows (evP db x).rows.length = ds at *
      generalize evP db x = t at *
      cases o with
      | true =>
        obtain rfl := hk rfl
        refine Bg c_Z38 mixed (go1 @bytesD.eq_1 ?_)
        refine Uc @bytesD.eq_1 (hd) (go1 @bytesD.eq_1 ?_)
        refine Uc @bytesD.eq_1 (h1) (go1 @bytesD.eq_1 ?_)
        refine Uc @bytesD.eq_1 (h2) (go1 @bytesD.eq_1 ?_)
        refine Uc @bytesD.eq_1 (h3) (go1 @bytesD.eq_1 ?_)
        refine Uc @bytesD.eq_1 (k1) (go1 @bytesD.eq_1 ?_)
        refine Uc @bytesD.eq_1 (k2) (go1 @bytesD.eq_1 ?_)
        exact Uc @bytesD.eq_1 (h4) (go0 @bytesD.eq_1)
      | false =>
        refine Bg c_Z38 mixed (go1 @bytesD.eq_1 ?_)
        refine Uc @bytesD.eq_1 (hd) (go1 @bytesD.eq_1 ?_)
        refine Uc @bytesD.eq_1 (h1) (go1 @bytesD.eq_1 ?_)
        refine Uc @bytesD.eq_1 (h2) (go1 @bytesD.eq_1 ?_)
        refine Uc @bytesD.eq_1 (h3) (go1 @bytesD.eq_1 ?_)
        refine Uc @bytesD.eq_1 (k1) (go1 @bytesD.eq_1 ?_)
        exact Uc @bytesD.eq_1 (k2) (go0 @bytesD.eq_1)
    · rw [EO_f hf] at h1 h2
      refine Bg c_Z38 mixed (go1 @bytesD.eq_1 ?_)
      refine Uc @bytesD.eq_1 (hd) (go1 @bytesD.eq_1 ?_)
      refine Uc @bytesD.eq_1 (h1) (go1 @bytesD.eq_1 ?_)
      refine Uc @bytesD.eq_1 (h2) (go1 @bytesD.eq_1 ?_)
      refine Uc @bytesD.eq_1 (h3) (go1 @bytesD.eq_1 ?_)
      exact Uc @bytesD.eq_1 (h3) (go0 @bytesD.eq_1)
  · exact Bg c_Z38 mixed (go0 @bytesD.eq_1)
theorem walk_FnDistinctUnion (a : Option Addr) (len cap : Nat) (zs : List Int) (w : World) (h : IsRow .u8 w a len cap zs) :
    Calls Tryz.prog 5 #[.slice a len cap] w fun e W' => e = .returned (.bool true) ∧ Below w.heap.size w W' := walk_of does_FnDistinctUnion a len cap zs w h
end Go.Proofs.YtibknjpbbeackaaGreat
