/-
  The law of filters by a constant. No condition.
-/
import Derived.Test.YtibknjpbbeackaaGreatKSDcWEpF
import Derived.Test.YtibknjpbbeackaaGreatKSDca
import Derived.Test.YtibknjpbbeackaaGreatJSDcg
import Derived.Test.YtibknjpbbeackaaGreatJSVPiQ
import Derived.Test.YtibknjpbbeackaaGreatJSVEvS
import Derived.Test.YtibknjpbbeackaaGreatJSVLaw
import Derived.Test.YtibknjpbbeackaaGreatJSVGo
set_option maxHeartbeats 4000000
set_option maxRecDepth 100000
set_option linter.unusedVariables false
set_option linter.unusedSimpArgs false
namespace Go.Proofs.YtibknjpbbeackaaGreat
open Go.RowKit
def fltP (e : E) (p : Pl) : Pl := .mk 2 0 [e] [] [p]
def cOne : E := .mk 2 0 ⟨false, 1⟩ []
def cNul : E := .mk 2 0 ⟨true, 0⟩ []
theorem cst_ok (v : V) (hv : v.ok) (n : Int) (d : Nat) : eOk (.mk 2 0 v []) n d := by
  rw [eOk]
  exact ⟨rfl, fun h => absurd h (by decide), by rw [eOkL]; trivial, by unfold leafOk; rw [if_neg (by decide), if_pos rfl]; exact ⟨rfl, hv⟩⟩
theorem oneE_ok (n : Int) : eOk cOne n 8 := cst_ok _ (okV (by decide) (by decide) (by simp)) n 8
theorem nulE_ok (n : Int) : eOk cNul n 8 := cst_ok _ (okV (by decide) (by decide) (by simp)) n 8
theorem flt_wd {ws : List Int} (hw : wsOk ws) {p : Pl} (hs : psz p ≤ 1048576) {e : E} (he : ∀ n : Int, eOk e n 8) : wdV ws (fltP e p) 8 = wdV ws p 7 := by
  have hr := (width_fn hw p hs 7 (by decide)).1
  have hf : fields (fltP e p) := by
    simp [fields, fltP, Pl.k, Pl.ks, Pl.es, Pl.cs, Pl.t]
  rw [wd_eq, if_pos hf, if_neg (show ¬ (fltP e p).k = 1 from fun h => absurd h (by decide : ¬ (2 : Int) = 1)), if_neg (by decide)]
  show resV (fltP e p) [wdV ws p 7] = wdV ws p 7
  generalize wdV ws p 7 = n at hr ⊢
  by_cases h0 : n = 0
  · rw [resV_z ⟨0, by rw [h0]; rfl⟩, h0]
  · have hz : ¬ zeroIn [n] := by
      rintro ⟨j, hj⟩
      cases j with
      | zero => exact h0 (by simpa using hj)
      | succ j => simp at hj
    have hv : fitsV (fltP e p) [n] := by
      unfold fitsV
      rw [if_neg (show ¬ (fltP e p).k = 6 from fun h => absurd h (by decide : ¬ (2 : Int) = 6)), if_neg (show ¬ (fltP e p).k = 8 from fun h => absurd h (by decide : ¬ (2 : Int) = 8))]
      intro j x hj
      have hsum : [n].sum = n := by simp
      rw [hsum]
      have hx : x = e := by
        cases j with
        | zero => exact (by simpa [fltP, Pl.es] using hj.symm)
        | succ j => simp [fltP, Pl.es] at hj
      rw [hx]
      exact ⟨by omega, he n⟩
    rw [resV_t hz ⟨hf, fun h => absurd (show (2 : Int) = 3 from h) (by decide)⟩ hv]
    rfl
theorem flt_fit {db : List Ta} {p : Pl} (h : dbOk db) (hw : wsOk (natI (dbWs db))) (hs : psz p ≤ 1048576) {e : E} (he : ∀ n : Int, eOk e n 8) : fitB db (fltP e p) ↔ wdV (natI (dbWs db)) p 7 ≠ 0 := by
  unfold fitB
  rw [PV_t hw, flt_wd hw hs he]
  exact ⟨fun x => x.2, fun x => ⟨h, x⟩⟩
theorem flt_ev (db : List Ta) (p : Pl) (e : E) : evP db (fltP e p) = tabT (evP db p).w ((evP db p).rows.filter (holdsB e)) := by
  rw [evP_1 (q := p) rfl]
  unfold opT
  rw [if_neg (show ¬ (fltP e p).k = 1 from fun h => absurd h (by decide : ¬ (2 : Int) = 1)), if_pos (show (fltP e p).k = 2 from rfl)]
  rfl
theorem one_holds (r : List V) : holdsB cOne r = true := by unfold holdsB cOne; rw [ev]; rfl
theorem nul_holds (r : List V) : holdsB cNul r = false := by unfold holdsB cNul; rw [ev]; rfl
theorem flt_one {db : List Ta} {p : Pl} {n : Nat} (h : TabW n (evP db p)) : evP db (fltP cOne p) = evP db p := by
  rw [flt_ev, List.filter_eq_self.2 (fun r _ => one_holds r), tabT_s h.few, srt_of_asc h.row h.asc]
theorem flt_nul (db : List Ta) (p : Pl) : evP db (fltP cNul p) = ⟨(evP db p).w, []⟩ := by
  rw [flt_ev, List.filter_eq_nil_iff.2 (fun r _ => by rw [nul_holds]; decide), tabT_s (by decide)]
  rfl
theorem lfilter_ok (e : E) (x : Pl) : Does Tryz.prog 19 [] [eD e, pD x] (pD (.mk 2 0 [e] [] [x])) [] := by
  refine Bg c_Z169 mixed (go1 trivial ?_)
  have h : Sub (.agg [I 2, I 0, .sl 5 [eD e], .nul, .sl 5 [pD x]]) (pD (.mk 2 0 [e] [] [x])) := plS (Sub.refl _) (Sub.nul 1) (Sub.refl _)
  simp only [go_sem] at h
  exact h
theorem cst_s (v : V) : Sub (.agg [I 2, I 0, Bo v.b, I v.n, .nul]) (eD (.mk 2 0 v [])) := by
  rw [eD]
  exact Sub.agg ⟨Sub.refl _, Sub.refl _, Sub.refl _, Sub.refl _, Sub.nul 5, trivial⟩
theorem psz_flt (v : V) (x : Pl) : psz (fltP (.mk 2 0 v []) x) = psz x + 2 := by
  unfold fltP
  rw [psz, eszL, eszL, esz, eszL, pszL, pszL, List.length_nil]
  omega
theorem does_FnFilterConstant (bs : List Nat) (hb : ∀ b, b ∈ bs → b < 256) : Does Tryz.prog 3 [] [bytesD bs] (Bo true) [] := by
  by_cases hlen : bs.length ≤ 1048576
  · obtain ⟨x, db, hd, hz, hdl, hsm, _⟩ := DrawEvalPlan_ok bs hb
    obtain ⟨h1, h2⟩ := EvalPlan_fn x (by omega) db (by omega) hsm.sz
    have h3 := equalTables_same (EP db x) (EP_small db x)
    by_cases hf : fitB db x
    · obtain ⟨n, _, _, _, hT⟩ := fit_wt hf
      have hw := PV_ok hf.2
      have hz1 : psz (fltP cOne x) ≤ 1048576 := by rw [show psz (fltP cOne x) = psz x + 2 from psz_flt _ x]; omega
      have hz2 : psz (fltP cNul x) ≤ 1048576 := by rw [show psz (fltP cNul x) = psz x + 2 from psz_flt _ x]; omega
      have k1 := (EvalPlan_fn (fltP cOne x) hz1 db (by omega) hsm.sz).1
      have k2 := (EvalPlan_fn (fltP cNul x) hz2 db (by omega) hsm.sz).1
      have f1 : Does Tryz.prog 19 [] [.agg [I 2, I 0, Bo false, I 1, .nul], pD x] (pD (fltP cOne x)) [] := (lfilter_ok cOne x).weak ⟨show Sub _ (eD (.mk 2 0 ⟨false, 1⟩ [])) from cst_s ⟨false, 1⟩, Sub.refl _, trivial⟩ (Sub.refl _)
      have f2 : Does Tryz.prog 19 [] [.agg [I 2, I 0, Bo true, I 0, .nul], pD x] (pD (fltP cNul x)) [] := (lfilter_ok cNul x).weak ⟨show Sub _ (eD (.mk 2 0 ⟨true, 0⟩ [])) from cst_s ⟨true, 0⟩, Sub.refl _, trivial⟩ (Sub.refl _)
      have e1 := flt_fit (e := cOne) hf.1 hw (by omega : psz x ≤ 1048576) oneE_ok
      have e2 := flt_fit (e := cNul) hf.1 hw (by omega : psz x ≤ 1048576) nulE_ok
      by_cases hg : wdV (natI (dbWs db)) x 7 ≠ 0
      · rw [EP_t (e1.2 hg), EO_t (e1.2 hg), flt_one hT] at k1
        rw [EP_t (e2.2 hg), EO_t (e2.2 hg), flt_nul] at k2
        rw [EO_t hf] at h1 h2
        rw [EP_t hf] at h1 h2 h3
        generalize evP db x = t at *
        refine Bg c_Z30 mixed (go1 @bytesD.eq_1 ?_)
        refine Uc @bytesD.eq_1 (hd) (go1 @bytesD.eq_1 ?_)
        refine Uc @bytesD.eq_1 (h1) (go1 @bytesD.eq_1 ?_)
        refine Uc @bytesD.eq_1 (h2) (go1 @bytesD.eq_1 ?_)
        refine Uc @bytesD.eq_1 (h3) (go1 @bytesD.eq_1 ?_)
        refine Uc @bytesD.eq_1 (f1) (go1 @bytesD.eq_1 ?_)
        refine Uc @bytesD.eq_1 (k1) (go1 @bytesD.eq_1 ?_)
        refine Uc @bytesD.eq_1 (f2) (go1 @bytesD.eq_1 ?_)
        refine Uc @bytesD.eq_1 (k2) (go1 @bytesD.eq_1 ?_)
        refine c_doesE (h3) ?_ ?_ ?_
        · ((try (conv=>rhs;simp (disch:=omega) only [go_sem, bytesD, List.length_map, beq_self_eq_true, bne_self_eq_false, rowsD, List.map_nil, List.length_nil])); try rfl)
        · first|rfl|(conv=>lhs;simp only [go_sem, bytesD, List.length_map, beq_self_eq_true, bne_self_eq_false, rowsD, List.map_nil, List.length_nil])
        repeat' (first|with_reducible refine acc_none ?_ | (conv in hold _=>simp (disch:=omega) only [go_sem, bytesD, List.length_map, beq_self_eq_true, bne_self_eq_false, rowsD, List.map_nil, List.length_nil])|refine Stp.go ?_|(with_reducible first|refine it_pos rfl ?_|refine it_neg (by decide) ?_|refine st_nil rfl ?_|refine s_op ?_ ?_|exact trivial)|((with_reducible first|refine dw_reg0 ?_|refine dw_regB ?_);(conv=>arg 3;whnf))|(refine Spl.go (fun hq he=>?_) (fun hq he=>?_)<;>first|(exfalso;clear hq;omega)|((try first|(conv=>arg 8;simp only [hq])|(conv=>arg 4;simp only [hq]));clear hq))|((with_reducible first|refine c_split (fun hq=>?_) (fun hq=>?_)|refine q_split (fun hq=>?_) (fun hq=>?_))<;>(try first|(conv=>arg 8;simp only [hq])|(conv=>arg 4;simp only [hq])))|(with_reducible refine fin_0 ?_ (by first|rfl|(conv=>lhs;simp only [go_sem, bytesD, List.length_map, beq_self_eq_true, bne_self_eq_false, rowsD, List.map_nil, List.length_nil])) ?_)|exact Sub.refl _|omega)
      · rw [EP_f (fun h => hg (e1.1 h)), EO_f (fun h => hg (e1.1 h))] at k1
        rw [EP_f (fun h => hg (e2.1 h)), EO_f (fun h => hg (e2.1 h))] at k2
        rw [EO_t hf] at h1 h2
        refine Bg c_Z30 mixed (go1 @bytesD.eq_1 ?_)
        refine Uc @bytesD.eq_1 (hd) (go1 @bytesD.eq_1 ?_)
        refine Uc @bytesD.eq_1 (h1) (go1 @bytesD.eq_1 ?_)
        refine Uc @bytesD.eq_1 (h2) (go1 @bytesD.eq_1 ?_)
        refine Uc @bytesD.eq_1 (h3) (go1 @bytesD.eq_1 ?_)
        refine Uc @bytesD.eq_1 (f1) (go1 @bytesD.eq_1 ?_)
        refine Uc @bytesD.eq_1 (k1) (go1 @bytesD.eq_1 ?_)
        refine Uc @bytesD.eq_1 (f2) (go1 @bytesD.eq_1 ?_)
        exact Uc @bytesD.eq_1 (k2) (go0 @bytesD.eq_1)
    · rw [EO_f hf] at h1 h2
      refine Bg c_Z30 mixed (go1 @bytesD.eq_1 ?_)
      refine Uc @bytesD.eq_1 (hd) (go1 @bytesD.eq_1 ?_)
      refine Uc @bytesD.eq_1 (h1) (go1 @bytesD.eq_1 ?_)
      refine Uc @bytesD.eq_1 (h2) (go1 @bytesD.eq_1 ?_)
      refine Uc @bytesD.eq_1 (h3) (go1 @bytesD.eq_1 ?_)
      exact Uc @bytesD.eq_1 (h3) (go0 @bytesD.eq_1)
  · exact Bg c_Z30 mixed (go0 @bytesD.eq_1)
theorem walk_FnFilterConstant (a : Option Addr) (len cap : Nat) (zs : List Int) (w : World) (h : IsRow .u8 w a len cap zs) :
    Calls Tryz.prog 3 #[.slice a len cap] w fun e W' => e = .returned (.bool true) ∧ Below w.heap.size w W' := walk_of does_FnFilterConstant a len cap zs w h
end Go.Proofs.YtibknjpbbeackaaGreat
