/-
  The law that a left join contains the join. No condition.
-/
import Derived.Test.YtibknjpbbeackaaGreatJSDcWEpI
import Derived.Test.YtibknjpbbeackaaGreatKSDca
import Derived.Test.YtibknjpbbeackaaGreatJSVEpL
import Derived.Test.YtibknjpbbeackaaGreatJSVPiD
import Derived.Test.YtibknjpbbeackaaGreatJSVGo
set_option maxHeartbeats 4000000
set_option maxRecDepth 100000
set_option linter.unusedVariables false
set_option linter.unusedSimpArgs false
namespace Go.Proofs.YtibknjpbbeackaaGreat
open Go.RowKit
theorem jo_fit {db : List Ta} {k k' : Int} (hk : k = 4 ∨ k = 5) (hk' : k' = 4 ∨ k' = 5) {e : E} {q r : Pl} (h : fitB db (joP k e q r)) : fitB db (joP k' e q r) := by
  have hw := PV_ok h.2
  have h2 := h.2
  refine ⟨h.1, ?_⟩
  rw [PV_t hw] at h2 ⊢
  obtain ⟨⟨_, hv⟩, _, hkid⟩ := wd_fit h2 (show ¬ k = 1 by omega)
  have hq := hkid q (List.mem_cons_self ..)
  have hr := hkid r (List.mem_cons_of_mem _ (List.mem_cons_self ..))
  unfold fitsV at hv
  rw [if_neg (show ¬ (joP k e q r).k = 6 from fun h => by have h : k = 6 := h; omega), if_neg (show ¬ (joP k e q r).k = 8 from fun h => by have h : k = 8 := h; omega)] at hv
  have hsum : ((joP k e q r).ks.map (fun x => wdV (natI (dbWs db)) x (8 - 1))).sum = wdV (natI (dbWs db)) q 7 + wdV (natI (dbWs db)) r 7 := by simp [joP, Pl.ks]
  have hv : (1 ≤ wdV (natI (dbWs db)) q 7 + wdV (natI (dbWs db)) r 7 ∧ wdV (natI (dbWs db)) q 7 + wdV (natI (dbWs db)) r 7 ≤ 6) ∧ eOk e (wdV (natI (dbWs db)) q 7 + wdV (natI (dbWs db)) r 7) 8 := by
    rw [← hsum]
    exact hv 0 e rfl
  have hr1 := hv.1.1
  rw [jo_wd (d := 7) hk' hq hr hv.1 hv.2]
  intro h0
  rw [h0] at hr1
  exact absurd hr1 (by decide)
theorem does_FnJoinInLeftJoin (bs : List Nat) (hb : ∀ b, b ∈ bs → b < 256) : Does Tryz.prog 12 [] [bytesD bs] (Bo true) [] := by
  by_cases hlen : bs.length ≤ 1048576
  · obtain ⟨x, db, hd, hz, hdl, hsm, hrb⟩ := DrawEvalPlan_ok bs hb
    obtain ⟨h1, h2⟩ := EvalPlan_fn x (by omega) db (by omega) hsm.sz
    have h3 := equalTables_same (EP db x) (EP_small db x)
    by_cases hf : fitB db x
    · by_cases hk : x.k = 5
      · obtain ⟨e, q, r, wa, wb, hx, ⟨hwq, hwr⟩, hTa, hTb, hw6, hT⟩ := fit_join hf (Or.inr hk)
        have hx := hk ▸ hx
        have hb1 := hrb (fit_fields hf)
        have hbq := wt_bound hsm hwq
        have hbr := wt_bound hsm hwr
        have hks : x.ks = [q, r] := by rw [hx]; rfl
        have hes : x.es = [e] := by rw [hx]; rfl
        have hrx : rb x = rb q * (rb r + 1) := by rw [rb_2 hks, hk]; rfl
        have hmul := Nat.mul_le_mul hbq (Nat.succ_le_succ hbr)
        have hg : fitB db (joP 4 e q r) := jo_fit (Or.inr rfl) (Or.inl rfl) (hx ▸ hf)
        have hzx : psz x = eszL [e] + 0 + psz q + psz r + 2 := by rw [hx]; exact psk_two ..
        have hz2 : psz (joP 4 e q r) ≤ 1048576 := by
          unfold joP
          rw [psk_two]
          simp only [List.length_nil]
          omega
        have k1 := (EvalPlan_fn (joP 4 e q r) hz2 db (by omega) hsm.sz).1
        have k2 : Does Tryz.prog 16 [] [.agg [I 4, I 0, .sl 5 [eD e], .nul, .sl 5 [pD q, pD r]], tasD db] (.tup [taD (EP db (joP 4 e q r)), Bo (EO db (joP 4 e q r))]) [] := k1.weak ⟨plS (Sub.refl _) (Sub.nul 1) (Sub.refl _), Sub.refl _, trivial⟩ (Sub.refl _)
        rw [EO_t hf] at h1 h2
        rw [EP_t hf] at h1 h2 h3
        rw [EP_t hg, EO_t hg] at k2
        have hTj : TabW (wa + wb) (evP db (joP 4 e q r)) := by
          have h := tabT_w (rsw_joi hTa.row hTb.row false e)
          rw [jo_ev (Or.inl rfl), hTa.wid, hTb.wid]
          exact h
        have h60 : rb q * (rb r + 1) ≤ 400 := by rw [← hrx]; omega
        have hl1 : (joiL true wb e (evP db q).rows (evP db r).rows).length ≤ 400 := Nat.le_trans (joiL_len true wb e (evP db r).rows (evP db q).rows) (Nat.le_trans hmul h60)
        have hl2 : (joiL false wb e (evP db q).rows (evP db r).rows).length ≤ 400 := Nat.le_trans (joiL_len false wb e (evP db r).rows (evP db q).rows) (Nat.le_trans hmul h60)
        have hsub : subT (evP db (joP 4 e q r)) (evP db x) := by
          refine ⟨⟨?_, ?_, ?_⟩, fun y => ?_⟩
          · rw [hTj.eta]; exact tOk_of (by omega) hTj.few hTj.row hTj.asc
          · rw [hT.eta]; exact tOk_of (by omega) hT.few hT.row hT.asc
          · rw [hTj.wid, hT.wid]
          · have hwb : ((wb : Int)).toNat = wb := rfl
            rw [hx, jo_ev (Or.inl rfl), jo_ev (Or.inr rfl), hTb.wid, hwb, show ((4 : Int) == 5) = false from rfl, show ((5 : Int) == 5) = true from rfl, tabT_s hl2, tabT_s hl1]
            show cntE y (srt _) ≤ cntE y (srt _)
            rw [cntE_srt, cntE_srt]
            exact cnt_sub (joi_sub wb e _ _)
        have hoj := hsub.1.1
        have hox := hsub.1.2.1
        have k3 := IsSubtable_impl (tOk_sz hoj) (tOk_sz hox)
        rw [decide_eq_true hsub] at k3
        generalize evP db x = t at *
        generalize evP db (joP 4 e q r) = tj at *
        refine Bg c_Z32 mixed (go1 @bytesD.eq_1 ?_)
        refine Uc @bytesD.eq_1 (hd) (go1 @bytesD.eq_1 ?_)
        refine Uc @bytesD.eq_1 (h1) (go1 @bytesD.eq_1 ?_)
        refine Uc @bytesD.eq_1 (h2) (go1 @bytesD.eq_1 ?_)
        refine Uc (cj4 @bytesD.eq_1 @hk @hks @hes) (h3) (go1 (cj4 @bytesD.eq_1 @hk @hks @hes) ?_)
        refine Uc (cj4 @bytesD.eq_1 @hk @hks @hes) (k2) (go1 (cj4 @bytesD.eq_1 @hk @hks @hes) ?_)
        exact Uc @bytesD.eq_1 (k3) (go0 @bytesD.eq_1)
      · rw [EO_t hf] at h1 h2
        rw [EP_t hf] at h1 h2 h3
        generalize evP db x = t at *
        refine Bg c_Z32 mixed (go1 @bytesD.eq_1 ?_)
        refine Uc @bytesD.eq_1 (hd) (go1 @bytesD.eq_1 ?_)
        refine Uc @bytesD.eq_1 (h1) (go1 @bytesD.eq_1 ?_)
        refine Uc @bytesD.eq_1 (h2) (go1 @bytesD.eq_1 ?_)
        refine Uc @bytesD.eq_1 (h3) (go1 @bytesD.eq_1 ?_)
        exact Uc @bytesD.eq_1 (h3) (go0 @bytesD.eq_1)
    · rw [EO_f hf] at h1 h2
      refine Bg c_Z32 mixed (go1 @bytesD.eq_1 ?_)
      refine Uc @bytesD.eq_1 (hd) (go1 @bytesD.eq_1 ?_)
      refine Uc @bytesD.eq_1 (h1) (go1 @bytesD.eq_1 ?_)
      refine Uc @bytesD.eq_1 (h2) (go1 @bytesD.eq_1 ?_)
      refine Uc @bytesD.eq_1 (h3) (go1 @bytesD.eq_1 ?_)
      exact Uc @bytesD.eq_1 (h3) (go0 @bytesD.eq_1)
  · exact Bg c_Z32 mixed (go0 @bytesD.eq_1)
theorem walk_FnJoinInLeftJoin (a : Option Addr) (len cap : Nat) (zs : List Int) (w : World) (h : IsRow .u8 w a len cap zs) :
    Calls Tryz.prog 12 #[.slice a len cap] w fun e W' => e = .returned (.bool true) ∧ Below w.heap.size w W' := walk_of does_FnJoinInLeftJoin a len cap zs w h
end Go.Proofs.YtibknjpbbeackaaGreat
namespace Go.Proofs.YtibknjpbbeackaaGreat.fnJoinInLeftJoin
open Go.ChangeShapes Go.WideShapes Go.ChangeAt Go.RowKit Go.Joins
set_option linter.unusedVariables false
set_option maxHeartbeats 4000000
set_option maxRecDepth 100000 in
theorem lifted (os : Os) (started : os.Started) (H : Type) (enc : TypeId × Value → H) :
    ReturnsInHanded {} Tryz.checked os 12 .any (Rows.fnJoinInLeftJoinSpec.pre6 enc Tryz.prog Tryz.f12 Rows.fnJoinInLeftJoinRow.domain false) (Rows.fnJoinInLeftJoinSpec.post enc Tryz.prog Tryz.f12 false true false false) := by
  refine returnsInHanded_of_change (C := Tryz.checked) own started (by kernel_rfl) Tryz.func12
    (ChangeSpec.witness6 (enc := enc) (C := Tryz.checked) false ⟨#[], #[.slice none 0 0], []⟩ 8 (by kernel_rfl) (by kernel_rfl) (by kernel_rfl) (by kernel_rfl)) ?_
  intro W base args ds gs before hval0 hW hcnd _
  have hval : ∀ (j : Nat) t v, Tryz.f12.params[j]? = some t → args[j]? = some v → Value.okWide Tryz.prog W .any base t v := hval0
  have hW' := hW
  obtain ⟨p, q, hA0, hV, rfl, hfz, hnd⟩ := hW
  have hA : DataW.TrodAll enc Tryz.prog W 0 (fun _ => true) true Tryz.f12.params.toList args.toList ds p := hA0
  rw [Tryz.params12] at hA hval
  obtain ⟨v0, vs0, d0, ds0, p0, q0, hargs, rfl, rfl, h0, r0⟩ := trodAll_cons hA
  obtain ⟨rfl, rfl, rfl⟩ := trodAll_nil r0
  obtain rfl : args = #[v0] := by cases args; simp_all
  obtain ⟨rfl, rfl⟩ := trodVars_none hV
  have k0 := h0
  have lt0 : ∀ x ∈ p0, x.block < W.heap.size := by obtain ⟨m, hm⟩ := k0; exact DataW.trod_lt m _ _ _ hm
  obtain ⟨a0, len0, cap0, z0, hv0, wr0⟩ := open_code (hval 0 22 v0 rfl rfl) h0
  subst hv0
  clear hA0 hval0
  refine (walk_FnJoinInLeftJoin a0 len0 cap0 z0 W wr0).mono fun e W' ⟨he, bel⟩ => ?_
  subst he
  exact ⟨_, rfl, _, _, _, [], _, [], hW', trodAll_mk1 (shut_bool Tryz.underlying4 _), (trodAll_cons_mk (Below.trod laidOut (by kernel_rfl) (of_decide_eq_true (by kernel_rfl)) k0 bel lt0) trodAll_mk0), rfl, bel.frame _, fun h => by cases h⟩
theorem closed : joinedFacts Tryz.prog 12 Tryz.f12 Rows.fnJoinInLeftJoinSpec Rows.fnJoinInLeftJoinRow = true := by
  unfold joinedFacts
  exact Facts.and2 (Facts.and2 (Facts.and2 (Facts.and2 (Facts.and2 (Facts.and2 (Facts.and2 (Facts.and2 (Facts.and2 (Facts.and2 (Facts.and2 (Facts.and2 (Facts.and2 (Facts.and2 (Facts.and2 (Facts.and2 (Facts.and2 (Facts.and2 (Facts.and2 (Facts.and2 (Facts.and2 (Facts.and2 (Facts.and2 (Facts.and2 (Facts.and2 (Facts.and2 (Facts.and2 (Facts.and2 (Facts.and2 (Facts.and2 (Facts.and2 ((by as_aux_lemma => kernel_rfl)) Facts.p2) Facts.p3) (by as_aux_lemma => kernel_rfl)) (by as_aux_lemma => kernel_rfl)) (by as_aux_lemma => kernel_rfl)) Facts.p7) (by as_aux_lemma => kernel_rfl)) Facts.p9) (by as_aux_lemma => kernel_rfl)) (by as_aux_lemma => kernel_rfl)) (by as_aux_lemma => kernel_rfl)) (by as_aux_lemma => kernel_rfl)) (by as_aux_lemma => kernel_rfl)) (by as_aux_lemma => kernel_rfl)) (by as_aux_lemma => kernel_rfl)) (by as_aux_lemma => kernel_rfl)) (by as_aux_lemma => kernel_rfl)) (by as_aux_lemma => kernel_rfl)) (by as_aux_lemma => kernel_rfl)) (by as_aux_lemma => kernel_rfl)) (by as_aux_lemma => kernel_rfl)) Facts.p22) (by as_aux_lemma => kernel_rfl)) Facts.p23b) Facts.p24) Facts.p24b) Facts.p24c) (by as_aux_lemma => kernel_rfl)) (by as_aux_lemma => kernel_rfl)) (by as_aux_lemma => kernel_rfl)) (by as_aux_lemma => kernel_rfl)
theorem over : Rows.fnJoinInLeftJoinRow.holds Tryz.pinned (OpenSpec.ofChange Rows.fnJoinInLeftJoinSpec) :=
  OpenClaim.holds_of_wide 12 Tryz.f12 rfl rfl rfl rfl rfl rfl rfl ⟨rfl, rfl, rfl, rfl, rfl⟩ rfl rfl rfl rfl rfl (by as_aux_lemma => kernel_rfl) Tryz.func12 closed
    (of_decide_eq_true (by as_aux_lemma => kernel_rfl)) (by unfold Func.isWrapper; rw [if_neg (of_decide_eq_false (by as_aux_lemma => kernel_rfl))]; exact ⟨rfl, rfl⟩)
    (fun os started H enc _ => lifted os started H enc)
theorem proved : Rows.FnJoinInLeftJoinSaid := over
end Go.Proofs.YtibknjpbbeackaaGreat.fnJoinInLeftJoin
