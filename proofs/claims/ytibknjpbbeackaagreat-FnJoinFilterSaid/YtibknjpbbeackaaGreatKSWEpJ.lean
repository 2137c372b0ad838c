/-
  The law of joins as filtered products. No condition.
-/
import Derived.Test.YtibknjpbbeackaaGreatKSDcWEpJ
import Derived.Test.YtibknjpbbeackaaGreatKSDca
import Derived.Test.YtibknjpbbeackaaGreatJSVEpL
import Derived.Test.YtibknjpbbeackaaGreatJSVGo
set_option maxHeartbeats 4000000
set_option maxRecDepth 100000
set_option linter.unusedVariables false
set_option linter.unusedSimpArgs false
namespace Go.Proofs.YtibknjpbbeackaaGreat
open Go.RowKit
theorem does_FnJoinFilter (bs : List Nat) (hb : ∀ b, b ∈ bs → b < 256) : Does Tryz.prog 6 [] [bytesD bs] (Bo true) [] := by
  by_cases hlen : bs.length ≤ 1048576
  · obtain ⟨x, db, hd, hz, hdl, hsm, hrb⟩ := DrawEvalPlan_ok bs hb
    obtain ⟨h1, h2⟩ := EvalPlan_fn x (by omega) db (by omega) hsm.sz
    have h3 := equalTables_same (EP db x) (EP_small db x)
    by_cases hf : fitB db x
    · by_cases hk : x.k = 4
      · obtain ⟨e, q, r, wa, wb, hx, ⟨hwq, hwr⟩, hTa, hTb, hw6, hT⟩ := fit_join hf (Or.inl hk)
        have hx := hk ▸ hx
        have hb1 := hrb (fit_fields hf)
        have hbq := wt_bound hsm hwq
        have hbr := wt_bound hsm hwr
        have hks : x.ks = [q, r] := by rw [hx]; rfl
        have hes : x.es = [e] := by rw [hx]; rfl
        have hrx : rb x = rb q * (rb r + 1) := by rw [rb_2 hks, hk]; rfl
        have h60 : rb q * (rb r + 1) ≤ 400 := by rw [← hrx]; omega
        have hmul : (evP db q).rows.length * (evP db r).rows.length ≤ 400 := Nat.le_trans (Nat.mul_le_mul hbq (Nat.le_succ_of_le hbr)) h60
        have hev := jo_fi hTa hTb hmul e
        rw [← hx] at hev
        have hzx : psz x = eszL [e] + psz q + psz r + 2 := by rw [hx]; exact psk_two ..
        have hz2 : psz (fiP e (joP 4 (cstE ⟨false, 1⟩) q r)) ≤ 1048576 := by
          unfold fiP joP cstE
          rw [psk_one, psk_two, eszL, eszL, eszL, esz, eszL]
          rw [eszL, eszL] at hzx
          simp only [List.length_nil]
          omega
        have k1 := (EvalPlan_fn (fiP e (joP 4 (cstE ⟨false, 1⟩) q r)) hz2 db (by omega) hsm.sz).1
        have f1 : Does Tryz.prog 19 [] [eD e, .agg [I 4, I 0, .sl 5 [.agg [I 2, I 0, Bo false, I 1, .nul]], .nul, .sl 5 [pD q, pD r]]] (pD (fiP e (joP 4 (cstE ⟨false, 1⟩) q r))) [] :=
          (filter_l e (joP 4 (cstE ⟨false, 1⟩) q r)).weak ⟨Sub.refl _, plS (oneS (leaf_s 2 0 ⟨false, 1⟩)) (Sub.nul 1) (Sub.refl _), trivial⟩ (Sub.refl _)
        rw [EO_t hf] at h1 h2
        rw [EP_t hf] at h1 h2 h3
        by_cases hg : fitB db (fiP e (joP 4 (cstE ⟨false, 1⟩) q r))
        · rw [EP_t hg, EO_t hg, hev] at k1
          generalize evP db x = t at *
          refine Bg c_Z67 mixed (go1 @bytesD.eq_1 ?_)
          refine Uc @bytesD.eq_1 (hd) (go1 @bytesD.eq_1 ?_)
          refine Uc @bytesD.eq_1 (h1) (go1 @bytesD.eq_1 ?_)
          refine Uc @bytesD.eq_1 (h2) (go1 @bytesD.eq_1 ?_)
          refine Uc (cj4 @bytesD.eq_1 @hk @hks @hes) (h3) (go1 (cj4 @bytesD.eq_1 @hk @hks @hes) ?_)
          refine Uc (cj4 @bytesD.eq_1 @hk @hks @hes) (f1) (go1 (cj4 @bytesD.eq_1 @hk @hks @hes) ?_)
          refine Uc @bytesD.eq_1 (k1) (go1 @bytesD.eq_1 ?_)
          exact Uc @bytesD.eq_1 (h3) (go0 @bytesD.eq_1)
        · rw [EP_f hg, EO_f hg] at k1
          generalize evP db x = t at *
          refine Bg c_Z67 mixed (go1 @bytesD.eq_1 ?_)
          refine Uc @bytesD.eq_1 (hd) (go1 @bytesD.eq_1 ?_)
          refine Uc @bytesD.eq_1 (h1) (go1 @bytesD.eq_1 ?_)
          refine Uc @bytesD.eq_1 (h2) (go1 @bytesD.eq_1 ?_)
          refine Uc (cj4 @bytesD.eq_1 @hk @hks @hes) (h3) (go1 (cj4 @bytesD.eq_1 @hk @hks @hes) ?_)
          refine Uc (cj4 @bytesD.eq_1 @hk @hks @hes) (f1) (go1 (cj4 @bytesD.eq_1 @hk @hks @hes) ?_)
          exact Uc @bytesD.eq_1 (k1) (go0 @bytesD.eq_1)
      · rw [EO_t hf] at h1 h2
        rw [EP_t hf] at h1 h2 h3
        generalize evP db x = t at *
        refine Bg c_Z67 mixed (go1 @bytesD.eq_1 ?_)
        refine Uc @bytesD.eq_1 (hd) (go1 @bytesD.eq_1 ?_)
        refine Uc @bytesD.eq_1 (h1) (go1 @bytesD.eq_1 ?_)
        refine Uc @bytesD.eq_1 (h2) (go1 @bytesD.eq_1 ?_)
        refine Uc @bytesD.eq_1 (h3) (go1 @bytesD.eq_1 ?_)
        exact Uc @bytesD.eq_1 (h3) (go0 @bytesD.eq_1)
    · rw [EO_f hf] at h1 h2
      refine Bg c_Z67 mixed (go1 @bytesD.eq_1 ?_)
      refine Uc @bytesD.eq_1 (hd) (go1 @bytesD.eq_1 ?_)
      refine Uc @bytesD.eq_1 (h1) (go1 @bytesD.eq_1 ?_)
      refine Uc @bytesD.eq_1 (h2) (go1 @bytesD.eq_1 ?_)
      refine Uc @bytesD.eq_1 (h3) (go1 @bytesD.eq_1 ?_)
      exact Uc @bytesD.eq_1 (h3) (go0 @bytesD.eq_1)
  · exact Bg c_Z67 mixed (go0 @bytesD.eq_1)
theorem walk_FnJoinFilter (a : Option Addr) (len cap : Nat) (zs : List Int) (w : World) (h : IsRow .u8 w a len cap zs) :
    Calls Tryz.prog 6 #[.slice a len cap] w fun e W' => e = .returned (.bool true) ∧ Below w.heap.size w W' := walk_of does_FnJoinFilter a len cap zs w h
end Go.Proofs.YtibknjpbbeackaaGreat
