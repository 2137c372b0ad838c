/-
  The law that unions do not depend on the order. No condition.
-/
import Derived.Test.YtibknjpbbeackaaGreatKSDcWEpU
import Derived.Test.YtibknjpbbeackaaGreatKSDca
import Derived.Test.YtibknjpbbeackaaGreatJSVEpL
import Derived.Test.YtibknjpbbeackaaGreatJSVGo
set_option maxHeartbeats 4000000
set_option maxRecDepth 100000
set_option linter.unusedVariables false
set_option linter.unusedSimpArgs false
namespace Go.Proofs.YtibknjpbbeackaaGreat
open Go.RowKit
theorem un_swap {db : List Ta} {q r : Pl} {w : Nat} (ha : TabW w (evP db q)) (hb : TabW w (evP db r)) : evP db (unP r q) = evP db (unP q r) := by
  rw [un_ev, un_ev, ha.wid, hb.wid]
  have hl : ((evP db r).rows ++ (evP db q).rows).length = ((evP db q).rows ++ (evP db r).rows).length := by rw [List.length_append, List.length_append]; omega
  by_cases h : ((evP db q).rows ++ (evP db r).rows).length ≤ 400
  · rw [tabT_s h, tabT_s (by omega), srt_congr (rsw_app ha.row hb.row) List.perm_append_comm]
  · rw [tabT_n h, tabT_n (by omega)]
theorem un_fit {db : List Ta} {q r : Pl} (h : fitB db (unP q r)) : fitB db (unP r q) := by
  have hw := PV_ok h.2
  have h2 := h.2
  refine ⟨h.1, ?_⟩
  rw [PV_t hw] at h2 ⊢
  rw [un_wd] at h2 ⊢
  split at h2
  · exact absurd rfl h2
  · rename_i hn
    rw [if_neg (fun hx => hn (by rcases hx with hx | hx | hx; exact Or.inr (Or.inl hx); exact Or.inl hx; exact Or.inr (Or.inr (fun e => hx e.symm))))]
    exact fun hx => hn (Or.inr (Or.inl hx))
theorem does_FnUnionSwap (bs : List Nat) (hb : ∀ b, b ∈ bs → b < 256) : Does Tryz.prog 7 [] [bytesD bs] (Bo true) [] := by
  by_cases hlen : bs.length ≤ 1048576
  · obtain ⟨x, db, hd, hz, hdl, hsm, hrb⟩ := DrawEvalPlan_ok bs hb
    obtain ⟨h1, h2⟩ := EvalPlan_fn x (by omega) db (by omega) hsm.sz
    have h3 := equalTables_same (EP db x) (EP_small db x)
    by_cases hf : fitB db x
    · by_cases hk : x.k = 6
      · obtain ⟨q, r, w, hx, ⟨hwq, hwr⟩, hTa, hTb⟩ := fit_union hf hk
        have hb1 := hrb (fit_fields hf)
        have hbq := wt_bound hsm hwq
        have hbr := wt_bound hsm hwr
        have hks : x.ks = [q, r] := by rw [hx]; rfl
        have hrx : rb x = rb q + rb r := by rw [rb_2 hks, if_pos hk]
        have hfs := un_fit (hx ▸ hf)
        have hev := un_swap hTa hTb
        have hfq := fit_kid hf (x := q) (by rw [hks]; exact List.mem_cons_self ..)
        have hfr := fit_kid hf (x := r) (by rw [hks]; exact List.mem_cons_of_mem _ (List.mem_cons_self ..))
        have hlen2 : ((evP db x).rows.length : Int) = ((evP db q).rows.length : Int) + ((evP db r).rows.length : Int) := by
          have hl : ((evP db q).rows ++ (evP db r).rows).length = (evP db q).rows.length + (evP db r).rows.length := List.length_append
          rw [hx, un_ev, tabT_s (by omega)]
          show ((srt _).length : Int) = _
          rw [srt_len]
          omega
        have hql := hTa.few
        have hrl := hTb.few
        rw [← hx] at hev
        have hzx : psz x = eszL [] + 0 + psz q + psz r + 2 := by rw [hx]; exact psk_two ..
        rw [eszL] at hzx
        have hz2 : psz (unP r q) ≤ 1048576 := by
          unfold unP
          rw [psk_two, eszL]
          simp only [List.length_nil]
          omega
        have k1 := (EvalPlan_fn (unP r q) hz2 db (by omega) hsm.sz).1
        have kq := (EvalPlan_fn q (by omega) db (by omega) hsm.sz).1
        have kr := (EvalPlan_fn r (by omega) db (by omega) hsm.sz).1
        rw [EP_t hfq, EO_t hfq] at kq
        rw [EP_t hfr, EO_t hfr] at kr
        rw [EP_t hfs, EO_t hfs, hev] at k1
        have k2 : Does Tryz.prog 16 [] [.agg [I 6, I 0, .nul, .nul, .sl 5 [pD r, pD q]], tasD db] (.tup [taD (evP db x), Bo true]) [] := k1.weak ⟨plS (Sub.nul 5) (Sub.nul 1) (Sub.refl _), Sub.refl _, trivial⟩ (Sub.refl _)
        rw [EO_t hf] at h1 h2
        rw [EP_t hf] at h1 h2 h3
        generalize evP db x = t at *
        generalize evP db q = ta at *
        generalize evP db r = tb at *
        refine Bg c_Z89 mixed (go1 @bytesD.eq_1 ?_)
        refine Uc @bytesD.eq_1 (hd) (go1 @bytesD.eq_1 ?_)
        refine Uc @bytesD.eq_1 (h1) (go1 @bytesD.eq_1 ?_)
        refine Uc @bytesD.eq_1 (h2) (go1 @bytesD.eq_1 ?_)
        refine Uc (cj3 @bytesD.eq_1 @hk @hks) (h3) (go1 (cj3 @bytesD.eq_1 @hk @hks) ?_)
        refine Uc (cj3 @bytesD.eq_1 @hk @hks) (k2) (go1 (cj3 @bytesD.eq_1 @hk @hks) ?_)
        refine Uc (cj3 @bytesD.eq_1 @hk @hks) (kq) (go1 (cj3 @bytesD.eq_1 @hk @hks) ?_)
        refine Uc (cj3 @bytesD.eq_1 @hk @hks) (kr) (go1 (cj3 @bytesD.eq_1 @hk @hks) ?_)
        exact Uc (cj2 @bytesD.eq_1 @hlen2) (h3) (go0 (cj2 @bytesD.eq_1 @hlen2))
      · rw [EO_t hf] at h1 h2
        rw [EP_t hf] at h1 h2 h3
        generalize evP db x = t at *
        refine Bg c_Z89 mixed (go1 @bytesD.eq_1 ?_)
        refine Uc @bytesD.eq_1 (hd) (go1 @bytesD.eq_1 ?_)
        refine Uc @bytesD.eq_1 (h1) (go1 @bytesD.eq_1 ?_)
        refine Uc @bytesD.eq_1 (h2) (go1 @bytesD.eq_1 ?_)
        refine Uc @bytesD.eq_1 (h3) (go1 @bytesD.eq_1 ?_)
        exact Uc @bytesD.eq_1 (h3) (go0 @bytesD.eq_1)
    · rw [EO_f hf] at h1 h2
      refine Bg c_Z89 mixed (go1 @bytesD.eq_1 ?_)
      refine Uc @bytesD.eq_1 (hd) (go1 @bytesD.eq_1 ?_)
      refine Uc @bytesD.eq_1 (h1) (go1 @bytesD.eq_1 ?_)
      refine Uc @bytesD.eq_1 (h2) (go1 @bytesD.eq_1 ?_)
      refine Uc @bytesD.eq_1 (h3) (go1 @bytesD.eq_1 ?_)
      exact Uc @bytesD.eq_1 (h3) (go0 @bytesD.eq_1)
  · exact Bg c_Z89 mixed (go0 @bytesD.eq_1)
theorem walk_FnUnionSwap (a : Option Addr) (len cap : Nat) (zs : List Int) (w : World) (h : IsRow .u8 w a len cap zs) :
    Calls Tryz.prog 7 #[.slice a len cap] w fun e W' => e = .returned (.bool true) ∧ Below w.heap.size w W' := walk_of does_FnUnionSwap a len cap zs w h
end Go.Proofs.YtibknjpbbeackaaGreat
