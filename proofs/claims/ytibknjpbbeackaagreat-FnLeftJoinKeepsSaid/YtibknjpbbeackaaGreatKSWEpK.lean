/-
  The law that a left join keeps all rows of its first kid. No condition.
-/
import Derived.Test.YtibknjpbbeackaaGreatKSDcWEpK
import Derived.Test.YtibknjpbbeackaaGreatKSDca
import Derived.Test.YtibknjpbbeackaaGreatJSVCplE
import Derived.Test.YtibknjpbbeackaaGreatJSVDst
import Derived.Test.YtibknjpbbeackaaGreatKSVCmp
import Derived.Test.YtibknjpbbeackaaGreatJSVGo
set_option maxHeartbeats 4000000
set_option maxRecDepth 100000
set_option linter.unusedVariables false
set_option linter.unusedSimpArgs false
namespace Go.Proofs.YtibknjpbbeackaaGreat
open Go.RowKit
theorem does_FnLeftJoinKeeps (bs : List Nat) (hb : ∀ b, b ∈ bs → b < 256) : Does Tryz.prog 11 [] [bytesD bs] (Bo true) [] := by
  by_cases hlen : bs.length ≤ 1048576
  · obtain ⟨x, db, hd, hz, hdl, hsm, hrb⟩ := DrawEvalPlan_ok bs hb
    obtain ⟨h1, h2⟩ := EvalPlan_fn x (by omega) db (by omega) hsm.sz
    have h3 := equalTables_same (EP db x) (EP_small db x)
    by_cases hf : fitB db x
    · by_cases hk : x.k = 5
      · obtain ⟨e, q, r, wa, wb, hx, ⟨hwq, hwr⟩, hTa, hTb, hw6, hT⟩ := fit_join hf (Or.inr hk)
        have hx := hk ▸ hx
        have hb1 := hrb (fit_fields hf)
        have hbq := wt_bound hsm hwq
        have hbr := wt_bound hsm hwr
        have hks : x.ks = [q, r] := by rw [hx]; rfl
        have hrx : rb x = rb q * (rb r + 1) := by rw [rb_2 hks, hk]; rfl
        have hmul := Nat.mul_le_mul hbq (Nat.succ_le_succ hbr)
        have hzx : psz x = eszL [e] + 0 + psz q + psz r + 2 := by rw [hx]; exact psk_two ..
        have hfq := fit_kid hf (x := q) (by rw [hks]; exact List.mem_cons_self ..)
        have kq := (EvalPlan_fn q (by omega) db (by omega) hsm.sz).1
        rw [EP_t hfq, EO_t hfq] at kq
        have h60 : rb q * (rb r + 1) ≤ 400 := by rw [← hrx]; omega
        have hl1 : (joiL true wb e (evP db q).rows (evP db r).rows).length ≤ 400 := Nat.le_trans (joiL_len true wb e (evP db r).rows (evP db q).rows) (Nat.le_trans hmul h60)
        have hl2 := joi_keep wb e (evP db r).rows (evP db q).rows
        have hjr := rsw_joi hTa.row hTb.row true e
        have hevx : evP db x = ⟨((wa + wb : Nat) : Int), srt (joiL true wb e (evP db q).rows (evP db r).rows)⟩ := by
          rw [hx, jo_ev (Or.inr rfl), hTa.wid, hTb.wid, show ((wb : Int)).toNat = wb from rfl, show ((5 : Int) == 5) = true from rfl, tabT_s hl1]
          rw [show ((wa : Int) + (wb : Int)) = ((wa + wb : Nat) : Int) by omega]
        have hsl := srt_len (joiL true wb e (evP db q).rows (evP db r).rows)
        have hsr := srt_rsw hjr
        have hhd : ∀ z, z ∈ (srt (joiL true wb e (evP db q).rows (evP db r).rows)).map (fun y => y.take wa) ↔ z ∈ (evP db q).rows := fun z => by
          rw [List.mem_map, ← joi_head (n := wb) (e := e) (rb := (evP db r).rows) (fun y hy => (hTa.row y hy).1) z]
          exact ⟨fun ⟨y, h1, h2⟩ => ⟨y, mem_srt.1 h1, h2⟩, fun ⟨y, h1, h2⟩ => ⟨y, mem_srt.2 h1, h2⟩⟩
        generalize srt (joiL true wb e (evP db q).rows (evP db r).rows) = J at hevx hsl hsr hhd
        have hJl : J.length ≤ 400 := by omega
        have hkr : RsW wa (J.map (fun y => y.take wa)) := fun z hz => hTa.row z ((hhd z).1 hz)
        have hrok : rOk ⟨(wa : Int), J.map (fun y => y.take wa)⟩ := ⟨⟨by show 1 ≤ (wa : Int) ∧ (wa : Int) ≤ 6; omega, by show (J.map _).length ≤ 400; rw [List.length_map]; exact hJl⟩, fun i z hz => by
          have h := hkr z (List.mem_of_getElem? hz)
          exact ⟨⟨by omega, h.2⟩, by rw [h.1]⟩⟩
        have kt := TableOf_impl_t hrok
        have hokq : tOk (evP db q) := by rw [hTa.eta]; exact tOk_of (by omega) hTa.few hTa.row hTa.asc
        have kd2 := DistinctRows_impl_t hokq
        have hok1 : tOk ⟨(wa : Int), srt (J.map (fun y => y.take wa))⟩ := tOk_of (by omega) (by rw [srt_len, List.length_map]; exact hJl) (srt_rsw hkr) (srt_asc hkr)
        have kd1 := DistinctRows_impl_t hok1
        have hdd : dstL (srt (J.map (fun y => y.take wa))) (srt (J.map (fun y => y.take wa))).length = dstL (evP db q).rows (evP db q).rows.length := dst_set (srt_rsw hkr) hTa.row (srt_asc hkr) hTa.asc (fun z => by rw [mem_srt, hhd])
        simp only at kd1
        rw [hdd] at kd1
        have hds := dstL_sub (evP db q).rows (evP db q).rows.length (Nat.le_refl _)
        rw [List.take_length] at hds
        have h4 := equalTables_same ⟨(wa : Int), dstL (evP db q).rows (evP db q).rows.length⟩ (small_ok (tOk_of (by omega) (Nat.le_trans hds.length_le hTa.few) (rsw_sub hds hTa.row) (asc_sub hds hTa.asc)))
        have hqe := hTa.eta
        have hqf := hTa.few
        generalize dstL (evP db q).rows (evP db q).rows.length = ds at *
        generalize hqr : (evP db q).rows = rq at *
        rw [hqe] at kq kd2
        rw [EO_t hf] at h1 h2
        rw [EP_t hf, hevx] at h1 h2 h3
        have htl2 : (J.map (fun y => y.take wa)).length = J.length := List.length_map _
        have htk : ((J.map (fun y => y.take wa)).map rowD).take J.length = (J.map (fun y => y.take wa)).map rowD := by rw [← htl2]; exact take_all rowD _
        have hle2 : decide ((rq.length : Int) ≤ (J.length : Int)) = true := decide_eq_true (by omega)
        refine Bg c_Z39 mixed (go1 @bytesD.eq_1 ?_)
        refine Uc @bytesD.eq_1 (hd) (go1 @bytesD.eq_1 ?_)
        refine Uc @bytesD.eq_1 (h1) (go1 @bytesD.eq_1 ?_)
        refine Uc @bytesD.eq_1 (h2) (go1 @bytesD.eq_1 ?_)
        refine Uc (cj3 @bytesD.eq_1 @hk @hks) (h3) (go1 (cj3 @bytesD.eq_1 @hk @hks) ?_)
        refine Uc (cj3 @bytesD.eq_1 @hk @hks) (kq) (go1 (cj3 @bytesD.eq_1 @hk @hks) ?_)
        refine dw_for (c := 3) (l := fun i => [(5, .ref 1000000 0), (9, .ref 1000001 0), (10, Bo true), (11, .own 1000002 1 i), (12, I i), (1000000, .obj [I ((wa + wb : Nat) : Int), rowsD J]), (1000001, .obj [I wa, rowsD rq]), (1000002, .row 1 (((J.map (fun y => y.take wa)).take i).map rowD))]) J.length (fun _ => True) 0 trivial ((wk_row 11 2000090 1 (by decide) (by decide) rfl rfl).trans (Wk.list [2000005, 2000009, 2000090] rfl rfl ?_)) (fun i hi _ => ?_) (Nat.zero_le _)
        · repeat' (first|(conv in hold _=>simp (disch:=omega) only [go_sem, bytesD, List.length_map, beq_self_eq_true, bne_self_eq_false])|exact trivial|exact Sub.refl _|omega)
          first | exact rfl | exact ⟨rfl, rfl⟩ | exact ⟨rfl, rfl, rfl⟩
        · have htm : (((J.map (fun y => y.take wa)).take i).map rowD).take i = ((J.map (fun y => y.take wa)).take i).map rowD := take_map rowD (by rw [htl2]; exact hi)
          have htl : ((J.map (fun y => y.take wa)).take i).length = i := take_len (by rw [htl2]; exact hi)
          rcases at_or_end hi with ⟨y, hy, hlt⟩ | rfl
          · have hyl := (hsr y (List.mem_of_getElem? hy)).1
            have hnx : (J.map (fun y => y.take wa)).take (i + 1) = (J.map (fun y => y.take wa)).take i ++ [y.take wa] := take_next (by rw [List.getElem?_map, hy]; rfl)
            have hyt : (y.map vD).take wa = (y.take wa).map vD := (List.map_take ..).symm
            refine go1 (cj4 @bytesD.eq_1 @hy @htm @hyt) ?_
            refine ⟨hlt, trivial, Wk.list [1000000, 1000001, 2000092] rfl rfl ?_⟩
            repeat' (first|(conv in hold _=>simp (disch:=omega) only [go_sem, bytesD, List.length_map, beq_self_eq_true, bne_self_eq_false, hnx, htm, List.length_map, htl])|exact trivial|exact Sub.refl _|omega)
            rw [List.map_append]
            rfl
          · have e1 : (J.map (fun y => y.take wa)).take J.length = J.map (fun y => y.take wa) := List.take_of_length_le (by rw [htl2]; exact Nat.le_refl _)
            rw [e1]
            refine go1C @bytesD.eq_1 ?_
            refine s_pre (pre_frz (t := 96) (g := 1000002) (by decide) (by decide) rfl ?_) ?_
            rotate_left
            refine go1 (cj3 @bytesD.eq_1 @htk @htl2) ?_
            · refine Uc @bytesD.eq_1 (kt) (go1 @bytesD.eq_1 ?_)
              refine Uc @bytesD.eq_1 (kd1) (go1 @bytesD.eq_1 ?_)
              refine Uc @bytesD.eq_1 (kd2) (go1 @bytesD.eq_1 ?_)
              exact Uc (cj2 @bytesD.eq_1 @hle2) (h4) (go0 (cj2 @bytesD.eq_1 @hle2))
            · exact rows_pur _
      · rw [EO_t hf] at h1 h2
        rw [EP_t hf] at h1 h2 h3
        generalize evP db x = t at *
        refine Bg c_Z39 mixed (go1 @bytesD.eq_1 ?_)
        refine Uc @bytesD.eq_1 (hd) (go1 @bytesD.eq_1 ?_)
        refine Uc @bytesD.eq_1 (h1) (go1 @bytesD.eq_1 ?_)
        refine Uc @bytesD.eq_1 (h2) (go1 @bytesD.eq_1 ?_)
        refine Uc @bytesD.eq_1 (h3) (go1 @bytesD.eq_1 ?_)
        exact Uc @bytesD.eq_1 (h3) (go0 @bytesD.eq_1)
    · rw [EO_f hf] at h1 h2
      refine Bg c_Z39 mixed (go1 @bytesD.eq_1 ?_)
      refine Uc @bytesD.eq_1 (hd) (go1 @bytesD.eq_1 ?_)
      refine Uc @bytesD.eq_1 (h1) (go1 @bytesD.eq_1 ?_)
      refine Uc @bytesD.eq_1 (h2) (go1 @bytesD.eq_1 ?_)
      refine Uc @bytesD.eq_1 (h3) (go1 @bytesD.eq_1 ?_)
      exact Uc @bytesD.eq_1 (h3) (go0 @bytesD.eq_1)
  · exact Bg c_Z39 mixed (go0 @bytesD.eq_1)
theorem walk_FnLeftJoinKeeps (a : Option Addr) (len cap : Nat) (zs : List Int) (w : World) (h : IsRow .u8 w a len cap zs) :
    Calls Tryz.prog 11 #[.slice a len cap] w fun e W' => e = .returned (.bool true) ∧ Below w.heap.size w W' := walk_of does_FnLeftJoinKeeps a len cap zs w h
end Go.Proofs.YtibknjpbbeackaaGreat
