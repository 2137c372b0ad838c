/-
  The law that results have the width of the plan. No condition.
-/
import Derived.Test.YtibknjpbbeackaaGreatKSDcWEpV
import Derived.Test.YtibknjpbbeackaaGreatKSDca
import Derived.Test.YtibknjpbbeackaaGreatJSVEpL
import Derived.Test.YtibknjpbbeackaaGreatJSVTbI
import Derived.Test.YtibknjpbbeackaaGreatJSVGo
set_option maxHeartbeats 4000000
set_option maxRecDepth 100000
set_option linter.unusedVariables false
set_option linter.unusedSimpArgs false
namespace Go.Proofs.YtibknjpbbeackaaGreat
open Go.RowKit
theorem widthsOf_l {db : List Ta} (hl : db.length ≤ 1000) (h : dbOk db) : Does Tryz.prog 28 [] [tasD db] (intsD (natI (dbWs db))) [] := by
  have hnl : (natI (dbWs db)).length = db.length := by unfold natI dbWs; rw [List.length_map, List.length_map]
  have htk : ((natI (dbWs db)).map I).take db.length = (natI (dbWs db)).map I := by rw [← hnl]; exact take_all I _
  refine Bg c_Z140 mixed (go1 trivial ?_)
  refine dw_for (c := 1) (l := fun i => [(0, tasD db), (3, .own 1000000 1 i), (4, I i), (1000000, .row 1 (((natI (dbWs db)).take i).map I))]) db.length (fun _ => True) 0 trivial ((wk_row 3 2000090 1 (by decide) (by decide) rfl rfl).trans (Wk.list [2000090] rfl rfl ?_)) (fun i hi _ => ?_) (Nat.zero_le _)
  · repeat' (first|(conv in hold _=>simp (disch:=omega) only [go_sem])|exact trivial|exact Sub.refl _|omega)
    first | exact rfl | exact ⟨rfl, rfl⟩
  · have htm : (((natI (dbWs db)).take i).map I).take i = ((natI (dbWs db)).take i).map I := take_map I (by rw [hnl]; exact hi)
    have htl : ((natI (dbWs db)).take i).length = i := take_len (by rw [hnl]; exact hi)
    rcases at_or_end hi with ⟨t, ht, hlt⟩ | rfl
    · have hok := h t (List.mem_of_getElem? ht)
      obtain ⟨w, hw, hw6, _⟩ := tOk_nat hok
      have hnx : (natI (dbWs db)).take (i + 1) = (natI (dbWs db)).take i ++ [t.w] := take_next (by
        unfold natI dbWs
        rw [List.getElem?_map, List.getElem?_map, ht]
        show some ((t.w.toNat : Nat) : Int) = some t.w
        rw [hw]
        rfl)
      refine go1 (cj2 @ht @htm) ?_
      refine ⟨hlt, trivial, Wk.list [2000019] rfl rfl ?_⟩
      repeat' (first|(conv in hold _=>simp (disch:=omega) only [go_sem, hnx, htm])|exact trivial|exact Sub.refl _|omega)
      rw [List.map_append]
      rfl
    · have e1 : (natI (dbWs db)).take db.length = natI (dbWs db) := List.take_of_length_le (by rw [hnl]; exact Nat.le_refl _)
      rw [e1]
      refine go1F trivial ?_
      refine fin_wk (wk_frz 2 1000000 (by decide) (by decide) rfl ?_) ?_
      rotate_left
      (conv in hold _=>simp (disch:=omega) only [go_sem, htk, hnl, List.length_map, Nat.le_refl])
      · refine fin_L [] ?_ ?_ rfl ?_
        repeat' (first|(conv in hold _=>simp (disch:=omega) only [go_sem])|exact trivial|exact Sub.refl _|omega)
      · exact ints_pur _
theorem does_FnEvalPlan (bs : List Nat) (hb : ∀ b, b ∈ bs → b < 256) : Does Tryz.prog 14 [] [bytesD bs] (Bo true) [] := by
  by_cases hlen : bs.length ≤ 1048576
  · obtain ⟨x, db, hd, hz, hdl, hsm, hrb⟩ := DrawEvalPlan_ok bs hb
    obtain ⟨h1, h2⟩ := EvalPlan_fn x (by omega) db (by omega) hsm.sz
    have h3 := equalTables_same (EP db x) (EP_small db x)
    by_cases hf : fitB db x
    · obtain ⟨n, hn, hwt, hdw, hT⟩ := fit_wt hf
      have hn6 := hwt.pos hdw.wid
      have hwl : (natI (dbWs db)).length ≤ 1048576 := by unfold natI dbWs; rw [List.length_map, List.length_map]; omega
      have k1 := (PlanWidth_fn x (by omega) (natI (dbWs db)) hwl).2.2
      rw [hn] at k1
      have k2 := widthsOf_l (by omega) hf.1
      rw [EO_t hf] at h1 h2
      rw [EP_t hf] at h1 h2 h3
      have hte := hT.eta
      have hok : tOk (evP db x) := by rw [hte]; exact tOk_of hn6 hT.few hT.row hT.asc
      have k3 := ValidTable_impl (evP db x) (tOk_sz hok)
      rw [decide_eq_true hok] at k3
      generalize (evP db x).rows = rs at hte
      rw [hte] at h1 h2 h3 k3
      refine Bg c_Z104 mixed (go1 @bytesD.eq_1 ?_)
      refine Uc @bytesD.eq_1 (hd) (go1 @bytesD.eq_1 ?_)
      refine Uc @bytesD.eq_1 (h1) (go1 @bytesD.eq_1 ?_)
      refine Uc @bytesD.eq_1 (h2) (go1 @bytesD.eq_1 ?_)
      refine Uc @bytesD.eq_1 (h3) (go1 @bytesD.eq_1 ?_)
      refine Uc @bytesD.eq_1 (k3) (go1 @bytesD.eq_1 ?_)
      refine Uc @bytesD.eq_1 (k2) (go1 @bytesD.eq_1 ?_)
      exact Uc @bytesD.eq_1 (k1) (go0 @bytesD.eq_1)
    · rw [EO_f hf] at h1 h2
      refine Bg c_Z104 mixed (go1 @bytesD.eq_1 ?_)
      refine Uc @bytesD.eq_1 (hd) (go1 @bytesD.eq_1 ?_)
      refine Uc @bytesD.eq_1 (h1) (go1 @bytesD.eq_1 ?_)
      refine Uc @bytesD.eq_1 (h2) (go1 @bytesD.eq_1 ?_)
      refine Uc @bytesD.eq_1 (h3) (go1 @bytesD.eq_1 ?_)
      exact Uc @bytesD.eq_1 (h3) (go0 @bytesD.eq_1)
  · exact Bg c_Z104 mixed (go0 @bytesD.eq_1)
theorem walk_FnEvalPlan (a : Option Addr) (len cap : Nat) (zs : List Int) (w : World) (h : IsRow .u8 w a len cap zs) :
    Calls Tryz.prog 14 #[.slice a len cap] w fun e W' => e = .returned (.bool true) ∧ Below w.heap.size w W' := walk_of does_FnEvalPlan a len cap zs w h
end Go.Proofs.YtibknjpbbeackaaGreat
