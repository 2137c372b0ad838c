/-
  The law that a projection to all columns changes nothing. No condition.
-/
import Derived.Test.YtibknjpbbeackaaGreatKSDcWEpP
import Derived.Test.YtibknjpbbeackaaGreatKSDca
import Derived.Test.YtibknjpbbeackaaGreatJSVEpL
import Derived.Test.YtibknjpbbeackaaGreatJSVGo
set_option maxHeartbeats 4000000
set_option maxRecDepth 100000
set_option linter.unusedVariables false
set_option linter.unusedSimpArgs false
namespace Go.Proofs.YtibknjpbbeackaaGreat
open Go.RowKit
def cDt (i : Nat) : D := .agg [I 1, I i, Bo false, I 0, .nul]
theorem cDt_s (n : Nat) : Sub (.sl 5 ((List.range n).map cDt)) (.sl 5 ((allE n).map eD)) := by
  unfold allE
  rw [List.map_map]
  refine Sub.slmap _ _ _ (fun a ha => ?_) (fun a ha => ?_)
  · show (eD (colE a)).cells.length = 5
    rw [eD_eq]; rfl
  · show SubL (cDt a).cells (eD (colE a)).cells
    rw [eD_eC]
    exact leafC a
theorem cDt_pur : ∀ l : List Nat, D.purL (l.map cDt) = true
  | [] => rfl
  | a :: l => by rw [List.map_cons, D.purL, cDt_pur l]; rfl
theorem range_take (n i : Nat) (h : i < n) : (List.range n).take (i + 1) = (List.range n).take i ++ [i] := take_next (List.getElem?_range h)
theorem does_FnProjectAll (bs : List Nat) (hb : ∀ b, b ∈ bs → b < 256) : Does Tryz.prog 4 [] [bytesD bs] (Bo true) [] := by
  by_cases hlen : bs.length ≤ 1048576
  · obtain ⟨x, db, hd, hz, hdl, hsm, hrb⟩ := DrawEvalPlan_ok bs hb
    obtain ⟨h1, h2⟩ := EvalPlan_fn x (by omega) db (by omega) hsm.sz
    have h3 := equalTables_same (EP db x) (EP_small db x)
    by_cases hf : fitB db x
    · obtain ⟨n, hn, hwt, hdw, hT⟩ := fit_wt hf
      have hn6 := hwt.pos hdw.wid
      have zl : eszL (allE n) = n := by
        have h : ∀ l : List Nat, eszL (l.map colE) = l.length := fun l => by
          induction l with
          | nil => rw [List.map_nil, eszL]; rfl
          | cons a l ih => rw [List.map_cons, eszL, ih]; unfold colE; rw [esz, eszL, List.length_cons]; omega
        unfold allE
        rw [h, List.length_range]
      have z1 : psz (prP (allE n) x) ≤ 1048576 := by unfold prP; rw [psk_one, zl]; simp only [List.length_nil]; omega
      have k1 := ((EvalPlan_fn _ z1 db (by omega) hsm.sz).1).weak (es := [.agg [I 3, I 0, .sl 5 ((List.range n).map cDt), .nul, .sl 5 [pD x]], tasD db]) ⟨plS (cDt_s n) (Sub.nul 1) (Sub.refl _), Sub.refl _, trivial⟩ (Sub.refl _)
      rw [EO_t hf] at h1 h2
      rw [EP_t hf] at h1 h2 h3
      have hpe := pr_all hT
      have hte := hT.eta
      have hk : EO db (prP (allE n) x) = true → EP db (prP (allE n) x) = evP db x := fun h => by rw [EP_t (of_decide_eq_true h)]; exact hpe
      generalize EO db (prP (allE n) x) = o at hk k1
      generalize EP db (prP (allE n) x) = t1 at hk k1
      generalize hrs : (evP db x).rows = rs at hte
      rw [hte] at h1 h2 h3 hk
      have hrl : (List.range n).length = n := List.length_range
      have htk : ((List.range n).map cDt).take n = (List.range n).map cDt := List.take_of_length_le (by rw [List.length_map, hrl]; exact Nat.le_refl _)
      refine Bg c_Z68 mixed (go1 @bytesD.eq_1 ?_)
      refine Uc @bytesD.eq_1 (hd) (go1 @bytesD.eq_1 ?_)
      refine Uc @bytesD.eq_1 (h1) (go1 @bytesD.eq_1 ?_)
      refine Uc @bytesD.eq_1 (h2) (go1 @bytesD.eq_1 ?_)
      refine Uc @bytesD.eq_1 (h3) (go1 @bytesD.eq_1 ?_)
      refine dw_for (c := 3) (l := fun i => [(3, .ref 1000000 0), (4, tasD db), (5, .ref 1000001 0), (9, .own 1000002 5 i), (10, I i), (1000000, .obj [I x.k, I x.t, .sl 5 (x.es.map eD), intsD x.cs, .sl 5 (x.ks.map pD)]), (1000001, .obj [I n, rowsD rs]), (1000002, .row 5 (((List.range n).take i).map cDt))]) n (fun _ => True) 0 trivial ((wk_row 9 2000090 5 (by decide) (by decide) rfl rfl).trans (Wk.list [2000003, 2000005, 2000090] rfl rfl ?_)) (fun i hi _ => ?_) (Nat.zero_le _)
      · repeat' (first|(conv in hold _=>simp (disch:=omega) only [go_sem, bytesD, List.length_map, beq_self_eq_true, bne_self_eq_false])|exact trivial|exact Sub.refl _|omega)
        first | exact rfl | exact ⟨rfl, rfl⟩ | exact ⟨rfl, rfl, rfl⟩
      · have htl : ((List.range n).take i).length = i := take_len (by rw [hrl]; exact hi)
        have htm : (((List.range n).take i).map cDt).take i = ((List.range n).take i).map cDt := take_map cDt (by rw [hrl]; exact hi)
        by_cases hlt : i < n
        · have hnx := range_take n i hlt
          refine go1 (cj2 @bytesD.eq_1 @htm) ?_
          refine ⟨hlt, trivial, Wk.list [1000000, 1000001, 2000065] rfl rfl ?_⟩
          repeat' (first|(conv in hold _=>simp (disch:=omega) only [go_sem, bytesD, List.length_map, beq_self_eq_true, bne_self_eq_false, hnx, htm, List.length_map, htl])|exact trivial|exact Sub.refl _|omega)
          have hp : D.purL (((List.range n).take i).map cDt ++ [i].map cDt) = true := by rw [← List.map_append]; exact cDt_pur _
          rw [List.map_append, ren_pure.renL_pure _ _ hp]
          rfl
        · obtain rfl : i = n := by omega
          have e1 : (List.range i).take i = List.range i := List.take_of_length_le (by rw [hrl]; exact Nat.le_refl _)
          rw [e1]
          refine go1R @bytesD.eq_1 ?_
          (with_reducible first | refine dw_reg0 ?_ | refine dw_regB ?_)
          conv => arg 3; whnf
          refine Stp.go ?_
          refine s_pre (pre_frz (t := 9) (g := 1000002) (by decide) (by decide) rfl ?_) ?_
          rotate_left
          refine go1 (cj3 @bytesD.eq_1 @htk @hrl) ?_
          · cases o with
            | true =>
              obtain rfl := hk rfl
              refine Uc @bytesD.eq_1 (k1) (go1 @bytesD.eq_1 ?_)
              exact Uc @bytesD.eq_1 (h3) (go0 @bytesD.eq_1)
            | false =>
              exact Uc @bytesD.eq_1 (k1) (go0 @bytesD.eq_1)
          · exact cDt_pur _
    · rw [EO_f hf] at h1 h2
      refine Bg c_Z68 mixed (go1 @bytesD.eq_1 ?_)
      refine Uc @bytesD.eq_1 (hd) (go1 @bytesD.eq_1 ?_)
      refine Uc @bytesD.eq_1 (h1) (go1 @bytesD.eq_1 ?_)
      refine Uc @bytesD.eq_1 (h2) (go1 @bytesD.eq_1 ?_)
      refine Uc @bytesD.eq_1 (h3) (go1 @bytesD.eq_1 ?_)
      exact Uc @bytesD.eq_1 (h3) (go0 @bytesD.eq_1)
  · exact Bg c_Z68 mixed (go0 @bytesD.eq_1)
theorem walk_FnProjectAll (a : Option Addr) (len cap : Nat) (zs : List Int) (w : World) (h : IsRow .u8 w a len cap zs) :
    Calls Tryz.prog 4 #[.slice a len cap] w fun e W' => e = .returned (.bool true) ∧ Below w.heap.size w W' := walk_of does_FnProjectAll a len cap zs w h
end Go.Proofs.YtibknjpbbeackaaGreat
