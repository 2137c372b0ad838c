/-
  The law that results have at most as many rows as the bound. No condition.
-/
import Derived.Test.YtepkimfmncedcaaGreatKSDcWRbP
import Derived.Test.YtepkimfmncedcaaGreatKSDca
import Derived.Test.YtepkimfmncedcaaGreatJSVCplD
import Derived.Test.YtepkimfmncedcaaGreatJSVEvS
import Derived.Test.YtepkimfmncedcaaGreatJSVLaw
import Derived.Test.YtepkimfmncedcaaGreatJSVPiP
import Derived.Test.YtepkimfmncedcaaGreatKSVRbG
import Derived.Test.YtepkimfmncedcaaGreatJSVGo
set_option maxHeartbeats 4000000
set_option maxRecDepth 100000
set_option linter.unusedVariables false
set_option linter.unusedSimpArgs false
namespace Go.Proofs.YtepkimfmncedcaaGreat
open Go.RowKit
theorem cntsOf_ok {db : List Ta} (h : dbOk db) : cntOk (cntsOf db) := fun j x hj => by
  unfold cntsOf at hj
  rw [List.getElem?_map] at hj
  cases ht : db[j]? with
  | none => rw [ht] at hj; cases hj
  | some t =>
    rw [ht] at hj
    cases hj
    obtain ⟨w, _, _, _, _, hl⟩ := tOk_nat (h t (List.mem_of_getElem? ht))
    show 0 ≤ (t.rows.length : Int) ∧ (t.rows.length : Int) ≤ 400
    omega
theorem does_FnRowBound (bs : List Nat) (hb : ∀ b, b ∈ bs → b < 256) : Does Tryz.prog 5 [] [bytesD bs] (Bo true) [] := by
  by_cases hlen : bs.length ≤ 1048576
  · obtain ⟨x, db, hd, hz, hdl, hsm, hrb⟩ := DrawEvalPlan_ok bs hb
    obtain ⟨h1, h2⟩ := EvalPlan_fn x (by omega) db (by omega) hsm.sz
    have h3 := equalTables_same (EP db x) (EP_small db x)
    by_cases hf : fitB db x
    · obtain ⟨n, hn, hwt, hdw, hT⟩ := fit_wt hf
      have hcl : (cntsOf db).length = db.length := List.length_map _
      have hnl : (natI (dbWs db)).length = db.length := by unfold natI dbWs; rw [List.length_map, List.length_map]
      have kw := widthsOf_m (db := db) (by omega) hf.1
      obtain ⟨kb1, kb2⟩ := RowBound_fit hf (by omega) (cnt := cntsOf db) (by rw [hcl, hnl]) (by omega) (cntsOf_ok hf.1)
      have hbd := (rows_bound hdw hwt).1
      rw [EO_t hf] at h1 h2
      rw [EP_t hf] at h1 h2 h3
      have hte := hT.eta
      generalize (evP db x).rows = rs at hte hbd
      rw [hte] at h1 h2 h3
      have hle : decide ((rs.length : Int) ≤ rbC (cntsOf db) x) = true := decide_eq_true hbd
      generalize rbC (cntsOf db) x = bd at *
      have htk : ((cntsOf db).map I).take db.length = (cntsOf db).map I := by rw [← hcl]; exact take_all I _
      have hat : ∀ (i : Nat) (t : Ta), db[i]? = some t → (cntsOf db)[i]? = some (t.rows.length : Int) := fun i t h => by
        unfold cntsOf
        rw [List.getElem?_map, h]
        rfl
      generalize cntsOf db = cn at *
      refine Bg c_Z115 mixed (go1 @bytesD.eq_1 ?_)
      refine Uc @bytesD.eq_1 (hd) (go1 @bytesD.eq_1 ?_)
      refine Uc @bytesD.eq_1 (h1) (go1 @bytesD.eq_1 ?_)
      refine Uc @bytesD.eq_1 (h2) (go1 @bytesD.eq_1 ?_)
      refine Uc @bytesD.eq_1 (h3) (go1 @bytesD.eq_1 ?_)
      refine dw_for (c := 3) (l := fun i => [(3, .ref 1000000 0), (4, tasD db), (5, .ref 1000001 0), (9, .own 1000002 1 i), (10, I i), (1000000, .obj [I x.k, I x.t, .sl 5 (x.es.map eD), intsD x.cs, .sl 5 (x.ks.map pD)]), (1000001, .obj [I n, rowsD rs]), (1000002, .row 1 ((cn.take i).map I))]) db.length (fun _ => True) 0 trivial ((wk_row 9 2000090 1 (by decide) (by decide) rfl rfl).trans (Wk.list [2000003, 2000005, 2000090] rfl rfl ?_)) (fun i hi _ => ?_) (Nat.zero_le _)
      · repeat' (first|(conv in hold _=>simp (disch:=omega) only [go_sem, bytesD, List.length_map, beq_self_eq_true, bne_self_eq_false])|exact trivial|exact Sub.refl _|omega)
        (repeat' apply And.intro) <;> rfl
      · have htm : ((cn.take i).map I).take i = (cn.take i).map I := take_map I (by omega)
        have htl : (cn.take i).length = i := take_len (by omega)
        rcases at_or_end hi with ⟨t, ht, hlt⟩ | rfl
        · have hnx := take_next (hat i t ht)
          refine go1 (cj3 @bytesD.eq_1 @ht @htm) ?_
          refine ⟨hlt, trivial, Wk.list [1000000, 1000001, 2000068] rfl rfl ?_⟩
          repeat' (first|(conv in hold _=>simp (disch:=omega) only [go_sem, bytesD, List.length_map, beq_self_eq_true, bne_self_eq_false, hnx, htm, List.length_map, htl])|exact trivial|exact Sub.refl _|omega)
          rw [List.map_append]
          rfl
        · have e1 : cn.take db.length = cn := List.take_of_length_le (by omega)
          rw [e1]
          refine go1R @bytesD.eq_1 ?_
          (with_reducible first | refine dw_reg0 ?_ | refine dw_regB ?_)
          conv => arg 3; whnf
          refine Stp.go ?_
          refine s_pre (pre_frz (t := 9) (g := 1000002) (by decide) (by decide) rfl ?_) ?_
          rotate_left
          refine go1 (cj3 @bytesD.eq_1 @htk @hcl) ?_
          · refine Uc @bytesD.eq_1 (kw) (go1 @bytesD.eq_1 ?_)
            refine Uc @bytesD.eq_1 (kb2) (go1 @bytesD.eq_1 ?_)
            refine Uc @bytesD.eq_1 (kw) (go1 @bytesD.eq_1 ?_)
            exact Uc (cj2 @bytesD.eq_1 @hle) (kb1) (go0 (cj2 @bytesD.eq_1 @hle))
          · exact ints_pur _
    · rw [EO_f hf] at h1 h2
      refine Bg c_Z115 mixed (go1 @bytesD.eq_1 ?_)
      refine Uc @bytesD.eq_1 (hd) (go1 @bytesD.eq_1 ?_)
      refine Uc @bytesD.eq_1 (h1) (go1 @bytesD.eq_1 ?_)
      refine Uc @bytesD.eq_1 (h2) (go1 @bytesD.eq_1 ?_)
      refine Uc @bytesD.eq_1 (h3) (go1 @bytesD.eq_1 ?_)
      exact Uc @bytesD.eq_1 (h3) (go0 @bytesD.eq_1)
  · exact Bg c_Z115 mixed (go0 @bytesD.eq_1)
theorem walk_FnRowBound (a : Option Addr) (len cap : Nat) (zs : List Int) (w : World) (h : IsRow .u8 w a len cap zs) :
    Calls Tryz.prog 5 #[.slice a len cap] w fun e W' => e = .returned (.bool true) ∧ Below w.heap.size w W' := walk_of does_FnRowBound a len cap zs w h
end Go.Proofs.YtepkimfmncedcaaGreat
