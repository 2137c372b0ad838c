/-
  The law that costs add up. No condition.
-/
import Derived.Test.YtepkimfmncedcaaGreatKSDcWPcP
import Derived.Test.YtepkimfmncedcaaGreatKSDca
import Derived.Test.YtepkimfmncedcaaGreatJSVCplD
import Derived.Test.YtepkimfmncedcaaGreatJSVEvS
import Derived.Test.YtepkimfmncedcaaGreatJSVLaw
import Derived.Test.YtepkimfmncedcaaGreatJSVGo
set_option maxHeartbeats 4000000
set_option maxRecDepth 100000
set_option linter.unusedVariables false
set_option linter.unusedSimpArgs false
namespace Go.Proofs.YtepkimfmncedcaaGreat
open Go.RowKit
theorem DrawPlanCost_ok (bs : List Nat) (hb : ∀ b, b ∈ bs → b < 256) : ∃ (x : Pl) (db : List Ta), Does Tryz.prog 23 [] [bytesD bs] (.tup [pD x, tasD db]) [] ∧ psz x ≤ 11100 ∧ (2 ≤ db.length ∧ db.length ≤ 3) ∧ smallDb db := by
  have hs : Src (bs.take 2000) := ⟨fun b h => hb b (List.mem_of_mem_take h), by rw [List.length_take]; omega⟩
  have hr := newReader_ok bs
  generalize bs.take 2000 = rs at hs hr
  obtain ⟨x, db, q, hx, hl, hsm, hz⟩ := planAndTables_ok hs 0 (by omega)
  refine ⟨x, db, ?_, hz.1, hl, hsm⟩
  refine Bg c_Z79 mixed (go1 trivial ?_)
  refine UcR [3000001] trivial (hr) (go1 trivial ?_)
  exact UcR [3000001] trivial (hx) (go0 trivial)
theorem does_FnPlanCost (bs : List Nat) (hb : ∀ b, b ∈ bs → b < 256) : Does Tryz.prog 7 [] [bytesD bs] (Bo true) [] := by
  by_cases hlen : bs.length ≤ 1048576
  · obtain ⟨x, db, hd, hz, hdl, hsm⟩ := DrawPlanCost_ok bs hb
    by_cases hf : fitB db x
    · obtain ⟨c1, c2⟩ := PlanCost_fit hf (by omega) (by omega) hsm.sz
      obtain ⟨n, hn, hwt, hdw, hT⟩ := fit_wt hf
      have h1 := (EvalPlan_fn x (by omega) db (by omega) hsm.sz).1
      rw [EP_t hf, EO_t hf] at h1
      have hb := pc_bound hdw hwt
      have hS := pcS_eq db x
      have hkid := fun (y : Pl) (hy : y ∈ x.ks) => (PlanCost_fit (fit_kid hf hy) (psz_kid hy (by omega)) (by omega) hsm.sz).1
      have hte := hT.eta
      generalize (evP db x).rows = rs at hte hS
      rw [hte] at h1
      have hend : ((rs.length : Int) + (pcL db (x.ks.take x.ks.length) : Int) == (pcS db x : Int)) = true := by rw [List.take_length, beq_iff_eq]; omega
      have hkl : x.ks.length ≤ 1048576 := by have := pszL_len x.ks; rw [psz_eq] at hz; omega
      generalize hc : pcS db x = c at *
      refine Bg c_Z114 mixed (go1 @bytesD.eq_1 ?_)
      refine Uc @bytesD.eq_1 (hd) (go1 @bytesD.eq_1 ?_)
      refine Uc @bytesD.eq_1 (c1) (go1 @bytesD.eq_1 ?_)
      refine Uc @bytesD.eq_1 (c2) (go1 @bytesD.eq_1 ?_)
      refine Uc @bytesD.eq_1 (h1) (go1 @bytesD.eq_1 ?_)
      refine dw_for (c := 2) (l := fun i => [(3, .ref 1000000 0), (4, tasD db), (5, I c), (6, .ref 1000001 0), (7, Bo true), (8, I ((rs.length : Int) + (pcL db (x.ks.take i) : Int))), (9, I i), (1000000, .obj [I x.k, I x.t, .sl 5 (x.es.map eD), intsD x.cs, .sl 5 (x.ks.map pD)]), (1000001, .obj [I n, rowsD rs])]) x.ks.length (fun _ => True) 0 trivial (Wk.list [2000003, 2000006] rfl rfl ?_) (fun i hi _ => ?_) (Nat.zero_le _)
      · repeat' (first|(conv in hold _=>simp (disch:=omega) only [go_sem, bytesD, List.length_map, beq_self_eq_true, bne_self_eq_false])|exact trivial|exact Sub.refl _|omega)
        (repeat' apply And.intro) <;> first | rfl | exact congrArg (fun n => D.v (Value.int .i64 n)) (by simp [pcL])
      · have hle := pcL_le db x.ks i
        rcases at_or_end hi with ⟨y, hy, hlt⟩ | rfl
        · have hix := hkid y (List.mem_of_getElem? hy)
          have hnx := pcL_next (db := db) hy
          have hle2 := pcL_le db x.ks (i + 1)
          have hsn : (rs.length : Int) + (pcL db (x.ks.take (i + 1)) : Int) = (rs.length : Int) + (pcL db (x.ks.take i) : Int) + (pcS db y : Int) := by omega
          refine go1 (cj2 @bytesD.eq_1 @hy) ?_
          refine Uc (cj2 @bytesD.eq_1 @hy) (hix) (go1 (cj2 @bytesD.eq_1 @hy) ?_)
          refine ⟨hlt, trivial, Wk.list [1000000, 1000001] rfl rfl ?_⟩
          repeat' (first|(conv in hold _=>simp (disch:=omega) only [go_sem, bytesD, List.length_map, beq_self_eq_true, bne_self_eq_false, hsn])|exact trivial|exact Sub.refl _|omega)
        · exact go0 (cj2 @bytesD.eq_1 @hend)
    · obtain ⟨c1, c2⟩ := PlanCost_no hf (by omega) (by omega) hsm.sz
      refine Bg c_Z114 mixed (go1 @bytesD.eq_1 ?_)
      refine Uc @bytesD.eq_1 (hd) (go1 @bytesD.eq_1 ?_)
      refine Uc @bytesD.eq_1 (c1) (go1 @bytesD.eq_1 ?_)
      refine Uc @bytesD.eq_1 (c2) (go1 @bytesD.eq_1 ?_)
      exact Uc @bytesD.eq_1 (c2) (go0 @bytesD.eq_1)
  · exact Bg c_Z114 mixed (go0 @bytesD.eq_1)
theorem walk_FnPlanCost (a : Option Addr) (len cap : Nat) (zs : List Int) (w : World) (h : IsRow .u8 w a len cap zs) :
    Calls Tryz.prog 7 #[.slice a len cap] w fun e W' => e = .returned (.bool true) ∧ Below w.heap.size w W' := walk_of does_FnPlanCost a len cap zs w h
end Go.Proofs.YtepkimfmncedcaaGreat
