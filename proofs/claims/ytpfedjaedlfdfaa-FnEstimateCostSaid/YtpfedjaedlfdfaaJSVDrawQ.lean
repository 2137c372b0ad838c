/-
  A plan with a width is one of its kind throughout, and its expressions are valid. No condition.
-/
import Derived.Test.YtpfedjaedlfdfaaJSDcVWidC
import Derived.Test.YtpfedjaedlfdfaaKSDca
import Derived.Test.YtpfedjaedlfdfaaKSVWidE
import Derived.Test.YtpfedjaedlfdfaaKSDcd
import Derived.Test.YtpfedjaedlfdfaaKSVDrawP
set_option maxHeartbeats 4000000
set_option maxRecDepth 100000
set_option linter.unusedVariables false
set_option linter.unusedSimpArgs false
namespace Go.Proofs.Ytpfedjaedlfdfaa
open Go.RowKit
/-- Every part has the fields of its kind, scans a table that is there, and has valid expressions. -/
inductive FineE (ws : List Int) : Pl → Prop
  | mk {p : Pl} (hf : fields p) (hs : p.k = 1 → 0 ≤ p.t ∧ p.t ≤ (ws.length : Int) - 1) (he : ∀ e, e ∈ p.es → ∃ w : Int, eOk e w 8)
      (hfil : p.k = 2 → ∀ x e, p.ks[0]? = some x → p.es[0]? = some e → x.k = 1 → eOk e (scanV ws x.t) 8) (hk : ∀ x, x ∈ p.ks → FineE ws x) : FineE ws p
theorem FineE.fields {ws : List Int} {p : Pl} (h : FineE ws p) : fields p := by cases h with | mk h _ _ _ _ => exact h
theorem FineE.scan {ws : List Int} {p : Pl} (h : FineE ws p) : p.k = 1 → 0 ≤ p.t ∧ p.t ≤ (ws.length : Int) - 1 := by cases h with | mk _ h _ _ _ => exact h
theorem FineE.expr {ws : List Int} {p : Pl} (h : FineE ws p) : ∀ e, e ∈ p.es → ∃ w : Int, eOk e w 8 := by cases h with | mk _ _ h _ _ => exact h
theorem FineE.fil {ws : List Int} {p : Pl} (h : FineE ws p) : p.k = 2 → ∀ x e, p.ks[0]? = some x → p.es[0]? = some e → x.k = 1 → eOk e (scanV ws x.t) 8 := by cases h with | mk _ _ _ h _ => exact h
theorem FineE.kid {ws : List Int} {p x : Pl} (h : FineE ws p) (hx : x ∈ p.ks) : FineE ws x := by cases h with | mk _ _ _ _ h => exact h x hx
end Go.Proofs.Ytpfedjaedlfdfaa
set_option maxHeartbeats 4000000
set_option maxRecDepth 100000
set_option linter.unusedVariables false
set_option linter.unusedSimpArgs false
namespace Go.Proofs.Ytpfedjaedlfdfaa
open Go.RowKit
theorem statsOf_z (w : Nat) (rs : List (List V)) (hw : w < 1000) (hl : rs.length ≤ 400) (hs : RsW w rs) : Does Try.prog 65 [] [taD ⟨w, rs⟩] (stD ⟨rs.length, dsT w rs, nsT w rs⟩) [] := by
  have h1 : ((dsT w rs).map I).length = w := by rw [List.length_map, dsT_len]
  have h2 : ((nsT w rs).map I).length = w := by rw [List.length_map, nsT_len]
  refine (statsOf_own w rs hw hl hs).still (fun d hd => ?_) (.agg _ _ rfl (Lent.cons (.same _ rfl) (Lent.cons (Lent.row 0 rfl h1 _ rfl) (Lent.one (Lent.row 1 rfl h2 _ rfl)))))
  rcases List.mem_cons.1 hd with rfl | hd
  · exact flat_ints _
  · obtain rfl := List.mem_singleton.1 hd
    exact flat_ints _
theorem anyStats_ok {bs : List Nat} (hs : Src bs) (w : Nat) (h0 : 0 < w) (hw : w < 1000) (p : Nat) (hp : p < 400000000) : ∃ (s : St) (q : Nat),
    (Does Try.prog 67 [rdD bs p] [.ref 1000000 0, I w] (stD s) [rdD bs q] ∧ s.ds.length ≤ w + 1 ∧ s.ns.length ≤ w) ∧ p ≤ q ∧ q ≤ p + 200010 := by
  obtain ⟨rs, q, ⟨ht, hl, hrw⟩, hq0, hq1⟩ := randomTable_ok hs w hw 8 (by omega) p (by omega)
  have hst := statsOf_own w rs hw (by omega) hrw
  have hdl := dsT_len w rs
  have hnl := nsT_len w rs
  obtain ⟨k2, hk2, _⟩ := pick_ok hs q (by omega) 2 (by omega)
  obtain ⟨k, hk, _⟩ := pick_ok hs (q + 1) (by omega) 16 (by omega)
  obtain ⟨m, hmm, hm⟩ : ∃ m : Int, ((k2 = 0 ∧ m = rs.length + 100) ∨ (¬ k2 = 0 ∧ m = rs.length)) ∧ (0 ≤ m ∧ m ≤ 600) := by
    by_cases h : k2 = 0
    · exact ⟨rs.length + 100, .inl ⟨h, rfl⟩, by omega⟩
    · exact ⟨rs.length, .inr ⟨h, rfl⟩, by omega⟩
  generalize dsT w rs = ds at *
  generalize nsT w rs = ns at *
  have t1 := take_allL I ds (n := w) hdl.symm
  have t2 := take_allL I ns (n := w) hnl.symm
  by_cases hk0 : k = 0
  · obtain ⟨v, hv, _⟩ := one_ok hs (q + 2) (by omega) [-1, 401] (by decide) (by decide)
    refine ⟨⟨v, ds, ns⟩, q + 3, ⟨?_, by show ds.length ≤ _; omega, by show ns.length ≤ _; omega⟩, by omega, by omega⟩
    by_cases h : k2 = 0
    all_goals
      refine does c_spec_anyStats mixed (Nat.le_of_ble_eq_true rfl) 1 rfl ?_
      conv => arg 3; whnf
      repeat' (first
        | with_reducible refine acc_none ?_ | (conv in hold _=>simp (disch:=omega) only [go_sem])|refine Stp.go ?_|(with_reducible first|refine it_pos rfl ?_|refine it_neg (by decide) ?_|refine st_nil rfl ?_|refine s_op ?_ ?_|exact trivial)|((with_reducible first|refine dw_reg0 ?_|refine dw_regB ?_);(conv=>arg 3;whnf))|(refine Spl.go (fun hq he=>?_) (fun hq he=>?_)<;>first|(exfalso;clear hq;omega)|((try first|(conv=>arg 8;simp only [hq])|(conv=>arg 4;simp only [hq]));clear hq))|((with_reducible first|refine c_split (fun hq=>?_) (fun hq=>?_)|refine q_split (fun hq=>?_) (fun hq=>?_))<;>(try first|(conv=>arg 8;simp only [hq])|(conv=>arg 4;simp only [hq])))
        | (with_reducible show evC _ _ _ _ _ _ _ _ _ _ _ _
           first
           | (refine c_doesR [1000000] (ht) (callOK_of rfl (Nat.le_of_ble_eq_true rfl) rfl ?_ ?_) ?_ ?_
              iterate 2 · repeat' (first|(conv in hold _=>simp (disch:=omega) only [go_sem])|exact trivial|exact Sub.refl _|omega)
              · ((conv=>rhs;simp (disch:=omega) only [go_sem]); try rfl))
           | (refine c_doesR [3000001, 3000002] (hst) (callOK_of rfl (Nat.le_of_ble_eq_true rfl) rfl ?_ ?_) ?_ ?_
              iterate 2 · repeat' (first|(conv in hold _=>simp (disch:=omega) only [go_sem])|exact trivial|exact Sub.refl _|omega)
              · ((conv=>rhs;simp (disch:=omega) only [go_sem]); try rfl))
           | (refine c_doesR [1000000] (hk2) (callOK_of rfl (Nat.le_of_ble_eq_true rfl) rfl ?_ ?_) ?_ ?_
              iterate 2 · repeat' (first|(conv in hold _=>simp (disch:=omega) only [go_sem])|exact trivial|exact Sub.refl _|omega)
              · ((conv=>rhs;simp (disch:=omega) only [go_sem]); try rfl))
           | (refine c_doesR [1000000] (hk) (callOK_of rfl (Nat.le_of_ble_eq_true rfl) rfl ?_ ?_) ?_ ?_
              iterate 2 · repeat' (first|(conv in hold _=>simp (disch:=omega) only [go_sem])|exact trivial|exact Sub.refl _|omega)
              · ((conv=>rhs;simp (disch:=omega) only [go_sem]); try rfl))
           | (refine c_doesR [1000000] (hv) (callOK_of rfl (Nat.le_of_ble_eq_true rfl) rfl ?_ ?_) ?_ ?_
              iterate 2 · repeat' (first|(conv in hold _=>simp (disch:=omega) only [go_sem])|exact trivial|exact Sub.refl _|omega)
              · ((conv=>rhs;simp (disch:=omega) only [go_sem]); try rfl)))|exact Sub.refl _|omega)
      refine fin_wk (wk_frzO 2000004 3000001 (by decide) (by decide) rfl (by decide) rfl ?_) ?_
      rotate_left
      (conv in hold _=>simp (disch:=omega) only [go_sem, t1, hdl, Nat.le_refl])
      refine fin_wk (wk_frzO 2000004 3000002 (by decide) (by decide) rfl (by decide) rfl ?_) ?_
      rotate_left
      (conv in hold _=>simp (disch:=omega) only [go_sem, t2, hnl, Nat.le_refl])
      all_goals first
        | exact ints_pur _
        | skip
      refine fin_L [1000000] ?_ ?_ rfl ?_
      repeat' (first|(conv in hold _=>simp (disch:=omega) only [go_sem])|exact trivial|exact Sub.refl _|omega)
  by_cases hk1 : k = 1
  · have hpos : (ns.map I)[0]? = some (I (ns[0]'(by omega))) := by
      rw [List.getElem?_map, List.getElem?_eq_getElem (by omega)]
      rfl
    have hsi : (ns.map I).set 0 (I (m + 1)) = (ns.set 0 (m + 1)).map I := by rw [List.map_set]
    have t3 : ((ns.set 0 (m + 1)).map I).take w = (ns.set 0 (m + 1)).map I := take_allL I _ (by rw [List.length_set]; exact hnl.symm)
    refine ⟨⟨m, ds, ns.set 0 (m + 1)⟩, q + 2, ⟨?_, by show ds.length ≤ _; omega, by show (ns.set 0 (m + 1)).length ≤ _; rw [List.length_set]; omega⟩, by omega, by omega⟩
    rcases hmm with ⟨h, rfl⟩ | ⟨h, rfl⟩
    all_goals
      refine does c_spec_anyStats mixed (Nat.le_of_ble_eq_true rfl) 1 rfl ?_
      conv => arg 3; whnf
      repeat' (first
        | with_reducible refine acc_none ?_ | (conv in hold _=>simp (disch:=omega) only [go_sem, hpos])|refine Stp.go ?_|(with_reducible first|refine it_pos rfl ?_|refine it_neg (by decide) ?_|refine st_nil rfl ?_|refine s_op ?_ ?_|exact trivial)|((with_reducible first|refine dw_reg0 ?_|refine dw_regB ?_);(conv=>arg 3;whnf))|(refine Spl.go (fun hq he=>?_) (fun hq he=>?_)<;>first|(exfalso;clear hq;omega)|((try first|(conv=>arg 8;simp only [hq])|(conv=>arg 4;simp only [hq]));clear hq))|((with_reducible first|refine c_split (fun hq=>?_) (fun hq=>?_)|refine q_split (fun hq=>?_) (fun hq=>?_))<;>(try first|(conv=>arg 8;simp only [hq])|(conv=>arg 4;simp only [hq])))
        | (with_reducible show evC _ _ _ _ _ _ _ _ _ _ _ _
           first
           | (refine c_doesR [1000000] (ht) (callOK_of rfl (Nat.le_of_ble_eq_true rfl) rfl ?_ ?_) ?_ ?_
              iterate 2 · repeat' (first|(conv in hold _=>simp (disch:=omega) only [go_sem, hpos])|exact trivial|exact Sub.refl _|omega)
              · ((conv=>rhs;simp (disch:=omega) only [go_sem, hpos]); try rfl))
           | (refine c_doesR [3000001, 3000002] (hst) (callOK_of rfl (Nat.le_of_ble_eq_true rfl) rfl ?_ ?_) ?_ ?_
              iterate 2 · repeat' (first|(conv in hold _=>simp (disch:=omega) only [go_sem, hpos])|exact trivial|exact Sub.refl _|omega)
              · ((conv=>rhs;simp (disch:=omega) only [go_sem, hpos]); try rfl))
           | (refine c_doesR [1000000] (hk2) (callOK_of rfl (Nat.le_of_ble_eq_true rfl) rfl ?_ ?_) ?_ ?_
              iterate 2 · repeat' (first|(conv in hold _=>simp (disch:=omega) only [go_sem, hpos])|exact trivial|exact Sub.refl _|omega)
              · ((conv=>rhs;simp (disch:=omega) only [go_sem, hpos]); try rfl))
           | (refine c_doesR [1000000] (hk) (callOK_of rfl (Nat.le_of_ble_eq_true rfl) rfl ?_ ?_) ?_ ?_
              iterate 2 · repeat' (first|(conv in hold _=>simp (disch:=omega) only [go_sem, hpos])|exact trivial|exact Sub.refl _|omega)
              · ((conv=>rhs;simp (disch:=omega) only [go_sem, hpos]); try rfl)))|exact Sub.refl _|omega)
      refine fin_wk (wk_frzO 2000004 3000001 (by decide) (by decide) rfl (by decide) rfl ?_) ?_
      rotate_left
      (conv in hold _=>simp (disch:=omega) only [go_sem, t1, hdl, Nat.le_refl])
      refine fin_wk (wk_frzO 2000004 3000002 (by decide) (by decide) rfl (by decide) rfl ?_) ?_
      rotate_left
      (conv in hold _=>simp (disch:=omega) only [go_sem, hsi, t3, hnl, List.length_set, Nat.le_refl])
      all_goals first
        | exact ints_pur _
        | (rw [hsi]; exact ints_pur _)
        | skip
      refine fin_L [1000000] ?_ ?_ rfl ?_
      repeat' (first|(conv in hold _=>simp (disch:=omega) only [go_sem])|exact trivial|exact Sub.refl _|omega)
  by_cases hk2' : k = 2
  · have t4 : (ds.map I ++ [I 0]) = (ds ++ [0]).map I := by rw [List.map_append]; rfl
    have t5 : ((ds ++ [0]).map I).take (w + 1) = (ds ++ [0]).map I := take_allL I _ (by rw [List.length_append, hdl]; rfl)
    refine ⟨⟨m, ds ++ [0], ns⟩, q + 2, ⟨?_, by show (ds ++ [0]).length ≤ _; rw [List.length_append, List.length_singleton]; omega, by show ns.length ≤ _; omega⟩, by omega, by omega⟩
    rcases hmm with ⟨h, rfl⟩ | ⟨h, rfl⟩
    all_goals
      refine does c_spec_anyStats mixed (Nat.le_of_ble_eq_true rfl) 1 rfl ?_
      conv => arg 3; whnf
      repeat' (first
        | with_reducible refine acc_none ?_ | (conv in hold _=>simp (disch:=omega) only [go_sem, t1, hdl])|refine Stp.go ?_|(with_reducible first|refine it_pos rfl ?_|refine it_neg (by decide) ?_|refine st_nil rfl ?_|refine s_op ?_ ?_|exact trivial)|((with_reducible first|refine dw_reg0 ?_|refine dw_regB ?_);(conv=>arg 3;whnf))|(refine Spl.go (fun hq he=>?_) (fun hq he=>?_)<;>first|(exfalso;clear hq;omega)|((try first|(conv=>arg 8;simp only [hq])|(conv=>arg 4;simp only [hq]));clear hq))|((with_reducible first|refine c_split (fun hq=>?_) (fun hq=>?_)|refine q_split (fun hq=>?_) (fun hq=>?_))<;>(try first|(conv=>arg 8;simp only [hq])|(conv=>arg 4;simp only [hq])))
        | (with_reducible show evC _ _ _ _ _ _ _ _ _ _ _ _
           first
           | (refine c_doesR [1000000] (ht) (callOK_of rfl (Nat.le_of_ble_eq_true rfl) rfl ?_ ?_) ?_ ?_
              iterate 2 · repeat' (first|(conv in hold _=>simp (disch:=omega) only [go_sem, t1, hdl])|exact trivial|exact Sub.refl _|omega)
              · ((conv=>rhs;simp (disch:=omega) only [go_sem, t1, hdl]); try rfl))
           | (refine c_doesR [3000001, 3000002] (hst) (callOK_of rfl (Nat.le_of_ble_eq_true rfl) rfl ?_ ?_) ?_ ?_
              iterate 2 · repeat' (first|(conv in hold _=>simp (disch:=omega) only [go_sem, t1, hdl])|exact trivial|exact Sub.refl _|omega)
              · ((conv=>rhs;simp (disch:=omega) only [go_sem, t1, hdl]); try rfl))
           | (refine c_doesR [1000000] (hk2) (callOK_of rfl (Nat.le_of_ble_eq_true rfl) rfl ?_ ?_) ?_ ?_
              iterate 2 · repeat' (first|(conv in hold _=>simp (disch:=omega) only [go_sem, t1, hdl])|exact trivial|exact Sub.refl _|omega)
              · ((conv=>rhs;simp (disch:=omega) only [go_sem, t1, hdl]); try rfl))
           | (refine c_doesR [1000000] (hk) (callOK_of rfl (Nat.le_of_ble_eq_true rfl) rfl ?_ ?_) ?_ ?_
              iterate 2 · repeat' (first|(conv in hold _=>simp (disch:=omega) only [go_sem, t1, hdl])|exact trivial|exact Sub.refl _|omega)
              · ((conv=>rhs;simp (disch:=omega) only [go_sem, t1, hdl]); try rfl)))|exact Sub.refl _|omega)
      refine fin_wk (wk_frzO 2000004 2000038 (by decide) (by decide) rfl (by decide) rfl ?_) ?_
      rotate_left
      (conv in hold _=>simp (disch:=omega) only [go_sem, t1, t4, t5, hdl, Nat.le_refl])
      refine fin_wk (wk_frzO 2000004 3000002 (by decide) (by decide) rfl (by decide) rfl ?_) ?_
      rotate_left
      (conv in hold _=>simp (disch:=omega) only [go_sem, t2, hnl, Nat.le_refl])
      all_goals first
        | exact ints_pur _
        | (rw [t4]; exact ints_pur _)
        | skip
      refine fin_L [1000000] ?_ ?_ rfl ?_
      repeat' (first|(conv in hold _=>simp (disch:=omega) only [go_sem])|exact trivial|exact Sub.refl _|omega)
  · refine ⟨⟨m, ds, ns⟩, q + 2, ⟨?_, by show ds.length ≤ _; omega, by show ns.length ≤ _; omega⟩, by omega, by omega⟩
    rcases hmm with ⟨h, rfl⟩ | ⟨h, rfl⟩
    all_goals
      refine does c_spec_anyStats mixed (Nat.le_of_ble_eq_true rfl) 1 rfl ?_
      conv => arg 3; whnf
      repeat' (first
        | with_reducible refine acc_none ?_ | (conv in hold _=>simp (disch:=omega) only [go_sem])|refine Stp.go ?_|(with_reducible first|refine it_pos rfl ?_|refine it_neg (by decide) ?_|refine st_nil rfl ?_|refine s_op ?_ ?_|exact trivial)|((with_reducible first|refine dw_reg0 ?_|refine dw_regB ?_);(conv=>arg 3;whnf))|(refine Spl.go (fun hq he=>?_) (fun hq he=>?_)<;>first|(exfalso;clear hq;omega)|((try first|(conv=>arg 8;simp only [hq])|(conv=>arg 4;simp only [hq]));clear hq))|((with_reducible first|refine c_split (fun hq=>?_) (fun hq=>?_)|refine q_split (fun hq=>?_) (fun hq=>?_))<;>(try first|(conv=>arg 8;simp only [hq])|(conv=>arg 4;simp only [hq])))
        | (with_reducible show evC _ _ _ _ _ _ _ _ _ _ _ _
           first
           | (refine c_doesR [1000000] (ht) (callOK_of rfl (Nat.le_of_ble_eq_true rfl) rfl ?_ ?_) ?_ ?_
              iterate 2 · repeat' (first|(conv in hold _=>simp (disch:=omega) only [go_sem])|exact trivial|exact Sub.refl _|omega)
              · ((conv=>rhs;simp (disch:=omega) only [go_sem]); try rfl))
           | (refine c_doesR [3000001, 3000002] (hst) (callOK_of rfl (Nat.le_of_ble_eq_true rfl) rfl ?_ ?_) ?_ ?_
              iterate 2 · repeat' (first|(conv in hold _=>simp (disch:=omega) only [go_sem])|exact trivial|exact Sub.refl _|omega)
              · ((conv=>rhs;simp (disch:=omega) only [go_sem]); try rfl))
           | (refine c_doesR [1000000] (hk2) (callOK_of rfl (Nat.le_of_ble_eq_true rfl) rfl ?_ ?_) ?_ ?_
              iterate 2 · repeat' (first|(conv in hold _=>simp (disch:=omega) only [go_sem])|exact trivial|exact Sub.refl _|omega)
              · ((conv=>rhs;simp (disch:=omega) only [go_sem]); try rfl))
           | (refine c_doesR [1000000] (hk) (callOK_of rfl (Nat.le_of_ble_eq_true rfl) rfl ?_ ?_) ?_ ?_
              iterate 2 · repeat' (first|(conv in hold _=>simp (disch:=omega) only [go_sem])|exact trivial|exact Sub.refl _|omega)
              · ((conv=>rhs;simp (disch:=omega) only [go_sem]); try rfl)))|exact Sub.refl _|omega)
      refine fin_wk (wk_frzO 2000004 3000001 (by decide) (by decide) rfl (by decide) rfl ?_) ?_
      rotate_left
      (conv in hold _=>simp (disch:=omega) only [go_sem, t1, hdl, Nat.le_refl])
      refine fin_wk (wk_frzO 2000004 3000002 (by decide) (by decide) rfl (by decide) rfl ?_) ?_
      rotate_left
      (conv in hold _=>simp (disch:=omega) only [go_sem, t2, hnl, Nat.le_refl])
      all_goals first
        | exact ints_pur _
        | skip
      refine fin_L [1000000] ?_ ?_ rfl ?_
      repeat' (first|(conv in hold _=>simp (disch:=omega) only [go_sem])|exact trivial|exact Sub.refl _|omega)
end Go.Proofs.Ytpfedjaedlfdfaa
