/-
  Drawn plans that may be invalid, with widths. No condition.
-/
import Derived.Test.YtibknjpbbeackaaGreatKSDca
import Derived.Test.YtibknjpbbeackaaGreatJSDcg
import Derived.Test.YtibknjpbbeackaaGreatJSVPiL
import Derived.Test.YtibknjpbbeackaaGreatJSVGo
import Derived.Test.YtibknjpbbeackaaGreatKSDcf
import Derived.Test.YtibknjpbbeackaaGreatKSVPiM
import Derived.Test.YtibknjpbbeackaaGreatJSVPlanC
set_option maxHeartbeats 4000000
set_option maxRecDepth 100000
set_option linter.unusedVariables false
set_option linter.unusedSimpArgs false
namespace Go.Proofs.YtibknjpbbeackaaGreat
open Go.RowKit
theorem es_pur (es : List E) : D.purL (es.map eD) = true := exprs_pur es
theorem take_allL {α : Type} (f : α → D) (l : List α) {n : Nat} (h : n = l.length) : (l.map f).take n = l.map f := List.take_of_length_le (by rw [List.length_map]; omega)
theorem rb_kind {x : Pl} {v : Int} (hv : v ∈ [(0 : Int), 9, 1, 4]) (h : rb x ≤ 60) (h6 : x.k = 6 → x.es = []) (hf : fields (.mk v x.t x.es x.cs x.ks)) : rb (.mk v x.t x.es x.cs x.ks) ≤ 60 := by
  rw [rb_eq] at h ⊢
  show rbF v (rbL x.ks) ≤ 60
  obtain ⟨f1, f2, _, _, f5, _⟩ := hf
  change 1 ≤ v ∧ v ≤ 8 at f1
  change v = 1 → x.ks.length = 0 at f2
  change v = 2 ∨ v = 4 ∨ v = 5 → x.es.length = 1 at f5
  simp only [List.mem_cons, List.not_mem_nil, or_false] at hv
  rcases hv with rfl | rfl | rfl | rfl
  · omega
  · omega
  · rw [List.length_eq_zero_iff.1 (f2 rfl)]
    decide
  · have hk : x.k ≠ 6 := fun hk => by
      have := f5 (Or.inr (Or.inl rfl))
      rw [h6 hk] at this
      cases this
    generalize rbL x.ks = l at h ⊢
    match l with
    | [] => decide
    | [a] => exact h
    | a :: b :: _ =>
      have h' : (if x.k = 6 then a + b else a * (b + 1)) ≤ 60 := h
      rw [if_neg hk] at h'
      show (if (4 : Int) = 6 then a + b else a * (b + 1)) ≤ 60
      rw [if_neg (by decide)]
      exact h'
theorem anyPlan_ok {bs : List Nat} (hs : Src bs) {ws : List Int} (hw : wsOk ws) (p : Nat) (hp : p < 90000000) : ∃ (x : Pl) (q : Nat), Does Tryz.prog 51 [rdD bs p, wrD ws] [.ref 1000000 0, .own 1000001 1 ws.length] (pD x) [rdD bs q, wrD ws] ∧ p ≤ q ∧ q ≤ p + 23000 ∧ psz x ≤ 11100 ∧ (fields x → rb x ≤ 60) := by
  obtain ⟨x, q, hx, hq0, hq1, hz, hrb, h66⟩ := randomPlan_own hs hw p (by omega)
  obtain ⟨k, hk, k0, k1, _⟩ := pick_ok hs q (by omega) 18 (by omega)
  have t1 := take_allL eD x.es rfl
  have t2 := take_allL I x.cs rfl
  rw [psz_eq] at hz
  by_cases hk0 : k = 0
  · obtain ⟨v, hv, hvm⟩ := one_ok hs (q + 1) (by omega) [0, 9, 1, 4] (by decide) (by decide)
    refine ⟨.mk v x.t x.es x.cs x.ks, q + 2, ?_, by omega, by omega, by rw [psz_eq]; exact Nat.le_trans hz (by omega), fun hf => rb_kind hvm hrb h66 hf⟩
    refine Bk c_Z156 mixed 2 (go1F trivial ?_)
    refine UcR [1000000, 1000001, 3000001, 3000002] trivial (hx) (go1F trivial ?_)
    refine UcR [1000000] trivial (hk) (go1F trivial ?_)
    refine UcR [1000000] trivial (hv) (go1F trivial ?_)
    refine fin_wk (wk_frzO 2000004 3000001 (by decide) (by decide) rfl (by decide) rfl ?_) ?_
    rotate_left
    (conv in hold _=>simp (disch:=omega) only [go_sem, t1, Nat.le_refl])
    refine fin_wk (wk_frzO 2000004 3000002 (by decide) (by decide) rfl (by decide) rfl ?_) ?_
    rotate_left
    (conv in hold _=>simp (disch:=omega) only [go_sem, t2, Nat.le_refl])
    all_goals first
      | exact es_pur _
      | exact ints_pur _
      | skip
    refine fin_L [1000000, 1000001] ?_ ?_ rfl ?_
    repeat' (first|(conv in hold _=>simp (disch:=omega) only [go_sem])|exact trivial|exact Sub.refl _|omega)
  by_cases hk1 : k = 1
  · obtain ⟨v, hv, _⟩ := one_ok hs (q + 1) (by omega) [-1, 4, 1] (by decide) (by decide)
    refine ⟨.mk x.k v x.es x.cs x.ks, q + 2, ?_, by omega, by omega, by rw [psz_eq]; exact Nat.le_trans hz (by omega), fun _ => by rw [rb_eq] at hrb ⊢; exact hrb⟩
    refine Bk c_Z156 mixed 2 (go1F trivial ?_)
    refine UcR [1000000, 1000001, 3000001, 3000002] trivial (hx) (go1F trivial ?_)
    refine UcR [1000000] trivial (hk) (go1F trivial ?_)
    refine UcR [1000000] trivial (hv) (go1F trivial ?_)
    refine fin_wk (wk_frzO 2000004 3000001 (by decide) (by decide) rfl (by decide) rfl ?_) ?_
    rotate_left
    (conv in hold _=>simp (disch:=omega) only [go_sem, t1, Nat.le_refl])
    refine fin_wk (wk_frzO 2000004 3000002 (by decide) (by decide) rfl (by decide) rfl ?_) ?_
    rotate_left
    (conv in hold _=>simp (disch:=omega) only [go_sem, t2, Nat.le_refl])
    all_goals first
      | exact es_pur _
      | exact ints_pur _
      | skip
    refine fin_L [1000000, 1000001] ?_ ?_ rfl ?_
    repeat' (first|(conv in hold _=>simp (disch:=omega) only [go_sem])|exact trivial|exact Sub.refl _|omega)
  by_cases hk2 : k = 2
  · obtain ⟨v, hv, _⟩ := one_ok hs (q + 1) (by omega) [0, 9] (by decide) (by decide)
    have t4 : (x.cs.map I ++ [I v]) = (x.cs ++ [v]).map I := by rw [List.map_append]; rfl
    have t5 : ((x.cs ++ [v]).map I).take (x.cs.length + 1) = (x.cs ++ [v]).map I := take_allL I _ (by rw [List.length_append]; rfl)
    refine ⟨.mk x.k x.t x.es (x.cs ++ [v]) x.ks, q + 2, ?_, by omega, by omega, ?_, fun _ => by rw [rb_eq] at hrb ⊢; exact hrb⟩
    · refine Bk c_Z156 mixed 2 (go1F trivial ?_)
      refine UcR [1000000, 1000001, 3000001, 3000002] trivial (hx) (go1F trivial ?_)
      refine UcR [1000000] trivial (hk) (go1F trivial ?_)
      refine UcR [1000000] @t2 (hv) (go1F @t2 ?_)
      refine fin_wk (wk_frzO 2000004 3000001 (by decide) (by decide) rfl (by decide) rfl ?_) ?_
      rotate_left
      (conv in hold _=>simp (disch:=omega) only [go_sem, t1, Nat.le_refl])
      refine fin_wk (wk_frzO 2000004 2000031 (by decide) (by decide) rfl (by decide) rfl ?_) ?_
      rotate_left
      (conv in hold _=>simp (disch:=omega) only [go_sem, t2, t4, t5, Nat.le_refl])
      all_goals first
        | exact es_pur _
        | exact ints_pur _
        | (show D.purL (x.cs.map I ++ [I v]) = true; rw [t4]; exact ints_pur _)
        | skip
      refine fin_L [1000000, 1000001] ?_ ?_ rfl ?_
      repeat' (first|(conv in hold _=>simp (disch:=omega) only [go_sem])|exact trivial|exact Sub.refl _|omega)
    · rw [psz_eq]
      show eszL x.es + (x.cs ++ [v]).length + pszL x.ks ≤ _
      rw [List.length_append, List.length_singleton]
      omega
  by_cases hk3 : k = 3
  · have hel := eszL_len x.es
    obtain ⟨e, q2, hae, he0, he1, hez⟩ := anyExpr_ok hs 2 (by omega) (q + 1) (by omega)
    have t4 : (x.es.map eD ++ [.agg [I e.k, I e.c, Bo e.v.b, I e.v.n, .sl 5 (e.ks.map eD)]]) = (x.es ++ [e]).map eD := by rw [← eD_eq, List.map_append]; rfl
    have t5 : ((x.es ++ [e]).map eD).take (x.es.length + 1) = (x.es ++ [e]).map eD := take_allL eD _ (by rw [List.length_append]; rfl)
    refine ⟨.mk x.k x.t (x.es ++ [e]) x.cs x.ks, q2, ?_, by omega, by omega, ?_, fun _ => by rw [rb_eq] at hrb ⊢; exact hrb⟩
    · refine Bk c_Z156 mixed 2 (go1F trivial ?_)
      refine UcR [1000000, 1000001, 3000001, 3000002] trivial (hx) (go1F trivial ?_)
      refine UcR [1000000] trivial (hk) (go1F trivial ?_)
      refine UcR [1000000] @t1 (hae) (go1F @t1 ?_)
      refine fin_wk (wk_frzO 2000004 2000040 (by decide) (by decide) rfl (by decide) rfl ?_) ?_
      rotate_left
      (conv in hold _=>simp (disch:=omega) only [go_sem, t1, t4, t5, Nat.le_refl])
      refine fin_wk (wk_frzO 2000004 3000002 (by decide) (by decide) rfl (by decide) rfl ?_) ?_
      rotate_left
      (conv in hold _=>simp (disch:=omega) only [go_sem, t2, Nat.le_refl])
      all_goals first
        | exact es_pur _
        | exact ints_pur _
        | (rw [t4]; exact es_pur _)
        | skip
      refine fin_L [1000000, 1000001] ?_ ?_ rfl ?_
      repeat' (first|(conv in hold _=>simp (disch:=omega) only [go_sem])|exact trivial|exact Sub.refl _|omega)
    · rw [psz_eq]
      show eszL (x.es ++ [e]) + x.cs.length + pszL x.ks ≤ _
      rw [eszL_append, eszL_1]
      omega
  · refine ⟨x, q + 1, ?_, by omega, by omega, by rw [psz_eq]; omega, fun _ => hrb⟩
    refine Bk c_Z156 mixed 2 (go1F trivial ?_)
    refine UcR [1000000, 1000001, 3000001, 3000002] trivial (hx) (go1F trivial ?_)
    refine UcR [1000000] trivial (hk) (go1F trivial ?_)
    refine fin_wk (wk_frzO 2000004 3000001 (by decide) (by decide) rfl (by decide) rfl ?_) ?_
    rotate_left
    (conv in hold _=>simp (disch:=omega) only [go_sem, t1, Nat.le_refl])
    refine fin_wk (wk_frzO 2000004 3000002 (by decide) (by decide) rfl (by decide) rfl ?_) ?_
    rotate_left
    (conv in hold _=>simp (disch:=omega) only [go_sem, t2, Nat.le_refl])
    all_goals first
      | exact es_pur _
      | exact ints_pur _
      | skip
    refine fin_L [1000000, 1000001] ?_ ?_ rfl ?_
    repeat' (first|(conv in hold _=>simp (disch:=omega) only [go_sem])|exact trivial|exact Sub.refl _|omega)
end Go.Proofs.YtibknjpbbeackaaGreat
set_option maxHeartbeats 4000000
set_option maxRecDepth 100000
set_option linter.unusedVariables false
set_option linter.unusedSimpArgs false
namespace Go.Proofs.YtibknjpbbeackaaGreat
open Go.RowKit
theorem resultOf_scan {p : Pl} {db kids : List Ta} {j : Nat} {t : Ta} (hk : p.k = 1) (ht : p.t = (j : Int)) (hj : db[j]? = some t) : Does Tryz.prog 34 [] [pD p, tasD kids, tasD db] (taD t) [] := by
  have hlt := (List.getElem?_eq_some_iff.1 hj).1
  exact Bg c_Z134 mixed (go0 (cj3 @hk @ht @hj))
theorem resultOf_op {p : Pl} {db kids : List Ta} {L : List (List V)} (hk : p.k ≠ 1) (hO : OpI p kids L) (hl : L.length ≤ 1000000) (hn : kids.length ≤ 1000) (h0 : 0 < kids.length) (hw : ∀ t, t ∈ kids → 0 ≤ t.w ∧ t.w ≤ 6) (hc : p.cs.length ≤ 1048576) :
    Does Tryz.prog 34 [] [pD p, tasD kids, tasD db] (taD ⟨fromV p (kids.map Ta.w), colL L⟩) [] := by
  obtain ⟨f, caps, hf, hcp, h1, hY⟩ := hO
  have hren := fun K => ren_pure.renL_pure K caps hcp
  have h2 := collectRows_ok hf hcp L hl hY
  have hnl : (kids.map Ta.w).length = kids.length := List.length_map _
  have h3 := widthFrom_ok p (kids.map Ta.w) (by omega) hc (fun j x hj => by
    rw [List.getElem?_map] at hj
    cases hk : kids[j]? with
    | none => rw [hk] at hj; cases hj
    | some t =>
      rw [hk] at hj
      obtain rfl : t.w = x := by simpa using hj
      exact hw t (List.mem_of_getElem? hk)) (by omega)
  have htk : ((kids.map Ta.w).map I).take kids.length = (kids.map Ta.w).map I := by rw [← hnl]; exact take_all I _
  refine Bg c_Z134 mixed (go1 (cj2 @hcp @hren) ?_)
  refine dw_for (c := 3) (l := fun i => [(1, tasD kids), (3, .ref 1000000 0), (6, .ref 1000001 0), (7, .own 1000002 1 i), (18, tasD kids), (19, I kids.length), (20, I i), (1000000, .obj [I p.k, I p.t, .sl 5 (p.es.map eD), intsD p.cs, .sl 5 (p.ks.map pD)]), (1000001, .obj [I 0, .nul]), (1000002, .row 1 (((kids.map Ta.w).take i).map I))]) kids.length (fun _ => True) 0 trivial ((wk_row 7 2000090 1 (by decide) (by decide) rfl rfl).trans (Wk.list [2000003, 2000006, 2000090] rfl rfl ?_)) (fun i hi _ => ?_) (Nat.zero_le _)
  · repeat' (first|(conv in hold _=>simp (disch:=omega) only [go_sem])|exact trivial|exact Sub.refl _|omega)
    first | exact rfl | exact ⟨rfl, rfl⟩ | exact ⟨rfl, rfl, rfl⟩
  · have htl : ((kids.map Ta.w).take i).length = i := take_len (by omega)
    have hmk : (((kids.map Ta.w).take i).map I).take i = ((kids.map Ta.w).take i).map I := take_map I (by omega)
    rcases at_or_end hi with ⟨x, hx, hlt⟩ | rfl
    · have hnx : (kids.map Ta.w).take (i + 1) = (kids.map Ta.w).take i ++ [x.w] := take_next (by rw [List.getElem?_map, hx]; rfl)
      refine go1 @hx ?_
      refine ⟨hlt, trivial, Wk.list [1000000, 1000001, 2000028] rfl rfl ?_⟩
      repeat' (first|(conv in hold _=>simp (disch:=omega) only [go_sem, List.length_map, htl])|exact trivial|exact Sub.refl _|omega)
      rw [hmk, hnx, List.map_append]
      rfl
    · have e1 : (kids.map Ta.w).take kids.length = kids.map Ta.w := List.take_of_length_le (by omega)
      rw [e1]
      refine go1C trivial ?_
      refine s_pre (pre_frz (t := 31) (g := 1000002) (by decide) (by decide) rfl ?_) ?_
      rotate_left
      refine go1 (cj2 @htk @hnl) ?_
      · refine Uc (cj2 @hcp @hren) (h3) (go1 (cj2 @hcp @hren) ?_)
        refine Uc (cj2 @hcp @hren) (h1) (go1 (cj2 @hcp @hren) ?_)
        exact Uc (cj2 @hcp @hren) (h2) (go0 (cj2 @hcp @hren))
      · exact ints_pur _
theorem evalPlan1_ok {p : Pl} {db kids : List Ta} {t : Ta} (h : Does Tryz.prog 34 [] [pD p, tasD kids, tasD db] (taD t) []) : Does Tryz.prog 33 [] [pD p, tasD kids, .ptr [tasD db]] (taD t) [] := by
  refine Bg c_Z94 mixed (go1 trivial ?_)
  exact Uc trivial (h) (go0 trivial)
theorem foldT_step {p : Pl} {db q : List Ta} {t : Ta} (hl : q.length = p.ks.length) (hk4 : p.ks.length ≤ 1000)
    (hk : ∀ (i : Nat) (x : Pl) (c : Ta), p.ks[i]? = some x → q[i]? = some c → Does Tryz.prog 32 [] [pD x, .fn 33 [.ptr [tasD db]]] (taD c) [])
    (r : Does Tryz.prog 34 [] [pD p, tasD q, tasD db] (taD t) []) : Does Tryz.prog 32 [] [pD p, .fn 33 [.ptr [tasD db]]] (taD t) [] := by
  have h1 := evalPlan1_ok r
  refine Bg c_Z19 mixed (go1 trivial ?_)
  refine dw_for (c := 3) (l := fun i => [(1, .fn 33 [.ptr [tasD db]]), (2, .ref 1000000 0), (4, .ref 1000001 0), (5, .own 1000002 2 i), (9, .sl 5 (p.ks.map pD)), (10, I p.ks.length), (11, I i), (1000000, .obj [I p.k, I p.t, .sl 5 (p.es.map eD), intsD p.cs, .sl 5 (p.ks.map pD)]), (1000001, .obj [I 0, .nul]), (1000002, .row 2 ((q.take i).map taD))]) p.ks.length (fun _ => True) 0 trivial ((wk_row 5 2000090 2 (by decide) (by decide) rfl rfl).trans (Wk.list [2000002, 2000004, 2000090] rfl rfl ?_)) (fun i hi _ => ?_) (Nat.zero_le _)
  · repeat' (first|(conv in hold _=>simp (disch:=omega) only [go_sem])|exact trivial|exact Sub.refl _|omega)
    first | exact rfl | exact ⟨rfl, rfl⟩ | exact ⟨rfl, rfl, rfl⟩
  · have htl : (q.take i).length = i := by rw [List.length_take]; omega
    have hmk := take_map taD (vs := q) (i := i) (by omega)
    rcases at_or_end hi with ⟨x, hx, hlt⟩ | rfl
    · obtain ⟨c, hqx⟩ : ∃ c, q[i]? = some c := ⟨_, List.getElem?_eq_getElem (by omega)⟩
      have hix := hk i x c hx hqx
      have hnx := take_next hqx
      refine go1 @hx ?_
      refine Uc @htl (hix) (go1 @htl ?_)
      refine ⟨hlt, trivial, Wk.list [1000000, 1000001, 2000020] rfl rfl ?_⟩
      repeat' (first|(conv in hold _=>simp (disch:=omega) only [go_sem, List.length_map, htl])|exact trivial|exact Sub.refl _|omega)
      rw [hmk, hnx, List.map_append]
      rfl
    · have e1 : q.take p.ks.length = q := List.take_of_length_le (by omega)
      have e2 : (q.map taD).take p.ks.length = q.map taD := List.take_of_length_le (by rw [List.length_map]; omega)
      rw [e1]
      refine go1C trivial ?_
      refine s_pre (pre_frz (t := 24) (g := 1000002) (by decide) (by decide) rfl ?_) ?_
      rotate_left
      refine go1 (cj2 @e2 @hl) ?_
      · refine v_fn ((by kernel_rfl)) ?_
        exact Uc trivial (h1) (go0 trivial)
      · exact tas_pur _
end Go.Proofs.YtibknjpbbeackaaGreat
