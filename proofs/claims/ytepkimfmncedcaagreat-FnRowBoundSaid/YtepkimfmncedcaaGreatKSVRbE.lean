/-
  Results have at most as many rows as the bound. No condition.
-/
import Derived.Test.YtepkimfmncedcaaGreatJSVCplD
import Derived.Test.YtepkimfmncedcaaGreatJSVRbK
set_option maxHeartbeats 4000000
set_option maxRecDepth 100000
set_option linter.unusedVariables false
set_option linter.unusedSimpArgs false
namespace Go.Proofs.YtepkimfmncedcaaGreat
open Go.RowKit
def cntsOf (db : List Ta) : List Int := db.map (fun t => (t.rows.length : Int))
theorem joiF_len (n : Nat) (e : E) (ra rb : List (List V)) : (joiL false n e ra rb).length ≤ ra.length * rb.length := by
  rw [joi_flat, ← pair_len]
  exact List.length_filter_le _ _
theorem outT_len (n : Nat) (e : E) (r : List V) (rb : List (List V)) : (outL true n e r rb).length ≤ max rb.length 1 := by
  have := mtL_len e r rb
  unfold outL
  split
  · rw [List.length_singleton]; omega
  · omega
theorem joiT_len (n : Nat) (e : E) (rb : List (List V)) : ∀ ra : List (List V), (joiL true n e ra rb).length ≤ ra.length * max rb.length 1
  | [] => Nat.zero_le _
  | a :: ra => by
    have h1 := outT_len n e a rb
    have h2 := joiT_len n e rb ra
    have h3 : joiL true n e (a :: ra) rb = outL true n e a rb ++ joiL true n e ra rb := List.flatMap_cons
    rw [h3, List.length_append, List.length_cons, Nat.add_mul]
    omega
theorem grp_0 (rs : List (List V)) : (grpL [] rs).length ≤ 1 := by
  have h := groK_all [] rs
  have hk : ∀ k, k ∈ (groG [] rs).1 → k = [] := fun k hk => by
    obtain ⟨r, _, rfl⟩ := (h.mem k).1 hk
    rfl
  have h1 : (groG [] rs).1.length ≤ 1 := by
    have hn := h.one
    match hg : (groG [] rs).1 with
    | [] => exact Nat.zero_le _
    | [a] => exact Nat.le_refl _
    | a :: b :: l =>
      rw [hg] at hk hn
      have ha := hk a (List.mem_cons_self ..)
      have hb := hk b (List.mem_cons_of_mem _ (List.mem_cons_self ..))
      exact absurd (show a ∈ b :: l from (ha.trans hb.symm) ▸ List.mem_cons_self ..) (List.nodup_cons.1 hn).1
  unfold grpL
  rw [List.length_zipWith]
  exact Nat.le_trans (Nat.min_le_left _ _) h1
theorem rows_bound {ws : List Nat} {db : List Ta} (hd : DbW ws db) {p : Pl} {n : Nat} (h : Wt ws p n) : ((evP db p).rows.length : Int) ≤ rbC (cntsOf db) p ∧ (evP db p).rows.length ≤ 400 := by
  refine ⟨?_, (evalPlan_ok hd h).1.few⟩
  have hM : (400 : Int) ≤ M := by unfold M; decide
  have hq1 : ∀ q : Pl, ([q].map (rbC (cntsOf db))).getD 0 0 = rbC (cntsOf db) q := fun q => rfl
  have hq2 : ∀ q r : Pl, ([q, r].map (rbC (cntsOf db))).getD 0 0 = rbC (cntsOf db) q ∧ ([q, r].map (rbC (cntsOf db))).getD 1 0 = rbC (cntsOf db) r := fun q r => ⟨rfl, rfl⟩
  have tl : ∀ (w : Int) (l : List (List V)) (k : Nat), l.length ≤ k → (tabT w l).rows.length ≤ k := fun w l k hk => Nat.le_trans (tabT_len w l) hk
  induction h with
  | @scan p j w hk ht hw hks =>
    rw [evP_0 hks, rbC_eq, rbK_1 _ _ _ hk]
    unfold opT
    rw [if_pos hk, ht, Int.toNat_natCast, List.getD_eq_getElem?_getD, List.getD_eq_getElem?_getD]
    unfold cntsOf
    rw [List.getElem?_map]
    cases hj : db[j]? with
    | none => exact Int.le_refl _
    | some t => exact Int.le_refl _
  | @filter p q w e hk hks hes hq he ih =>
    rw [evP_1 hks, rbC_eq, rbK_2 _ _ _ (Or.inl hk), hks, hq1]
    unfold opT
    rw [if_neg (by omega), if_pos hk]
    have := tl (evP db q).w _ _ (List.length_filter_le (holdsB (p.es.headD (.mk 2 0 ⟨false, 0⟩ []))) (evP db q).rows)
    omega
  | @project p q w hk hks hq hes hl ih =>
    rw [evP_1 hks, rbC_eq, rbK_2 _ _ _ (Or.inr (Or.inl hk)), hks, hq1]
    unfold opT
    rw [if_neg (by omega), if_neg (by omega), if_pos hk]
    have := tl p.es.length ((evP db q).rows.map (prjR p.es)) _ (Nat.le_of_eq (List.length_map _))
    omega
  | @join p q r wa wb e hk hks hes hq hr he hw iq ir =>
    have hfew := (evalPlan_ok hd (Wt.join hk hks hes hq hr he hw)).1.few
    rw [evP_2 hks] at hfew ⊢
    rw [rbC_eq]
    unfold opT at hfew ⊢
    rw [if_neg (by omega), if_neg (by omega), if_neg (by omega), if_pos hk] at hfew ⊢
    rcases hk with hk | hk
    · rw [rbK_4 _ _ _ hk, hks, (hq2 q r).1, (hq2 q r).2]
      rw [hk, show ((4 : Int) == 5) = false from rfl] at hfew ⊢
      have h1 := tl ((evP db q).w + (evP db r).w) _ _ (joiF_len (evP db r).w.toNat (p.es.headD (.mk 2 0 ⟨false, 0⟩ [])) (evP db q).rows (evP db r).rows)
      have h2 : (((evP db q).rows.length * (evP db r).rows.length : Nat) : Int) ≤ rbC (cntsOf db) q * rbC (cntsOf db) r := by
        rw [Int.natCast_mul]
        exact Int.mul_le_mul iq ir (by omega) (by omega)
      omega
    · rw [rbK_5 _ _ _ hk, hks, (hq2 q r).1, (hq2 q r).2]
      rw [hk, show ((5 : Int) == 5) = true from rfl] at hfew ⊢
      have h1 := tl ((evP db q).w + (evP db r).w) _ _ (joiT_len (evP db r).w.toNat (p.es.headD (.mk 2 0 ⟨false, 0⟩ [])) (evP db r).rows (evP db q).rows)
      have h2 : (((evP db q).rows.length * max (evP db r).rows.length 1 : Nat) : Int) ≤ rbC (cntsOf db) q * max (rbC (cntsOf db) r) 1 := by
        rw [Int.natCast_mul]
        exact Int.mul_le_mul iq (by omega) (by omega) (by omega)
      omega
  | @union p q r w hk hks hq hr iq ir =>
    have hfew := (evalPlan_ok hd (Wt.union hk hks hq hr)).1.few
    rw [evP_2 hks] at hfew ⊢
    rw [rbC_eq, rbK_6 _ _ _ hk, hks, (hq2 q r).1, (hq2 q r).2]
    unfold opT at hfew ⊢
    rw [if_neg (by omega), if_neg (by omega), if_neg (by omega), if_neg (by omega), if_pos hk] at hfew ⊢
    have h1 := tl (evP db q).w ((evP db q).rows ++ (evP db r).rows) _ (Nat.le_of_eq List.length_append)
    omega
  | @distinct p q w hk hks hq ih =>
    rw [evP_1 hks, rbC_eq, rbK_2 _ _ _ (Or.inr (Or.inr hk)), hks, hq1]
    unfold opT
    rw [if_neg (by omega), if_neg (by omega), if_neg (by omega), if_neg (by omega), if_neg (by omega), if_pos hk]
    have := dstL_len (evP db q).rows
    show ((dstL (evP db q).rows (evP db q).rows.length).length : Int) ≤ _
    omega
  | @group p q w hk hks hq hc hl ih =>
    rw [evP_1 hks, rbC_eq]
    unfold opT
    rw [if_neg (by omega), if_neg (by omega), if_neg (by omega), if_neg (by omega), if_neg (by omega), if_neg (by omega)]
    have h1 := tl ((p.cs.length : Int) + 1) _ _ (grpL_len p.cs (evP db q).rows)
    by_cases h0 : p.cs.length = 0
    · rw [rbK_80 _ _ hk h0, hks, hq1]
      rw [List.length_eq_zero_iff.1 h0] at h1 ⊢
      have h2 := tl ((([] : List Int).length : Int) + 1) _ _ (grp_0 (evP db q).rows)
      omega
    · rw [rbK_81 _ _ hk h0, hks, hq1]
      omega
end Go.Proofs.YtepkimfmncedcaaGreat
