/-
  The width of a plan out of those of its kids, in the model. No condition.
-/
import Derived.Test.YtikfanemeglcoaaDcVWidD
import Derived.Test.YtikfanemeglcoaaDca
import Derived.Test.YtikfanemeglcoaaJVWidC
set_option maxHeartbeats 4000000
set_option maxRecDepth 100000
namespace Go.Proofs.Ytikfanemeglcoaa
open Go.RowKit

theorem one_sum {ns : List Int} {n : Int} (h : ns.length = 1) (h0 : ns[0]? = some n) : ns.sum = n := by
  match ns, h with
  | [m], _ => cases h0; simp
theorem two_sum {ns : List Int} {n m : Int} (h : ns.length = 2) (h0 : ns[0]? = some n) (h1 : ns[1]? = some m) : ns.sum = n + m := by
  match ns, h with
  | [a, b], _ => cases h0; cases h1; simp
theorem one_all {α : Type} {l : List α} {x : α} {P : α → Prop} (h : l.length = 1) (h0 : l[0]? = some x) : (∀ (j : Nat) (y : α), l[j]? = some y → P y) ↔ P x := by
  match l, h with
  | [m], _ =>
    cases h0
    refine ⟨fun h => h 0 _ rfl, fun h j y hj => ?_⟩
    rcases j with _ | j
    · cases hj; exact h
    · simp at hj
theorem planWidth_main (p : Pl) (ws : List Int) (d : Nat) (hd : d < 1000) (hd0 : 0 < d) (hf : fields p) (hk : ¬ p.k = 1) (hc : p.cs.length ≤ 1048576) (hec : p.es.length ≤ 1048576) (ns : List Int) (hl : ns.length = p.ks.length) (hn : ∀ (j : Nat) (x : Int), ns[j]? = some x → 0 ≤ x ∧ x ≤ 6)
    (hA : ∀ (i : Nat) (x : Pl) (n : Int), p.ks[i]? = some x → ns[i]? = some n → Does Try.prog 43 [] [pD x, intsD ws, I ((d : Int) - 1)] (I n) []) : Does Try.prog 43 [] [pD p, intsD ws, I d] (I (resV p ns)) [] := by
  have ho := onlyFields_ok p
  rw [decide_eq_true hf] at ho
  have hf1 := hf
  unfold fields at hf1
  have hks : 1 ≤ p.ks.length ∧ p.ks.length ≤ 2 := by omega
  refine does0 c_spec_planWidth mixed (Nat.le_of_ble_eq_true rfl) ?_
  conv => arg 3; whnf
  repeat' (first
    | with_reducible refine acc_none ?_ | (conv in hold _ => simp (disch := omega) only [go_sem]) | refine Stp.go ?_ | (with_reducible first | refine it_pos rfl ?_ | refine it_neg (by decide) ?_ | refine st_nil rfl ?_ | refine s_op ?_ ?_ | exact True.intro) | ((with_reducible first | refine dw_reg0 ?_ | refine dw_regB ?_); (conv => arg 3; whnf)) | (refine Spl.go (fun hq he => ?_) (fun hq he => ?_) <;> first | (exfalso; clear hq; omega) | ((try (first | (conv => arg 8; simp only [hq]) | (conv => arg 4; simp only [hq]))); clear hq)) | ((with_reducible first | refine c_split (fun hq => ?_) (fun hq => ?_) | refine q_split (fun hq => ?_) (fun hq => ?_)) <;> (try (first | (conv => arg 8; simp only [hq]) | (conv => arg 4; simp only [hq])))) | (with_reducible refine fin_0 ?_ (by first | rfl | (conv => lhs; simp only [go_sem])) ?_)
    | (with_reducible show evC _ _ _ _ _ _ _ _ _ _ _ _
       first
       | (refine c_doesE (ho) ?_ ?_ ?_
          · ((try (conv => rhs; simp (disch := omega) only [go_sem])); try rfl)
          · first | rfl | (conv => lhs; simp only [go_sem])))
    | exact Sub.refl _ | omega)
  refine dw_for (c := 2) (l := fun i => [(1, intsD ws), (2, I d), (3, .ref 1000000 0), (7, .own 1000001 1 i), (8, I i), (1000000, .obj [I p.k, I p.t, .sl 5 (p.es.map eD), intsD p.cs, .sl 5 (p.ks.map pD)]), (1000001, .row 1 ((ns.take i).map I))]) p.ks.length (fun i => ∀ (j : Nat) (n : Int), j < i → ns[j]? = some n → ¬ n = 0) 0 (fun j n hj => by omega) ((wk_row 7 2000045 1 (by decide) (by decide) rfl rfl).trans (Wk.list [2000003, 2000045] rfl rfl ?_)) (fun i hi hJ => ?_) (Nat.zero_le _)
  · repeat' (first | (conv in hold _ => simp (disch := omega) only [go_sem]) | exact True.intro | exact Sub.refl _ | omega)
    exact rfl
  · have hlt := take_len (vs := ns) (i := i) (by omega)
    have hmt := take_map I (vs := ns) (i := i) (by omega)
    by_cases hil : i < p.ks.length
    · obtain ⟨x, hx⟩ : ∃ x, p.ks[i]? = some x := ⟨_, List.getElem?_eq_getElem hil⟩
      obtain ⟨n, hnx, _⟩ := get_ex (ns := ns) (i := i) (by omega)
      have hix := hA i x n hx hnx
      have htn := take_next hnx
      by_cases hn0 : n = 0
      · rw [resV_z ⟨i, by rw [hnx, hn0]⟩]
        repeat' (first
          | with_reducible refine acc_none ?_ | (conv in hold _ => simp (disch := omega) only [go_sem, List.getElem?_map, hx, Option.map_some]) | refine Stp.go ?_ | (with_reducible first | refine it_pos rfl ?_ | refine it_neg (by decide) ?_ | refine st_nil rfl ?_ | refine s_op ?_ ?_ | exact True.intro) | ((with_reducible first | refine dw_reg0 ?_ | refine dw_regB ?_); (conv => arg 3; whnf)) | (refine Spl.go (fun hq he => ?_) (fun hq he => ?_) <;> first | (exfalso; clear hq; omega) | ((try (first | (conv => arg 8; simp only [hq]) | (conv => arg 4; simp only [hq]))); clear hq)) | ((with_reducible first | refine c_split (fun hq => ?_) (fun hq => ?_) | refine q_split (fun hq => ?_) (fun hq => ?_)) <;> (try (first | (conv => arg 8; simp only [hq]) | (conv => arg 4; simp only [hq])))) | (with_reducible refine fin_0 ?_ (by first | rfl | (conv => lhs; simp only [go_sem, List.getElem?_map, hx, Option.map_some])) ?_)
          | (with_reducible show evC _ _ _ _ _ _ _ _ _ _ _ _
             first
             | (refine c_doesE (hix) ?_ ?_ ?_
                · ((try (conv => rhs; simp (disch := omega) only [go_sem, List.getElem?_map, hx, Option.map_some])); try rfl)
                · first | rfl | (conv => lhs; simp only [go_sem, List.getElem?_map, hx, Option.map_some])))
          | exact Sub.refl _ | omega)
      · repeat' (first
          | with_reducible refine acc_none ?_ | (conv in hold _ => simp (disch := omega) only [go_sem, List.getElem?_map, hx, Option.map_some]) | refine Stp.go ?_ | (with_reducible first | refine it_pos rfl ?_ | refine it_neg (by decide) ?_ | refine st_nil rfl ?_ | refine s_op ?_ ?_ | exact True.intro) | ((with_reducible first | refine dw_reg0 ?_ | refine dw_regB ?_); (conv => arg 3; whnf)) | (refine Spl.go (fun hq he => ?_) (fun hq he => ?_) <;> first | (exfalso; clear hq; omega) | ((try (first | (conv => arg 8; simp only [hq]) | (conv => arg 4; simp only [hq]))); clear hq)) | ((with_reducible first | refine c_split (fun hq => ?_) (fun hq => ?_) | refine q_split (fun hq => ?_) (fun hq => ?_)) <;> (try (first | (conv => arg 8; simp only [hq]) | (conv => arg 4; simp only [hq])))) | (with_reducible refine fin_0 ?_ (by first | rfl | (conv => lhs; simp only [go_sem, List.getElem?_map, hx, Option.map_some])) ?_)
          | (with_reducible show evC _ _ _ _ _ _ _ _ _ _ _ _
             first
             | (refine c_doesE (hix) ?_ ?_ ?_
                · ((try (conv => rhs; simp (disch := omega) only [go_sem, List.getElem?_map, hx, Option.map_some])); try rfl)
                · first | rfl | (conv => lhs; simp only [go_sem, List.getElem?_map, hx, Option.map_some])))
          | exact Sub.refl _ | omega)
        refine ⟨hil, upto1 (P := fun _ n => ¬ n = 0) hnx hn0 hJ, Wk.list [1000000, 2000045] rfl rfl ?_⟩
        repeat' (first | (conv in hold _ => simp (disch := omega) only [go_sem]) | exact True.intro | exact Sub.refl _ | omega)
        rw [hmt, htn, List.map_append, List.map_cons, List.map_nil]
    · obtain rfl : i = p.ks.length := by omega
      have hz : ¬ zeroIn ns := fun ⟨j, hj⟩ => hJ j 0 (by rw [← hl]; exact (List.getElem?_eq_some_iff.1 hj).1) hj rfl
      have e1 : ns.take p.ks.length = ns := List.take_of_length_le (by omega)
      obtain ⟨n0, h0, g0⟩ := get_ex (ns := ns) (i := 0) (by omega)
      have r0 := hn 0 n0 h0
      have z0 := hJ 0 n0 (by omega) h0
      by_cases h2 : p.k = 2
      · have hel : p.es.length = 1 := by omega
        obtain ⟨x, hx⟩ : ∃ x, p.es[0]? = some x := ⟨_, List.getElem?_eq_getElem (by omega)⟩
        have hs := one_sum (by omega) h0
        have hfv : fitsV p ns ↔ eOk x n0 8 := by
          unfold fitsV
          rw [if_neg (by omega), if_neg (by omega), one_all (P := fun e => (1 ≤ ns.sum ∧ ns.sum ≤ 6) ∧ eOk e ns.sum 8) hel hx, hs]
          exact ⟨fun h => h.2, fun h => ⟨by omega, h⟩⟩
        have hfi : fieldsI p := ⟨hf, by omega⟩
        have hv := ValidExpr_ok x n0 (by omega)
        by_cases hxo : eOk x n0 8
        · rw [resV_t hz hfi (hfv.2 hxo), show fromV p ns = n0 by unfold fromV; rw [if_neg (by omega), if_neg (by omega), if_neg (by omega), g0]]
          rw [decide_eq_true ⟨by omega, hxo⟩] at hv
          repeat' (first
            | with_reducible refine acc_none ?_ | (conv in hold _ => simp (disch := omega) only [go_sem, e1, List.getElem?_map, h0, hx, Option.map_some]) | refine Stp.go ?_ | (with_reducible first | refine it_pos rfl ?_ | refine it_neg (by decide) ?_ | refine st_nil rfl ?_ | refine s_op ?_ ?_ | exact True.intro) | ((with_reducible first | refine dw_reg0 ?_ | refine dw_regB ?_); (conv => arg 3; whnf)) | (refine Spl.go (fun hq he => ?_) (fun hq he => ?_) <;> first | (exfalso; clear hq; omega) | ((try (first | (conv => arg 8; simp only [hq]) | (conv => arg 4; simp only [hq]))); clear hq)) | ((with_reducible first | refine c_split (fun hq => ?_) (fun hq => ?_) | refine q_split (fun hq => ?_) (fun hq => ?_)) <;> (try (first | (conv => arg 8; simp only [hq]) | (conv => arg 4; simp only [hq])))) | (with_reducible refine fin_0 ?_ (by first | rfl | (conv => lhs; simp only [go_sem, e1, List.getElem?_map, h0, hx, Option.map_some])) ?_)
            | (with_reducible show evC _ _ _ _ _ _ _ _ _ _ _ _
               first
               | (refine c_doesE (hv) ?_ ?_ ?_
                  · ((try (conv => rhs; simp (disch := omega) only [go_sem, e1, List.getElem?_map, h0, hx, Option.map_some])); try rfl)
                  · first | rfl | (conv => lhs; simp only [go_sem, e1, List.getElem?_map, h0, hx, Option.map_some])))
            | exact Sub.refl _ | omega)
        · rw [resV_f (fun h => hxo (hfv.1 h.2))]
          rw [decide_eq_false (fun h => hxo h.2)] at hv
          repeat' (first
            | with_reducible refine acc_none ?_ | (conv in hold _ => simp (disch := omega) only [go_sem, e1, List.getElem?_map, h0, hx, Option.map_some]) | refine Stp.go ?_ | (with_reducible first | refine it_pos rfl ?_ | refine it_neg (by decide) ?_ | refine st_nil rfl ?_ | refine s_op ?_ ?_ | exact True.intro) | ((with_reducible first | refine dw_reg0 ?_ | refine dw_regB ?_); (conv => arg 3; whnf)) | (refine Spl.go (fun hq he => ?_) (fun hq he => ?_) <;> first | (exfalso; clear hq; omega) | ((try (first | (conv => arg 8; simp only [hq]) | (conv => arg 4; simp only [hq]))); clear hq)) | ((with_reducible first | refine c_split (fun hq => ?_) (fun hq => ?_) | refine q_split (fun hq => ?_) (fun hq => ?_)) <;> (try (first | (conv => arg 8; simp only [hq]) | (conv => arg 4; simp only [hq])))) | (with_reducible refine fin_0 ?_ (by first | rfl | (conv => lhs; simp only [go_sem, e1, List.getElem?_map, h0, hx, Option.map_some])) ?_)
            | (with_reducible show evC _ _ _ _ _ _ _ _ _ _ _ _
               first
               | (refine c_doesE (hv) ?_ ?_ ?_
                  · ((try (conv => rhs; simp (disch := omega) only [go_sem, e1, List.getElem?_map, h0, hx, Option.map_some])); try rfl)
                  · first | rfl | (conv => lhs; simp only [go_sem, e1, List.getElem?_map, h0, hx, Option.map_some])))
            | exact Sub.refl _ | omega)
      · by_cases h3 : p.k = 3
        · have hs := one_sum (by omega) h0
          have hv := projectWidth_ok p.es n0 (by omega) hec
          have hfv : fitsV p ns ↔ esOk p.es n0 := by
            unfold fitsV esOk
            rw [if_neg (by omega), if_neg (by omega), hs]
            exact ⟨fun h j e hj => (h j e hj).2, fun h j e hj => ⟨by omega, h j e hj⟩⟩
          have hres : resV p ns = (if p.es.length ≤ 6 ∧ esOk p.es n0 then (p.es.length : Int) else 0) := by
            by_cases hq : p.es.length ≤ 6 ∧ esOk p.es n0
            · rw [if_pos hq]
              by_cases hpos : 1 ≤ p.es.length
              · rw [resV_t hz ⟨hf, fun _ => ⟨hpos, hq.1⟩⟩ (hfv.2 hq.2)]
                unfold fromV
                rw [if_pos h3]
              · rw [resV_f (fun h => hpos (h.1.2 h3).1)]
                omega
            · rw [if_neg hq, resV_f (fun h => hq ⟨(h.1.2 h3).2, hfv.1 h.2⟩)]
          rw [hres]
          repeat' (first
            | with_reducible refine acc_none ?_ | (conv in hold _ => simp (disch := omega) only [go_sem, e1, List.getElem?_map, h0, Option.map_some]) | refine Stp.go ?_ | (with_reducible first | refine it_pos rfl ?_ | refine it_neg (by decide) ?_ | refine st_nil rfl ?_ | refine s_op ?_ ?_ | exact True.intro) | ((with_reducible first | refine dw_reg0 ?_ | refine dw_regB ?_); (conv => arg 3; whnf)) | (refine Spl.go (fun hq he => ?_) (fun hq he => ?_) <;> first | (exfalso; clear hq; omega) | ((try (first | (conv => arg 8; simp only [hq]) | (conv => arg 4; simp only [hq]))); clear hq)) | ((with_reducible first | refine c_split (fun hq => ?_) (fun hq => ?_) | refine q_split (fun hq => ?_) (fun hq => ?_)) <;> (try (first | (conv => arg 8; simp only [hq]) | (conv => arg 4; simp only [hq])))) | (with_reducible refine fin_0 ?_ (by first | rfl | (conv => lhs; simp only [go_sem, e1, List.getElem?_map, h0, Option.map_some])) ?_)
            | (with_reducible show evC _ _ _ _ _ _ _ _ _ _ _ _
               first
               | (refine c_doesE (hv) ?_ ?_ ?_
                  · ((try (conv => rhs; simp (disch := omega) only [go_sem, e1, List.getElem?_map, h0, Option.map_some])); try rfl)
                  · first | rfl | (conv => lhs; simp only [go_sem, e1, List.getElem?_map, h0, Option.map_some])))
            | exact Sub.refl _ | omega)
        · have hfi : fieldsI p := ⟨hf, fun h => (h3 h).elim⟩
          by_cases h45 : p.k = 4 ∨ p.k = 5
          · have hel : p.es.length = 1 := by omega
            obtain ⟨x, hx⟩ : ∃ x, p.es[0]? = some x := ⟨_, List.getElem?_eq_getElem (by omega)⟩
            obtain ⟨n1, h1, g1⟩ := get_ex (ns := ns) (i := 1) (by omega)
            have r1 := hn 1 n1 h1
            have z1 := hJ 1 n1 (by omega) h1
            have hs := two_sum (by omega) h0 h1
            have hv := ValidExpr_ok x (n0 + n1) (by omega)
            have hfv : fitsV p ns ↔ n0 + n1 ≤ 6 ∧ eOk x (n0 + n1) 8 := by
              unfold fitsV
              rw [if_neg (by omega), if_neg (by omega), one_all (P := fun e => (1 ≤ ns.sum ∧ ns.sum ≤ 6) ∧ eOk e ns.sum 8) hel hx, hs]
              exact ⟨fun h => ⟨by omega, h.2⟩, fun h => ⟨by omega, h.2⟩⟩
            by_cases hle : n0 + n1 ≤ 6
            · by_cases hxo : eOk x (n0 + n1) 8
              · rw [resV_t hz hfi (hfv.2 ⟨hle, hxo⟩), show fromV p ns = n0 + n1 by unfold fromV; rw [if_neg h3, if_pos h45, hs]]
                rw [decide_eq_true ⟨by omega, hxo⟩] at hv
                repeat' (first | with_reducible refine acc_none ?_ | (conv in hold _ => simp (disch := omega) only [go_sem, e1, List.getElem?_map, h0, h1, hx, Option.map_some]) | refine Stp.go ?_ | (with_reducible first | refine it_pos rfl ?_ | refine it_neg (by decide) ?_ | refine st_nil rfl ?_ | refine s_op ?_ ?_ | exact True.intro) | ((with_reducible first | refine dw_reg0 ?_ | refine dw_regB ?_); (conv => arg 3; whnf)) | (refine Spl.go (fun hq he => ?_) (fun hq he => ?_) <;> first | (exfalso; clear hq; omega) | ((try (first | (conv => arg 8; simp only [hq]) | (conv => arg 4; simp only [hq]))); clear hq)) | ((with_reducible first | refine c_split (fun hq => ?_) (fun hq => ?_) | refine q_split (fun hq => ?_) (fun hq => ?_)) <;> (try (first | (conv => arg 8; simp only [hq]) | (conv => arg 4; simp only [hq])))) | (with_reducible refine fin_0 ?_ (by first | rfl | (conv => lhs; simp only [go_sem, e1, List.getElem?_map, h0, h1, hx, Option.map_some])) ?_) | exact Sub.refl _ | omega)
                all_goals
                  refine c_doesE (hv) ?_ ?_ ?_
                  · ((try (conv => rhs; simp (disch := omega) only [go_sem, List.getElem?_map, h0, h1, Option.map_some])); try rfl)
                  · first | rfl | (conv => lhs; simp only [go_sem, List.getElem?_map, h0, h1, Option.map_some])
                  repeat' (first | with_reducible refine acc_none ?_ | (conv in hold _ => simp (disch := omega) only [go_sem, List.getElem?_map, h0, h1, Option.map_some]) | refine Stp.go ?_ | (with_reducible first | refine it_pos rfl ?_ | refine it_neg (by decide) ?_ | refine st_nil rfl ?_ | refine s_op ?_ ?_ | exact True.intro) | ((with_reducible first | refine dw_reg0 ?_ | refine dw_regB ?_); (conv => arg 3; whnf)) | (refine Spl.go (fun hq he => ?_) (fun hq he => ?_) <;> first | (exfalso; clear hq; omega) | ((try (first | (conv => arg 8; simp only [hq]) | (conv => arg 4; simp only [hq]))); clear hq)) | ((with_reducible first | refine c_split (fun hq => ?_) (fun hq => ?_) | refine q_split (fun hq => ?_) (fun hq => ?_)) <;> (try (first | (conv => arg 8; simp only [hq]) | (conv => arg 4; simp only [hq])))) | (with_reducible refine fin_0 ?_ (by first | rfl | (conv => lhs; simp only [go_sem, List.getElem?_map, h0, h1, Option.map_some])) ?_) | exact Sub.refl _ | omega)
              · rw [resV_f (fun h => hxo (hfv.1 h.2).2)]
                rw [decide_eq_false (fun h => hxo h.2)] at hv
                repeat' (first | with_reducible refine acc_none ?_ | (conv in hold _ => simp (disch := omega) only [go_sem, e1, List.getElem?_map, h0, h1, hx, Option.map_some]) | refine Stp.go ?_ | (with_reducible first | refine it_pos rfl ?_ | refine it_neg (by decide) ?_ | refine st_nil rfl ?_ | refine s_op ?_ ?_ | exact True.intro) | ((with_reducible first | refine dw_reg0 ?_ | refine dw_regB ?_); (conv => arg 3; whnf)) | (refine Spl.go (fun hq he => ?_) (fun hq he => ?_) <;> first | (exfalso; clear hq; omega) | ((try (first | (conv => arg 8; simp only [hq]) | (conv => arg 4; simp only [hq]))); clear hq)) | ((with_reducible first | refine c_split (fun hq => ?_) (fun hq => ?_) | refine q_split (fun hq => ?_) (fun hq => ?_)) <;> (try (first | (conv => arg 8; simp only [hq]) | (conv => arg 4; simp only [hq])))) | (with_reducible refine fin_0 ?_ (by first | rfl | (conv => lhs; simp only [go_sem, e1, List.getElem?_map, h0, h1, hx, Option.map_some])) ?_) | exact Sub.refl _ | omega)
                all_goals
                  refine c_doesE (hv) ?_ ?_ ?_
                  · ((try (conv => rhs; simp (disch := omega) only [go_sem])); try rfl)
                  · first | rfl | (conv => lhs; simp only [go_sem])
                  repeat' (first | with_reducible refine acc_none ?_ | (conv in hold _ => simp (disch := omega) only [go_sem]) | refine Stp.go ?_ | (with_reducible first | refine it_pos rfl ?_ | refine it_neg (by decide) ?_ | refine st_nil rfl ?_ | refine s_op ?_ ?_ | exact True.intro) | ((with_reducible first | refine dw_reg0 ?_ | refine dw_regB ?_); (conv => arg 3; whnf)) | (refine Spl.go (fun hq he => ?_) (fun hq he => ?_) <;> first | (exfalso; clear hq; omega) | ((try (first | (conv => arg 8; simp only [hq]) | (conv => arg 4; simp only [hq]))); clear hq)) | ((with_reducible first | refine c_split (fun hq => ?_) (fun hq => ?_) | refine q_split (fun hq => ?_) (fun hq => ?_)) <;> (try (first | (conv => arg 8; simp only [hq]) | (conv => arg 4; simp only [hq])))) | (with_reducible refine fin_0 ?_ (by first | rfl | (conv => lhs; simp only [go_sem])) ?_) | exact Sub.refl _ | omega)
            · rw [resV_f (fun h => hle (hfv.1 h.2).1)]
              repeat' (first | with_reducible refine acc_none ?_ | (conv in hold _ => simp (disch := omega) only [go_sem, e1, List.getElem?_map, h0, h1, hx, Option.map_some]) | refine Stp.go ?_ | (with_reducible first | refine it_pos rfl ?_ | refine it_neg (by decide) ?_ | refine st_nil rfl ?_ | refine s_op ?_ ?_ | exact True.intro) | ((with_reducible first | refine dw_reg0 ?_ | refine dw_regB ?_); (conv => arg 3; whnf)) | (refine Spl.go (fun hq he => ?_) (fun hq he => ?_) <;> first | (exfalso; clear hq; omega) | ((try (first | (conv => arg 8; simp only [hq]) | (conv => arg 4; simp only [hq]))); clear hq)) | ((with_reducible first | refine c_split (fun hq => ?_) (fun hq => ?_) | refine q_split (fun hq => ?_) (fun hq => ?_)) <;> (try (first | (conv => arg 8; simp only [hq]) | (conv => arg 4; simp only [hq])))) | (with_reducible refine fin_0 ?_ (by first | rfl | (conv => lhs; simp only [go_sem, e1, List.getElem?_map, h0, h1, hx, Option.map_some])) ?_) | exact Sub.refl _ | omega)
          · by_cases h6 : p.k = 6
            · obtain ⟨n1, h1, g1⟩ := get_ex (ns := ns) (i := 1) (by omega)
              have hfv : fitsV p ns ↔ n0 = n1 := by unfold fitsV; rw [if_pos h6, g0, g1]
              by_cases hq : n0 = n1
              · rw [resV_t hz hfi (hfv.2 hq), show fromV p ns = n0 by unfold fromV; rw [if_neg h3, if_neg h45, if_neg (by omega), g0]]
                repeat' (first | with_reducible refine acc_none ?_ | (conv in hold _ => simp (disch := omega) only [go_sem, e1, List.getElem?_map, h0, h1, Option.map_some]) | refine Stp.go ?_ | (with_reducible first | refine it_pos rfl ?_ | refine it_neg (by decide) ?_ | refine st_nil rfl ?_ | refine s_op ?_ ?_ | exact True.intro) | ((with_reducible first | refine dw_reg0 ?_ | refine dw_regB ?_); (conv => arg 3; whnf)) | (refine Spl.go (fun hq he => ?_) (fun hq he => ?_) <;> first | (exfalso; clear hq; omega) | ((try (first | (conv => arg 8; simp only [hq]) | (conv => arg 4; simp only [hq]))); clear hq)) | ((with_reducible first | refine c_split (fun hq => ?_) (fun hq => ?_) | refine q_split (fun hq => ?_) (fun hq => ?_)) <;> (try (first | (conv => arg 8; simp only [hq]) | (conv => arg 4; simp only [hq])))) | (with_reducible refine fin_0 ?_ (by first | rfl | (conv => lhs; simp only [go_sem, e1, List.getElem?_map, h0, h1, Option.map_some])) ?_) | exact Sub.refl _ | omega)
              · rw [resV_f (fun h => hq (hfv.1 h.2))]
                repeat' (first | with_reducible refine acc_none ?_ | (conv in hold _ => simp (disch := omega) only [go_sem, e1, List.getElem?_map, h0, h1, Option.map_some]) | refine Stp.go ?_ | (with_reducible first | refine it_pos rfl ?_ | refine it_neg (by decide) ?_ | refine st_nil rfl ?_ | refine s_op ?_ ?_ | exact True.intro) | ((with_reducible first | refine dw_reg0 ?_ | refine dw_regB ?_); (conv => arg 3; whnf)) | (refine Spl.go (fun hq he => ?_) (fun hq he => ?_) <;> first | (exfalso; clear hq; omega) | ((try (first | (conv => arg 8; simp only [hq]) | (conv => arg 4; simp only [hq]))); clear hq)) | ((with_reducible first | refine c_split (fun hq => ?_) (fun hq => ?_) | refine q_split (fun hq => ?_) (fun hq => ?_)) <;> (try (first | (conv => arg 8; simp only [hq]) | (conv => arg 4; simp only [hq])))) | (with_reducible refine fin_0 ?_ (by first | rfl | (conv => lhs; simp only [go_sem, e1, List.getElem?_map, h0, h1, Option.map_some])) ?_) | exact Sub.refl _ | omega)
            · by_cases h8 : p.k = 8
              · have hv := validCols_ok p.cs n0 (by omega) hc
                have hfv : fitsV p ns ↔ p.cs.length < 6 ∧ colsOk p.cs n0 := by unfold fitsV; rw [if_neg h6, if_pos h8, g0]
                by_cases hco : colsOk p.cs n0
                · rw [decide_eq_true hco] at hv
                  by_cases hq : p.cs.length < 6
                  · rw [resV_t hz hfi (hfv.2 ⟨hq, hco⟩), show fromV p ns = p.cs.length + 1 by unfold fromV; rw [if_neg h3, if_neg h45, if_pos h8]]
                    repeat' (first
                      | with_reducible refine acc_none ?_ | (conv in hold _ => simp (disch := omega) only [go_sem, e1, List.getElem?_map, h0, Option.map_some]) | refine Stp.go ?_ | (with_reducible first | refine it_pos rfl ?_ | refine it_neg (by decide) ?_ | refine st_nil rfl ?_ | refine s_op ?_ ?_ | exact True.intro) | ((with_reducible first | refine dw_reg0 ?_ | refine dw_regB ?_); (conv => arg 3; whnf)) | (refine Spl.go (fun hq he => ?_) (fun hq he => ?_) <;> first | (exfalso; clear hq; omega) | ((try (first | (conv => arg 8; simp only [hq]) | (conv => arg 4; simp only [hq]))); clear hq)) | ((with_reducible first | refine c_split (fun hq => ?_) (fun hq => ?_) | refine q_split (fun hq => ?_) (fun hq => ?_)) <;> (try (first | (conv => arg 8; simp only [hq]) | (conv => arg 4; simp only [hq])))) | (with_reducible refine fin_0 ?_ (by first | rfl | (conv => lhs; simp only [go_sem, e1, List.getElem?_map, h0, Option.map_some])) ?_)
                      | (with_reducible show evC _ _ _ _ _ _ _ _ _ _ _ _
                         first
                         | (refine c_doesE (hv) ?_ ?_ ?_
                            · ((try (conv => rhs; simp (disch := omega) only [go_sem, e1, List.getElem?_map, h0, Option.map_some])); try rfl)
                            · first | rfl | (conv => lhs; simp only [go_sem, e1, List.getElem?_map, h0, Option.map_some])))
                      | exact Sub.refl _ | omega)
                  · rw [resV_f (fun h => hq (hfv.1 h.2).1)]
                    repeat' (first
                      | with_reducible refine acc_none ?_ | (conv in hold _ => simp (disch := omega) only [go_sem, e1, List.getElem?_map, h0, Option.map_some]) | refine Stp.go ?_ | (with_reducible first | refine it_pos rfl ?_ | refine it_neg (by decide) ?_ | refine st_nil rfl ?_ | refine s_op ?_ ?_ | exact True.intro) | ((with_reducible first | refine dw_reg0 ?_ | refine dw_regB ?_); (conv => arg 3; whnf)) | (refine Spl.go (fun hq he => ?_) (fun hq he => ?_) <;> first | (exfalso; clear hq; omega) | ((try (first | (conv => arg 8; simp only [hq]) | (conv => arg 4; simp only [hq]))); clear hq)) | ((with_reducible first | refine c_split (fun hq => ?_) (fun hq => ?_) | refine q_split (fun hq => ?_) (fun hq => ?_)) <;> (try (first | (conv => arg 8; simp only [hq]) | (conv => arg 4; simp only [hq])))) | (with_reducible refine fin_0 ?_ (by first | rfl | (conv => lhs; simp only [go_sem, e1, List.getElem?_map, h0, Option.map_some])) ?_)
                      | (with_reducible show evC _ _ _ _ _ _ _ _ _ _ _ _
                         first
                         | (refine c_doesE (hv) ?_ ?_ ?_
                            · ((try (conv => rhs; simp (disch := omega) only [go_sem, e1, List.getElem?_map, h0, Option.map_some])); try rfl)
                            · first | rfl | (conv => lhs; simp only [go_sem, e1, List.getElem?_map, h0, Option.map_some])))
                      | exact Sub.refl _ | omega)
                · rw [decide_eq_false hco] at hv
                  rw [resV_f (fun h => hco (hfv.1 h.2).2)]
                  repeat' (first
                    | with_reducible refine acc_none ?_ | (conv in hold _ => simp (disch := omega) only [go_sem, e1, List.getElem?_map, h0, Option.map_some]) | refine Stp.go ?_ | (with_reducible first | refine it_pos rfl ?_ | refine it_neg (by decide) ?_ | refine st_nil rfl ?_ | refine s_op ?_ ?_ | exact True.intro) | ((with_reducible first | refine dw_reg0 ?_ | refine dw_regB ?_); (conv => arg 3; whnf)) | (refine Spl.go (fun hq he => ?_) (fun hq he => ?_) <;> first | (exfalso; clear hq; omega) | ((try (first | (conv => arg 8; simp only [hq]) | (conv => arg 4; simp only [hq]))); clear hq)) | ((with_reducible first | refine c_split (fun hq => ?_) (fun hq => ?_) | refine q_split (fun hq => ?_) (fun hq => ?_)) <;> (try (first | (conv => arg 8; simp only [hq]) | (conv => arg 4; simp only [hq])))) | (with_reducible refine fin_0 ?_ (by first | rfl | (conv => lhs; simp only [go_sem, e1, List.getElem?_map, h0, Option.map_some])) ?_)
                    | (with_reducible show evC _ _ _ _ _ _ _ _ _ _ _ _
                       first
                       | (refine c_doesE (hv) ?_ ?_ ?_
                          · ((try (conv => rhs; simp (disch := omega) only [go_sem, e1, List.getElem?_map, h0, Option.map_some])); try rfl)
                          · first | rfl | (conv => lhs; simp only [go_sem, e1, List.getElem?_map, h0, Option.map_some])))
                    | exact Sub.refl _ | omega)
              · have hel : p.es = [] := List.length_eq_zero_iff.1 (by omega)
                have hfv : fitsV p ns := by
                  unfold fitsV
                  rw [if_neg h6, if_neg h8, hel]
                  exact fun j e hj => by simp at hj
                rw [resV_t hz hfi hfv, show fromV p ns = n0 by unfold fromV; rw [if_neg h3, if_neg h45, if_neg h8, g0]]
                repeat' (first | with_reducible refine acc_none ?_ | (conv in hold _ => simp (disch := omega) only [go_sem, e1, List.getElem?_map, h0, Option.map_some]) | refine Stp.go ?_ | (with_reducible first | refine it_pos rfl ?_ | refine it_neg (by decide) ?_ | refine st_nil rfl ?_ | refine s_op ?_ ?_ | exact True.intro) | ((with_reducible first | refine dw_reg0 ?_ | refine dw_regB ?_); (conv => arg 3; whnf)) | (refine Spl.go (fun hq he => ?_) (fun hq he => ?_) <;> first | (exfalso; clear hq; omega) | ((try (first | (conv => arg 8; simp only [hq]) | (conv => arg 4; simp only [hq]))); clear hq)) | ((with_reducible first | refine c_split (fun hq => ?_) (fun hq => ?_) | refine q_split (fun hq => ?_) (fun hq => ?_)) <;> (try (first | (conv => arg 8; simp only [hq]) | (conv => arg 4; simp only [hq])))) | (with_reducible refine fin_0 ?_ (by first | rfl | (conv => lhs; simp only [go_sem, e1, List.getElem?_map, h0, Option.map_some])) ?_) | exact Sub.refl _ | omega)
end Go.Proofs.Ytikfanemeglcoaa
