/-
  The width of a plan, in both packages. No condition.
-/
import Derived.Test.YtikfanemeglcoaaDcVWidC
import Derived.Test.YtikfanemeglcoaaDcVWidD
import Derived.Test.YtikfanemeglcoaaDcVWidE
import Derived.Test.YtikfanemeglcoaaDca
import Derived.Test.YtikfanemeglcoaaKVWidD
import Derived.Test.YtikfanemeglcoaaDcc
import Derived.Test.YtikfanemeglcoaaJVClP
import Derived.Test.YtikfanemeglcoaaJVPa
import Derived.Test.YtikfanemeglcoaaVLib
set_option maxHeartbeats 4000000
set_option maxRecDepth 100000
namespace Go.Proofs.Ytikfanemeglcoaa
open Go.RowKit

theorem list_of {α β : Type} {P : α → β → Prop} : ∀ l : List α, (∀ x, x ∈ l → ∃ y, P x y) → ∃ m : List β, m.length = l.length ∧ ∀ (i : Nat) (x : α) (y : β), l[i]? = some x → m[i]? = some y → P x y
  | [], _ => ⟨[], rfl, fun i x y h => by simp at h⟩
  | a :: l, h => by
    obtain ⟨b, hb⟩ := h a (List.mem_cons_self ..)
    obtain ⟨m, hm, hp⟩ := list_of l (fun x hx => h x (List.mem_cons_of_mem _ hx))
    refine ⟨b :: m, by rw [List.length_cons, List.length_cons, hm], fun i x y hx hy => ?_⟩
    rcases i with _ | i
    · cases hx; cases hy; exact hb
    · exact hp i x y (by simpa using hx) (by simpa using hy)
theorem sum_range : ∀ ns : List Int, (∀ (j : Nat) (x : Int), ns[j]? = some x → 0 ≤ x ∧ x ≤ 6) → 0 ≤ ns.sum
  | [], _ => by simp
  | a :: l, h => by
    have h1 := h 0 a rfl
    have h2 := sum_range l (fun j x hj => h (j + 1) x (by simpa using hj))
    rw [List.sum_cons]
    omega
theorem resV_range (p : Pl) (ns : List Int) (hn : ∀ (j : Nat) (x : Int), ns[j]? = some x → 0 ≤ x ∧ x ≤ 6) : 0 ≤ resV p ns ∧ resV p ns ≤ 6 := by
  by_cases hz : zeroIn ns
  · rw [resV_z hz]; decide
  · by_cases hq : fieldsI p ∧ fitsV p ns
    · rw [resV_t hz hq.1 hq.2]
      have hf := hq.1
      have hv := hq.2
      unfold fieldsI fields at hf
      unfold fromV
      by_cases h3 : p.k = 3
      · rw [if_pos h3]; omega
      · rw [if_neg h3]
        by_cases h4 : p.k = 4 ∨ p.k = 5
        · rw [if_pos h4]
          unfold fitsV at hv
          rw [if_neg (by omega), if_neg (by omega)] at hv
          obtain ⟨x, hx⟩ : ∃ x, p.es[0]? = some x := ⟨_, List.getElem?_eq_getElem (by omega)⟩
          have := (hv 0 x hx).1
          omega
        · rw [if_neg h4]
          by_cases h8 : p.k = 8
          · rw [if_pos h8]
            unfold fitsV at hv
            rw [if_neg (by omega), if_pos h8] at hv
            have := hv.1
            omega
          · rw [if_neg h8, List.getD_eq_getElem?_getD]
            cases h0 : ns[0]? with
            | none => decide
            | some x => exact hn 0 x h0
    · rw [resV_f hq]; decide
theorem widthWithin_neg (p : Pl) (ws : List Int) : Does Try.prog 27 [] [pD p, intsD ws, I (-1)] (I 0) [] := by
  refine does0 c_impl_widthWithin mixed (Nat.le_of_ble_eq_true rfl) ?_
  conv => arg 3; whnf
  repeat' (first | with_reducible refine acc_none ?_ | (conv in hold _ => simp (disch := omega) only [go_sem]) | refine Stp.go ?_ | (with_reducible first | refine it_pos rfl ?_ | refine it_neg (by decide) ?_ | refine st_nil rfl ?_ | refine s_op ?_ ?_ | exact True.intro) | ((with_reducible first | refine dw_reg0 ?_ | refine dw_regB ?_); (conv => arg 3; whnf)) | (refine Spl.go (fun hq he => ?_) (fun hq he => ?_) <;> first | (exfalso; clear hq; omega) | ((try (first | (conv => arg 8; simp only [hq]) | (conv => arg 4; simp only [hq]))); clear hq)) | ((with_reducible first | refine c_split (fun hq => ?_) (fun hq => ?_) | refine q_split (fun hq => ?_) (fun hq => ?_)) <;> (try (first | (conv => arg 8; simp only [hq]) | (conv => arg 4; simp only [hq])))) | (with_reducible refine fin_0 ?_ (by first | rfl | (conv => lhs; simp only [go_sem])) ?_) | exact Sub.refl _ | omega)
theorem widthWithin_no (p : Pl) (ws : List Int) (d : Nat) (hf : ¬ fieldsI p) : Does Try.prog 27 [] [pD p, intsD ws, I d] (I 0) [] := by
  have ho := hasOwnFields_ok p
  rw [decide_eq_false hf] at ho
  refine does0 c_impl_widthWithin mixed (Nat.le_of_ble_eq_true rfl) ?_
  conv => arg 3; whnf
  repeat' (first
    | with_reducible refine acc_none ?_ | (conv in hold _ => simp (disch := omega) only [go_sem]) | refine Stp.go ?_ | (with_reducible first | refine it_pos rfl ?_ | refine it_neg (by decide) ?_ | refine st_nil rfl ?_ | refine s_op ?_ ?_ | exact True.intro) | ((with_reducible first | refine dw_reg0 ?_ | refine dw_regB ?_); (conv => arg 3; whnf)) | (refine Spl.go (fun hq he => ?_) (fun hq he => ?_) <;> first | (exfalso; clear hq; omega) | ((try (first | (conv => arg 8; simp only [hq]) | (conv => arg 4; simp only [hq]))); clear hq)) | ((with_reducible first | refine c_split (fun hq => ?_) (fun hq => ?_) | refine q_split (fun hq => ?_) (fun hq => ?_)) <;> (try (first | (conv => arg 8; simp only [hq]) | (conv => arg 4; simp only [hq])))) | (with_reducible refine fin_0 ?_ (by first | rfl | (conv => lhs; simp only [go_sem])) ?_)
    | (with_reducible show evC _ _ _ _ _ _ _ _ _ _ _ _
       first
       | (refine c_doesE (ho) ?_ ?_ ?_
          · ((try (conv => rhs; simp (disch := omega) only [go_sem])); try rfl)
          · first | rfl | (conv => lhs; simp only [go_sem])))
    | exact Sub.refl _ | omega)
theorem planWidth_no (p : Pl) (ws : List Int) (d : Int) (hf : ¬ fields p) : Does Try.prog 43 [] [pD p, intsD ws, I d] (I 0) [] := by
  have ho := onlyFields_ok p
  rw [decide_eq_false hf] at ho
  refine does0 c_spec_planWidth mixed (Nat.le_of_ble_eq_true rfl) ?_
  conv => arg 3; whnf
  repeat' (first
    | with_reducible refine acc_none ?_ | (conv in hold _ => simp (disch := omega) only [go_sem]) | refine Stp.go ?_ | (with_reducible first | refine it_pos rfl ?_ | refine it_neg (by decide) ?_ | refine st_nil rfl ?_ | refine s_op ?_ ?_ | exact True.intro) | ((with_reducible first | refine dw_reg0 ?_ | refine dw_regB ?_); (conv => arg 3; whnf)) | (refine Spl.go (fun hq he => ?_) (fun hq he => ?_) <;> first | (exfalso; clear hq; omega) | ((try (first | (conv => arg 8; simp only [hq]) | (conv => arg 4; simp only [hq]))); clear hq)) | ((with_reducible first | refine c_split (fun hq => ?_) (fun hq => ?_) | refine q_split (fun hq => ?_) (fun hq => ?_)) <;> (try (first | (conv => arg 8; simp only [hq]) | (conv => arg 4; simp only [hq])))) | (with_reducible refine fin_0 ?_ (by first | rfl | (conv => lhs; simp only [go_sem])) ?_)
    | (with_reducible show evC _ _ _ _ _ _ _ _ _ _ _ _
       first
       | (refine c_doesE (ho) ?_ ?_ ?_
          · ((try (conv => rhs; simp (disch := omega) only [go_sem])); try rfl)
          · first | rfl | (conv => lhs; simp only [go_sem])))
    | exact Sub.refl _ | omega)
theorem planWidth_0 (p : Pl) (ws : List Int) (hf : fields p) (hk : 0 < p.ks.length) : Does Try.prog 43 [] [pD p, intsD ws, I 0] (I 0) [] := by
  have ho := onlyFields_ok p
  rw [decide_eq_true hf] at ho
  refine does0 c_spec_planWidth mixed (Nat.le_of_ble_eq_true rfl) ?_
  conv => arg 3; whnf
  repeat' (first
    | with_reducible refine acc_none ?_ | (conv in hold _ => simp (disch := omega) only [go_sem]) | refine Stp.go ?_ | (with_reducible first | refine it_pos rfl ?_ | refine it_neg (by decide) ?_ | refine st_nil rfl ?_ | refine s_op ?_ ?_ | exact True.intro) | ((with_reducible first | refine dw_reg0 ?_ | refine dw_regB ?_); (conv => arg 3; whnf)) | (refine Spl.go (fun hq he => ?_) (fun hq he => ?_) <;> first | (exfalso; clear hq; omega) | ((try (first | (conv => arg 8; simp only [hq]) | (conv => arg 4; simp only [hq]))); clear hq)) | ((with_reducible first | refine c_split (fun hq => ?_) (fun hq => ?_) | refine q_split (fun hq => ?_) (fun hq => ?_)) <;> (try (first | (conv => arg 8; simp only [hq]) | (conv => arg 4; simp only [hq])))) | (with_reducible refine fin_0 ?_ (by first | rfl | (conv => lhs; simp only [go_sem])) ?_)
    | (with_reducible show evC _ _ _ _ _ _ _ _ _ _ _ _
       first
       | (refine c_doesE (ho) ?_ ?_ ?_
          · ((try (conv => rhs; simp (disch := omega) only [go_sem])); try rfl)
          · first | rfl | (conv => lhs; simp only [go_sem])))
    | exact Sub.refl _ | omega)
/-- The width of a table. -/
def scanV (ws : List Int) (t : Int) : Int := if 0 ≤ t ∧ t ≤ ws.length - 1 then ws.getD t.toNat 0 else 0
theorem scan_range {ws : List Int} (hw : wsOk ws) (t : Int) : 0 ≤ scanV ws t ∧ scanV ws t ≤ 6 := by
  unfold scanV
  split
  · rw [List.getD_eq_getElem?_getD]
    cases h0 : ws[t.toNat]? with
    | none => decide
    | some x => have := hw.2 _ x h0; exact ⟨by show (0 : Int) ≤ x; omega, by show x ≤ 6; omega⟩
  · decide
theorem planWidth_scan (p : Pl) (ws : List Int) (hw : wsOk ws) (d : Int) (hf : fields p) (hk : p.k = 1) : Does Try.prog 43 [] [pD p, intsD ws, I d] (I (scanV ws p.t)) [] := by
  have ho := onlyFields_ok p
  rw [decide_eq_true hf] at ho
  have hwl := hw.1
  have hks : p.ks.length = 0 := by unfold fields at hf; omega
  have hr := inRange_ok p.t 0 (ws.length - 1)
  refine does0 c_spec_planWidth mixed (Nat.le_of_ble_eq_true rfl) ?_
  conv => arg 3; whnf
  repeat' (first
    | with_reducible refine acc_none ?_ | (conv in hold _ => simp (disch := omega) only [go_sem]) | refine Stp.go ?_ | (with_reducible first | refine it_pos rfl ?_ | refine it_neg (by decide) ?_ | refine st_nil rfl ?_ | refine s_op ?_ ?_ | exact True.intro) | ((with_reducible first | refine dw_reg0 ?_ | refine dw_regB ?_); (conv => arg 3; whnf)) | (refine Spl.go (fun hq he => ?_) (fun hq he => ?_) <;> first | (exfalso; clear hq; omega) | ((try (first | (conv => arg 8; simp only [hq]) | (conv => arg 4; simp only [hq]))); clear hq)) | ((with_reducible first | refine c_split (fun hq => ?_) (fun hq => ?_) | refine q_split (fun hq => ?_) (fun hq => ?_)) <;> (try (first | (conv => arg 8; simp only [hq]) | (conv => arg 4; simp only [hq])))) | (with_reducible refine fin_0 ?_ (by first | rfl | (conv => lhs; simp only [go_sem])) ?_)
    | (with_reducible show evC _ _ _ _ _ _ _ _ _ _ _ _
       first
       | (refine c_doesE (ho) ?_ ?_ ?_
          · ((try (conv => rhs; simp (disch := omega) only [go_sem])); try rfl)
          · first | rfl | (conv => lhs; simp only [go_sem])))
    | exact Sub.refl _ | omega)
  refine dw_for (c := 1) (l := fun i => [(1, intsD ws), (3, .ref 1000000 0), (8, I i), (1000000, .obj [I p.k, I p.t, .sl 5 (p.es.map eD), intsD p.cs, .sl 5 (p.ks.map pD)])]) 0 (fun _ => True) 0 trivial (Wk.list [2000003] rfl rfl ?_) (fun i hi _ => ?_) (Nat.zero_le _)
  · repeat' (first | (conv in hold _ => simp (disch := omega) only [go_sem]) | exact True.intro | exact Sub.refl _ | omega)
    exact rfl
  · obtain rfl : i = 0 := by omega
    by_cases ht : 0 ≤ p.t ∧ p.t ≤ ws.length - 1
    · rw [decide_eq_true ht] at hr
      obtain ⟨n, h0, g0⟩ := get_ex (ns := ws) (i := p.t.toNat) (by omega)
      rw [show scanV ws p.t = n by unfold scanV; rw [if_pos ht, g0]]
      repeat' (first
        | with_reducible refine acc_none ?_ | (conv in hold _ => simp (disch := omega) only [go_sem, hks, List.getElem?_map, h0, Option.map_some]) | refine Stp.go ?_ | (with_reducible first | refine it_pos rfl ?_ | refine it_neg (by decide) ?_ | refine st_nil rfl ?_ | refine s_op ?_ ?_ | exact True.intro) | ((with_reducible first | refine dw_reg0 ?_ | refine dw_regB ?_); (conv => arg 3; whnf)) | (refine Spl.go (fun hq he => ?_) (fun hq he => ?_) <;> first | (exfalso; clear hq; omega) | ((try (first | (conv => arg 8; simp only [hq]) | (conv => arg 4; simp only [hq]))); clear hq)) | ((with_reducible first | refine c_split (fun hq => ?_) (fun hq => ?_) | refine q_split (fun hq => ?_) (fun hq => ?_)) <;> (try (first | (conv => arg 8; simp only [hq]) | (conv => arg 4; simp only [hq])))) | (with_reducible refine fin_0 ?_ (by first | rfl | (conv => lhs; simp only [go_sem, hks, List.getElem?_map, h0, Option.map_some])) ?_)
        | (with_reducible show evC _ _ _ _ _ _ _ _ _ _ _ _
           first
           | (refine c_doesE (hr) ?_ ?_ ?_
              · ((try (conv => rhs; simp (disch := omega) only [go_sem, hks, List.getElem?_map, h0, Option.map_some])); try rfl)
              · first | rfl | (conv => lhs; simp only [go_sem, hks, List.getElem?_map, h0, Option.map_some])))
        | exact Sub.refl _ | omega)
    · rw [decide_eq_false ht] at hr
      rw [show scanV ws p.t = 0 from if_neg ht]
      repeat' (first
        | with_reducible refine acc_none ?_ | (conv in hold _ => simp (disch := omega) only [go_sem, hks]) | refine Stp.go ?_ | (with_reducible first | refine it_pos rfl ?_ | refine it_neg (by decide) ?_ | refine st_nil rfl ?_ | refine s_op ?_ ?_ | exact True.intro) | ((with_reducible first | refine dw_reg0 ?_ | refine dw_regB ?_); (conv => arg 3; whnf)) | (refine Spl.go (fun hq he => ?_) (fun hq he => ?_) <;> first | (exfalso; clear hq; omega) | ((try (first | (conv => arg 8; simp only [hq]) | (conv => arg 4; simp only [hq]))); clear hq)) | ((with_reducible first | refine c_split (fun hq => ?_) (fun hq => ?_) | refine q_split (fun hq => ?_) (fun hq => ?_)) <;> (try (first | (conv => arg 8; simp only [hq]) | (conv => arg 4; simp only [hq])))) | (with_reducible refine fin_0 ?_ (by first | rfl | (conv => lhs; simp only [go_sem, hks])) ?_)
        | (with_reducible show evC _ _ _ _ _ _ _ _ _ _ _ _
           first
           | (refine c_doesE (hr) ?_ ?_ ?_
              · ((try (conv => rhs; simp (disch := omega) only [go_sem, hks])); try rfl)
              · first | rfl | (conv => lhs; simp only [go_sem, hks])))
        | exact Sub.refl _ | omega)
theorem widthWithin_scan (p : Pl) (ws : List Int) (hw : wsOk ws) (d : Nat) (hf : fields p) (hk : p.k = 1) : Does Try.prog 27 [] [pD p, intsD ws, I d] (I (scanV ws p.t)) [] := by
  have ho := hasOwnFields_ok p
  rw [decide_eq_true (show fieldsI p from ⟨hf, by omega⟩)] at ho
  have hwl := hw.1
  by_cases ht : 0 ≤ p.t ∧ p.t ≤ ws.length - 1
  · obtain ⟨n, h0, g0⟩ := get_ex (ns := ws) (i := p.t.toNat) (by omega)
    rw [show scanV ws p.t = n by unfold scanV; rw [if_pos ht, g0]]
    refine does0 c_impl_widthWithin mixed (Nat.le_of_ble_eq_true rfl) ?_
    conv => arg 3; whnf
    repeat' (first
      | with_reducible refine acc_none ?_ | (conv in hold _ => simp (disch := omega) only [go_sem, List.getElem?_map, h0, Option.map_some]) | refine Stp.go ?_ | (with_reducible first | refine it_pos rfl ?_ | refine it_neg (by decide) ?_ | refine st_nil rfl ?_ | refine s_op ?_ ?_ | exact True.intro) | ((with_reducible first | refine dw_reg0 ?_ | refine dw_regB ?_); (conv => arg 3; whnf)) | (refine Spl.go (fun hq he => ?_) (fun hq he => ?_) <;> first | (exfalso; clear hq; omega) | ((try (first | (conv => arg 8; simp only [hq]) | (conv => arg 4; simp only [hq]))); clear hq)) | ((with_reducible first | refine c_split (fun hq => ?_) (fun hq => ?_) | refine q_split (fun hq => ?_) (fun hq => ?_)) <;> (try (first | (conv => arg 8; simp only [hq]) | (conv => arg 4; simp only [hq])))) | (with_reducible refine fin_0 ?_ (by first | rfl | (conv => lhs; simp only [go_sem, List.getElem?_map, h0, Option.map_some])) ?_)
      | (with_reducible show evC _ _ _ _ _ _ _ _ _ _ _ _
         first
         | (refine c_doesE (ho) ?_ ?_ ?_
            · ((try (conv => rhs; simp (disch := omega) only [go_sem, List.getElem?_map, h0, Option.map_some])); try rfl)
            · first | rfl | (conv => lhs; simp only [go_sem, List.getElem?_map, h0, Option.map_some])))
      | exact Sub.refl _ | omega)
  · rw [show scanV ws p.t = 0 from if_neg ht]
    refine does0 c_impl_widthWithin mixed (Nat.le_of_ble_eq_true rfl) ?_
    conv => arg 3; whnf
    repeat' (first
      | with_reducible refine acc_none ?_ | (conv in hold _ => simp (disch := omega) only [go_sem]) | refine Stp.go ?_ | (with_reducible first | refine it_pos rfl ?_ | refine it_neg (by decide) ?_ | refine st_nil rfl ?_ | refine s_op ?_ ?_ | exact True.intro) | ((with_reducible first | refine dw_reg0 ?_ | refine dw_regB ?_); (conv => arg 3; whnf)) | (refine Spl.go (fun hq he => ?_) (fun hq he => ?_) <;> first | (exfalso; clear hq; omega) | ((try (first | (conv => arg 8; simp only [hq]) | (conv => arg 4; simp only [hq]))); clear hq)) | ((with_reducible first | refine c_split (fun hq => ?_) (fun hq => ?_) | refine q_split (fun hq => ?_) (fun hq => ?_)) <;> (try (first | (conv => arg 8; simp only [hq]) | (conv => arg 4; simp only [hq])))) | (with_reducible refine fin_0 ?_ (by first | rfl | (conv => lhs; simp only [go_sem])) ?_)
      | (with_reducible show evC _ _ _ _ _ _ _ _ _ _ _ _
         first
         | (refine c_doesE (ho) ?_ ?_ ?_
            · ((try (conv => rhs; simp (disch := omega) only [go_sem])); try rfl)
            · first | rfl | (conv => lhs; simp only [go_sem])))
      | exact Sub.refl _ | omega)
theorem width_ok {ws : List Int} (hw : wsOk ws) : ∀ (p : Pl), psz p ≤ 1048576 → ∀ d : Nat, d < 1000 → ∃ n : Int, (0 ≤ n ∧ n ≤ 6) ∧ Does Try.prog 43 [] [pD p, intsD ws, I d] (I n) [] ∧ Does Try.prog 27 [] [pD p, intsD ws, I d] (I n) [] := by
  refine Pl.indA (fun p ih hs d hd => ?_)
  rw [psz_eq] at hs
  have hce := eszL_len p.es
  by_cases hf : fields p
  · by_cases hk : p.k = 1
    · exact ⟨_, scan_range hw p.t, planWidth_scan p ws hw d hf hk, widthWithin_scan p ws hw d hf hk⟩
    · have hks : 1 ≤ p.ks.length := by unfold fields at hf; omega
      by_cases hd0 : d = 0
      · subst hd0
        refine ⟨0, by decide, planWidth_0 p ws hf (by omega), ?_⟩
        by_cases hfi : fieldsI p
        · have h := widthWithin_main p ws 0 (by decide) hfi hk (by omega) (by omega) (List.replicate p.ks.length 0) (by rw [List.length_replicate]) (fun j x hj => by have := List.eq_of_mem_replicate (List.mem_of_getElem? hj); omega) (fun i x n hx hn => by
            obtain rfl : n = 0 := List.eq_of_mem_replicate (List.mem_of_getElem? hn)
            exact widthWithin_neg x ws)
          rw [resV_z ⟨0, by rw [List.getElem?_replicate, if_pos (by omega)]⟩] at h
          exact h
        · exact widthWithin_no p ws 0 hfi
      · have hc1 : ((d - 1 : Nat) : Int) = (d : Int) - 1 := by omega
        obtain ⟨ns, hl, hp⟩ := list_of (P := fun (x : Pl) (n : Int) => (0 ≤ n ∧ n ≤ 6) ∧ Does Try.prog 43 [] [pD x, intsD ws, I ((d : Int) - 1)] (I n) [] ∧ Does Try.prog 27 [] [pD x, intsD ws, I ((d : Int) - 1)] (I n) []) p.ks (fun x hx => by
          have := ih x hx (by have := pszL_mem hx; omega) (d - 1) (by omega)
          rw [hc1] at this
          exact this)
        have hn : ∀ (j : Nat) (x : Int), ns[j]? = some x → 0 ≤ x ∧ x ≤ 6 := fun j x hj => by
          obtain ⟨y, hy⟩ : ∃ y, p.ks[j]? = some y := ⟨_, List.getElem?_eq_getElem (by have := (List.getElem?_eq_some_iff.1 hj).1; omega)⟩
          exact (hp j y x hy hj).1
        refine ⟨resV p ns, resV_range p ns hn, planWidth_main p ws d hd (by omega) hf hk (by omega) (by omega) ns hl hn (fun i x n hx hn => (hp i x n hx hn).2.1), ?_⟩
        by_cases hfi : fieldsI p
        · exact widthWithin_main p ws d hd hfi hk (by omega) (by omega) ns hl hn (fun i x n hx hn => (hp i x n hx hn).2.2)
        · rw [resV_f (fun h => hfi h.1)]
          exact widthWithin_no p ws d hfi
  · exact ⟨0, by decide, planWidth_no p ws d hf, widthWithin_no p ws d (fun h => hf h.1)⟩
theorem PlanWidth_ok (p : Pl) (hs : psz p ≤ 1048576) (ws : List Int) (hl : ws.length ≤ 1048576) : ∃ n : Int, (0 ≤ n ∧ n ≤ 6) ∧ Does Try.prog 24 [] [pD p, intsD ws] (I n) [] ∧ Does Try.prog 12 [] [pD p, intsD ws] (I n) [] := by
  have h1 := validWidths_spec ws hl
  have h2 := validWidths_impl ws hl
  by_cases hw : wsOk ws
  · rw [decide_eq_true hw] at h1 h2
    obtain ⟨n, hn, hA, hB⟩ := width_ok hw p hs 8 (by decide)
    refine ⟨n, hn, ?_, ?_⟩
    · refine does0 c_spec_widthOf mixed (Nat.le_of_ble_eq_true rfl) ?_
      conv => arg 3; whnf
      repeat' (first
        | with_reducible refine acc_none ?_ | (conv in hold _ => simp (disch := omega) only [go_sem]) | refine Stp.go ?_ | (with_reducible first | refine it_pos rfl ?_ | refine it_neg (by decide) ?_ | refine st_nil rfl ?_ | refine s_op ?_ ?_ | exact True.intro) | ((with_reducible first | refine dw_reg0 ?_ | refine dw_regB ?_); (conv => arg 3; whnf)) | (refine Spl.go (fun hq he => ?_) (fun hq he => ?_) <;> first | (exfalso; clear hq; omega) | ((try (first | (conv => arg 8; simp only [hq]) | (conv => arg 4; simp only [hq]))); clear hq)) | ((with_reducible first | refine c_split (fun hq => ?_) (fun hq => ?_) | refine q_split (fun hq => ?_) (fun hq => ?_)) <;> (try (first | (conv => arg 8; simp only [hq]) | (conv => arg 4; simp only [hq])))) | (with_reducible refine fin_0 ?_ (by first | rfl | (conv => lhs; simp only [go_sem])) ?_)
        | (with_reducible show evC _ _ _ _ _ _ _ _ _ _ _ _
           first
           | (refine c_doesE (h1) ?_ ?_ ?_
              · ((try (conv => rhs; simp (disch := omega) only [go_sem])); try rfl)
              · first | rfl | (conv => lhs; simp only [go_sem]))
           | (refine c_doesE (hA) ?_ ?_ ?_
              · ((try (conv => rhs; simp (disch := omega) only [go_sem])); try rfl)
              · first | rfl | (conv => lhs; simp only [go_sem])))
        | exact Sub.refl _ | omega)
    · refine does0 c_impl_PlanWidth mixed (Nat.le_of_ble_eq_true rfl) ?_
      conv => arg 3; whnf
      repeat' (first
        | with_reducible refine acc_none ?_ | (conv in hold _ => simp (disch := omega) only [go_sem]) | refine Stp.go ?_ | (with_reducible first | refine it_pos rfl ?_ | refine it_neg (by decide) ?_ | refine st_nil rfl ?_ | refine s_op ?_ ?_ | exact True.intro) | ((with_reducible first | refine dw_reg0 ?_ | refine dw_regB ?_); (conv => arg 3; whnf)) | (refine Spl.go (fun hq he => ?_) (fun hq he => ?_) <;> first | (exfalso; clear hq; omega) | ((try (first | (conv => arg 8; simp only [hq]) | (conv => arg 4; simp only [hq]))); clear hq)) | ((with_reducible first | refine c_split (fun hq => ?_) (fun hq => ?_) | refine q_split (fun hq => ?_) (fun hq => ?_)) <;> (try (first | (conv => arg 8; simp only [hq]) | (conv => arg 4; simp only [hq])))) | (with_reducible refine fin_0 ?_ (by first | rfl | (conv => lhs; simp only [go_sem])) ?_)
        | (with_reducible show evC _ _ _ _ _ _ _ _ _ _ _ _
           first
           | (refine c_doesE (h2) ?_ ?_ ?_
              · ((try (conv => rhs; simp (disch := omega) only [go_sem])); try rfl)
              · first | rfl | (conv => lhs; simp only [go_sem]))
           | (refine c_doesE (hB) ?_ ?_ ?_
              · ((try (conv => rhs; simp (disch := omega) only [go_sem])); try rfl)
              · first | rfl | (conv => lhs; simp only [go_sem])))
        | exact Sub.refl _ | omega)
  · rw [decide_eq_false hw] at h1 h2
    refine ⟨0, by decide, ?_, ?_⟩
    · refine does0 c_spec_widthOf mixed (Nat.le_of_ble_eq_true rfl) ?_
      conv => arg 3; whnf
      repeat' (first
        | with_reducible refine acc_none ?_ | (conv in hold _ => simp (disch := omega) only [go_sem]) | refine Stp.go ?_ | (with_reducible first | refine it_pos rfl ?_ | refine it_neg (by decide) ?_ | refine st_nil rfl ?_ | refine s_op ?_ ?_ | exact True.intro) | ((with_reducible first | refine dw_reg0 ?_ | refine dw_regB ?_); (conv => arg 3; whnf)) | (refine Spl.go (fun hq he => ?_) (fun hq he => ?_) <;> first | (exfalso; clear hq; omega) | ((try (first | (conv => arg 8; simp only [hq]) | (conv => arg 4; simp only [hq]))); clear hq)) | ((with_reducible first | refine c_split (fun hq => ?_) (fun hq => ?_) | refine q_split (fun hq => ?_) (fun hq => ?_)) <;> (try (first | (conv => arg 8; simp only [hq]) | (conv => arg 4; simp only [hq])))) | (with_reducible refine fin_0 ?_ (by first | rfl | (conv => lhs; simp only [go_sem])) ?_)
        | (with_reducible show evC _ _ _ _ _ _ _ _ _ _ _ _
           first
           | (refine c_doesE (h1) ?_ ?_ ?_
              · ((try (conv => rhs; simp (disch := omega) only [go_sem])); try rfl)
              · first | rfl | (conv => lhs; simp only [go_sem])))
        | exact Sub.refl _ | omega)
    · refine does0 c_impl_PlanWidth mixed (Nat.le_of_ble_eq_true rfl) ?_
      conv => arg 3; whnf
      repeat' (first
        | with_reducible refine acc_none ?_ | (conv in hold _ => simp (disch := omega) only [go_sem]) | refine Stp.go ?_ | (with_reducible first | refine it_pos rfl ?_ | refine it_neg (by decide) ?_ | refine st_nil rfl ?_ | refine s_op ?_ ?_ | exact True.intro) | ((with_reducible first | refine dw_reg0 ?_ | refine dw_regB ?_); (conv => arg 3; whnf)) | (refine Spl.go (fun hq he => ?_) (fun hq he => ?_) <;> first | (exfalso; clear hq; omega) | ((try (first | (conv => arg 8; simp only [hq]) | (conv => arg 4; simp only [hq]))); clear hq)) | ((with_reducible first | refine c_split (fun hq => ?_) (fun hq => ?_) | refine q_split (fun hq => ?_) (fun hq => ?_)) <;> (try (first | (conv => arg 8; simp only [hq]) | (conv => arg 4; simp only [hq])))) | (with_reducible refine fin_0 ?_ (by first | rfl | (conv => lhs; simp only [go_sem])) ?_)
        | (with_reducible show evC _ _ _ _ _ _ _ _ _ _ _ _
           first
           | (refine c_doesE (h2) ?_ ?_ ?_
              · ((try (conv => rhs; simp (disch := omega) only [go_sem])); try rfl)
              · first | rfl | (conv => lhs; simp only [go_sem])))
        | exact Sub.refl _ | omega)
end Go.Proofs.Ytikfanemeglcoaa
set_option maxHeartbeats 4000000
set_option maxRecDepth 100000
set_option linter.unusedVariables false
set_option linter.unusedSimpArgs false
namespace Go.Proofs.Ytikfanemeglcoaa
open Go.RowKit

/-- The planner. -/
def gnD (ws : List Int) (j u : Nat) : D := .obj [.ref 1000001 0, .own 1000002 1 ws.length, I j, I u]
def wrD (ws : List Int) : D := .row 1 (ws.map I)
attribute [go_sem] gnD wrD
abbrev DPlan (bs : List Nat) (ws : List Int) (p j u : Nat) (d : Int) (x : Pl) (q j' u' : Nat) : Prop :=
  Does Try.prog 63 [gnD ws j u, rdD bs p, wrD ws] [.ref 1000000 0, I d] (pD x) [gnD ws j' u', rdD bs q, wrD ws]
abbrev DPick (bs : List Nat) (p : Nat) (n v : Int) : Prop := Does Try.prog 31 [rdD bs p] [.ref 1000000 0, I n] (I v) [rdD bs (p + 1)]
abbrev DCond (bs : List Nat) (p : Nat) (n : Int) (e : E) (q : Nat) : Prop := Does Try.prog 65 [rdD bs p] [.ref 1000000 0, I n] (eD e) [rdD bs q]
abbrev DWid (ws : List Int) (x : Pl) (n : Int) : Prop := Does Try.prog 43 [wrD ws] [pD x, .own 1000000 1 ws.length, I 8] (I n) [wrD ws]
theorem plan_zero {bs : List Nat} {ws : List Int} {p j u : Nat} (hl : ws.length ≤ 10) {t : Int} (h1 : DPick bs p ws.length t) : DPlan bs ws p j u 0 (.mk 1 t [] [] []) (p + 1) j u := by
  refine does c_spec_pplanner_plan mixed (Nat.le_of_ble_eq_true rfl) 3 rfl ?_
  conv => arg 3; whnf
  repeat' (first
    | with_reducible refine acc_none ?_ | (conv in hold _ => simp (disch := omega) only [go_sem]) | refine Stp.go ?_ | (with_reducible first | refine it_pos rfl ?_ | refine it_neg (by decide) ?_ | refine st_nil rfl ?_ | refine s_op ?_ ?_ | exact True.intro) | ((with_reducible first | refine dw_reg0 ?_ | refine dw_regB ?_); (conv => arg 3; whnf)) | (refine Spl.go (fun hq he => ?_) (fun hq he => ?_) <;> first | (exfalso; clear hq; omega) | ((try (first | (conv => arg 8; simp only [hq]) | (conv => arg 4; simp only [hq]))); clear hq)) | ((with_reducible first | refine c_split (fun hq => ?_) (fun hq => ?_) | refine q_split (fun hq => ?_) (fun hq => ?_)) <;> (try (first | (conv => arg 8; simp only [hq]) | (conv => arg 4; simp only [hq])))) | (with_reducible refine fin_0 ?_ (by first | rfl | (conv => lhs; simp only [go_sem])) ?_)
    | (with_reducible show evC _ _ _ _ _ _ _ _ _ _ _ _
       first
       | (refine c_doesR [1000001] (h1) (callOK_of rfl (Nat.le_of_ble_eq_true rfl) rfl ?_ ?_) ?_ ?_
          iterate 2 · repeat' (first | (conv in hold _ => simp (disch := omega) only [go_sem]) | exact True.intro | exact Sub.refl _ | omega)
          · ((conv => rhs; simp (disch := omega) only [go_sem]); try rfl)))
    | exact Sub.refl _ | omega)
  refine fin_L [1000000, 1000001, 1000002] ?_ ?_ rfl ?_
  repeat' (first | (conv in hold _ => simp (disch := omega) only [go_sem]) | exact True.intro | exact Sub.refl _ | omega)
  exact Sub.agg ⟨Sub.refl _, Sub.refl _, Sub.nul 5, Sub.nul 1, Sub.nul 5, trivial⟩
theorem plan_scan {bs : List Nat} {ws : List Int} {p j u : Nat} (hl : ws.length ≤ 10) {t : Int} (d : Nat) (h1 : DPick bs p ws.length t) (h2 : DPick bs (p + 1) 6 0) : DPlan bs ws p j u ((d + 1 : Nat) : Int) (.mk 1 t [] [] []) (p + 2) j u := by
  refine does c_spec_pplanner_plan mixed (Nat.le_of_ble_eq_true rfl) 3 rfl ?_
  conv => arg 3; whnf
  repeat' (first
    | with_reducible refine acc_none ?_ | (conv in hold _ => simp (disch := omega) only [go_sem]) | refine Stp.go ?_ | (with_reducible first | refine it_pos rfl ?_ | refine it_neg (by decide) ?_ | refine st_nil rfl ?_ | refine s_op ?_ ?_ | exact True.intro) | ((with_reducible first | refine dw_reg0 ?_ | refine dw_regB ?_); (conv => arg 3; whnf)) | (refine Spl.go (fun hq he => ?_) (fun hq he => ?_) <;> first | (exfalso; clear hq; omega) | ((try (first | (conv => arg 8; simp only [hq]) | (conv => arg 4; simp only [hq]))); clear hq)) | ((with_reducible first | refine c_split (fun hq => ?_) (fun hq => ?_) | refine q_split (fun hq => ?_) (fun hq => ?_)) <;> (try (first | (conv => arg 8; simp only [hq]) | (conv => arg 4; simp only [hq])))) | (with_reducible refine fin_0 ?_ (by first | rfl | (conv => lhs; simp only [go_sem])) ?_)
    | (with_reducible show evC _ _ _ _ _ _ _ _ _ _ _ _
       first
       | (refine c_doesR [1000001] (h1) (callOK_of rfl (Nat.le_of_ble_eq_true rfl) rfl ?_ ?_) ?_ ?_
          iterate 2 · repeat' (first | (conv in hold _ => simp (disch := omega) only [go_sem]) | exact True.intro | exact Sub.refl _ | omega)
          · ((conv => rhs; simp (disch := omega) only [go_sem]); try rfl))
       | (refine c_doesR [1000001] (h2) (callOK_of rfl (Nat.le_of_ble_eq_true rfl) rfl ?_ ?_) ?_ ?_
          iterate 2 · repeat' (first | (conv in hold _ => simp (disch := omega) only [go_sem]) | exact True.intro | exact Sub.refl _ | omega)
          · ((conv => rhs; simp (disch := omega) only [go_sem]); try rfl)))
    | exact Sub.refl _ | omega)
  refine fin_L [1000000, 1000001, 1000002] ?_ ?_ rfl ?_
  repeat' (first | (conv in hold _ => simp (disch := omega) only [go_sem]) | exact True.intro | exact Sub.refl _ | omega)
  exact Sub.agg ⟨Sub.refl _, Sub.refl _, Sub.nul 5, Sub.nul 1, Sub.nul 5, trivial⟩
/-- What a step has before it chooses. -/
structure Pre (bs : List Nat) (ws : List Int) (p j u d : Nat) (x : Pl) (t k6 c n : Int) (q j1 u1 : Nat) : Prop where
  hl : ws.length ≤ 10
  hd : d ≤ 100
  h1 : DPick bs p ws.length t
  h2 : DPick bs (p + 1) 6 k6
  h6 : k6 ≠ 0
  hk : DPlan bs ws (p + 2) j u d x q j1 u1
  hw : DWid ws x n
  hn : 0 ≤ n ∧ n ≤ 6
  h3 : DPick bs q 10 c
  hj : j1 ≤ 1
  hu : u1 ≤ 1
variable {bs : List Nat} {ws : List Int} {p j u d : Nat} {x : Pl} {t k6 c n : Int} {q j1 u1 : Nat}
theorem plan_fil (h : Pre bs ws p j u d x t k6 c n q j1 u1) (hc : c = 0 ∨ c = 1 ∨ c = 2) {e : E} {q2 : Nat} (hce : DCond bs (q + 1) n e q2) : DPlan bs ws p j u ((d + 1 : Nat) : Int) (.mk 2 0 [e] [] [x]) q2 j1 u1 := by
  obtain ⟨hl, hd, h1, h2, h6, hk, hw, hn, h3, hj, hu⟩ := h
  have hf := filterOf_ok e x
  rcases hc with rfl | rfl | rfl
  all_goals
    refine does c_spec_pplanner_plan mixed (Nat.le_of_ble_eq_true rfl) 3 rfl ?_
    conv => arg 3; whnf
    repeat' (first
      | with_reducible refine acc_none ?_ | (conv in hold _ => simp (disch := omega) only [go_sem]) | refine Stp.go ?_ | (with_reducible first | refine it_pos rfl ?_ | refine it_neg (by decide) ?_ | refine st_nil rfl ?_ | refine s_op ?_ ?_ | exact True.intro) | ((with_reducible first | refine dw_reg0 ?_ | refine dw_regB ?_); (conv => arg 3; whnf)) | (refine Spl.go (fun hq he => ?_) (fun hq he => ?_) <;> first | (exfalso; clear hq; omega) | ((try (first | (conv => arg 8; simp only [hq]) | (conv => arg 4; simp only [hq]))); clear hq)) | ((with_reducible first | refine c_split (fun hq => ?_) (fun hq => ?_) | refine q_split (fun hq => ?_) (fun hq => ?_)) <;> (try (first | (conv => arg 8; simp only [hq]) | (conv => arg 4; simp only [hq])))) | (with_reducible refine fin_0 ?_ (by first | rfl | (conv => lhs; simp only [go_sem])) ?_)
      | (with_reducible show evC _ _ _ _ _ _ _ _ _ _ _ _
         first
         | (refine c_doesR [1000001] (h1) (callOK_of rfl (Nat.le_of_ble_eq_true rfl) rfl ?_ ?_) ?_ ?_
            iterate 2 · repeat' (first | (conv in hold _ => simp (disch := omega) only [go_sem]) | exact True.intro | exact Sub.refl _ | omega)
            · ((conv => rhs; simp (disch := omega) only [go_sem]); try rfl))
         | (refine c_doesR [1000001] (h2) (callOK_of rfl (Nat.le_of_ble_eq_true rfl) rfl ?_ ?_) ?_ ?_
            iterate 2 · repeat' (first | (conv in hold _ => simp (disch := omega) only [go_sem]) | exact True.intro | exact Sub.refl _ | omega)
            · ((conv => rhs; simp (disch := omega) only [go_sem]); try rfl))
         | (refine c_doesR [1000000, 1000001, 1000002] (hk) (callOK_of rfl (Nat.le_of_ble_eq_true rfl) rfl ?_ ?_) ?_ ?_
            iterate 2 · repeat' (first | (conv in hold _ => simp (disch := omega) only [go_sem]) | exact True.intro | exact Sub.refl _ | omega)
            · ((conv => rhs; simp (disch := omega) only [go_sem]); try rfl))
         | (refine c_doesR [1000002] (hw) (callOK_of rfl (Nat.le_of_ble_eq_true rfl) rfl ?_ ?_) ?_ ?_
            iterate 2 · repeat' (first | (conv in hold _ => simp (disch := omega) only [go_sem]) | exact True.intro | exact Sub.refl _ | omega)
            · ((conv => rhs; simp (disch := omega) only [go_sem]); try rfl))
         | (refine c_doesR [1000001] (h3) (callOK_of rfl (Nat.le_of_ble_eq_true rfl) rfl ?_ ?_) ?_ ?_
            iterate 2 · repeat' (first | (conv in hold _ => simp (disch := omega) only [go_sem]) | exact True.intro | exact Sub.refl _ | omega)
            · ((conv => rhs; simp (disch := omega) only [go_sem]); try rfl))
         | (refine c_doesR [1000001] (hce) (callOK_of rfl (Nat.le_of_ble_eq_true rfl) rfl ?_ ?_) ?_ ?_
            iterate 2 · repeat' (first | (conv in hold _ => simp (disch := omega) only [go_sem]) | exact True.intro | exact Sub.refl _ | omega)
            · ((conv => rhs; simp (disch := omega) only [go_sem]); try rfl))
         | (refine c_doesE (hf) ?_ ?_ ?_
            · ((try (conv => rhs; simp (disch := omega) only [go_sem])); try rfl)
            · first | rfl | (conv => lhs; simp only [go_sem])))
      | exact Sub.refl _ | omega)
    refine fin_L [1000000, 1000001, 1000002] ?_ ?_ rfl ?_
    repeat' (first | (conv in hold _ => simp (disch := omega) only [go_sem]) | exact True.intro | exact Sub.refl _ | omega)
theorem plan_def (h : Pre bs ws p j u d x t k6 c n q j1 u1) (hc : ((c = 5 ∨ c = 6) ∧ ¬ (0 < j1 ∧ n ≤ 4)) ∨ (c = 7 ∧ u1 = 0)) {e : E} {q2 : Nat} (hce : DCond bs (q + 1) n e q2) : DPlan bs ws p j u ((d + 1 : Nat) : Int) (.mk 2 0 [e] [] [x]) q2 j1 u1 := by
  obtain ⟨hl, hd, h1, h2, h6, hk, hw, hn, h3, hj, hu⟩ := h
  have hf := filterOf_ok e x
  rcases hc with ⟨rfl | rfl, hc⟩ | ⟨rfl, hc⟩
  · by_cases hj0 : 0 < j1
    · have hn4 : ¬ n ≤ 4 := fun h => hc ⟨hj0, h⟩
      refine does c_spec_pplanner_plan mixed (Nat.le_of_ble_eq_true rfl) 3 rfl ?_
      conv => arg 3; whnf
      repeat' (first
        | with_reducible refine acc_none ?_ | (conv in hold _ => simp (disch := omega) only [go_sem]) | refine Stp.go ?_ | (with_reducible first | refine it_pos rfl ?_ | refine it_neg (by decide) ?_ | refine st_nil rfl ?_ | refine s_op ?_ ?_ | exact True.intro) | ((with_reducible first | refine dw_reg0 ?_ | refine dw_regB ?_); (conv => arg 3; whnf)) | (refine Spl.go (fun hq he => ?_) (fun hq he => ?_) <;> first | (exfalso; clear hq; omega) | ((try (first | (conv => arg 8; simp only [hq]) | (conv => arg 4; simp only [hq]))); clear hq)) | ((with_reducible first | refine c_split (fun hq => ?_) (fun hq => ?_) | refine q_split (fun hq => ?_) (fun hq => ?_)) <;> (try (first | (conv => arg 8; simp only [hq]) | (conv => arg 4; simp only [hq])))) | (with_reducible refine fin_0 ?_ (by first | rfl | (conv => lhs; simp only [go_sem])) ?_)
        | (with_reducible show evC _ _ _ _ _ _ _ _ _ _ _ _
           first
           | (refine c_doesR [1000001] (h1) (callOK_of rfl (Nat.le_of_ble_eq_true rfl) rfl ?_ ?_) ?_ ?_
              iterate 2 · repeat' (first | (conv in hold _ => simp (disch := omega) only [go_sem]) | exact True.intro | exact Sub.refl _ | omega)
              · ((conv => rhs; simp (disch := omega) only [go_sem]); try rfl))
           | (refine c_doesR [1000001] (h2) (callOK_of rfl (Nat.le_of_ble_eq_true rfl) rfl ?_ ?_) ?_ ?_
              iterate 2 · repeat' (first | (conv in hold _ => simp (disch := omega) only [go_sem]) | exact True.intro | exact Sub.refl _ | omega)
              · ((conv => rhs; simp (disch := omega) only [go_sem]); try rfl))
           | (refine c_doesR [1000000, 1000001, 1000002] (hk) (callOK_of rfl (Nat.le_of_ble_eq_true rfl) rfl ?_ ?_) ?_ ?_
              iterate 2 · repeat' (first | (conv in hold _ => simp (disch := omega) only [go_sem]) | exact True.intro | exact Sub.refl _ | omega)
              · ((conv => rhs; simp (disch := omega) only [go_sem]); try rfl))
           | (refine c_doesR [1000002] (hw) (callOK_of rfl (Nat.le_of_ble_eq_true rfl) rfl ?_ ?_) ?_ ?_
              iterate 2 · repeat' (first | (conv in hold _ => simp (disch := omega) only [go_sem]) | exact True.intro | exact Sub.refl _ | omega)
              · ((conv => rhs; simp (disch := omega) only [go_sem]); try rfl))
           | (refine c_doesR [1000001] (h3) (callOK_of rfl (Nat.le_of_ble_eq_true rfl) rfl ?_ ?_) ?_ ?_
              iterate 2 · repeat' (first | (conv in hold _ => simp (disch := omega) only [go_sem]) | exact True.intro | exact Sub.refl _ | omega)
              · ((conv => rhs; simp (disch := omega) only [go_sem]); try rfl))
           | (refine c_doesR [1000001] (hce) (callOK_of rfl (Nat.le_of_ble_eq_true rfl) rfl ?_ ?_) ?_ ?_
              iterate 2 · repeat' (first | (conv in hold _ => simp (disch := omega) only [go_sem]) | exact True.intro | exact Sub.refl _ | omega)
              · ((conv => rhs; simp (disch := omega) only [go_sem]); try rfl))
           | (refine c_doesE (hf) ?_ ?_ ?_
              · ((try (conv => rhs; simp (disch := omega) only [go_sem])); try rfl)
              · first | rfl | (conv => lhs; simp only [go_sem])))
        | exact Sub.refl _ | omega)
      refine fin_L [1000000, 1000001, 1000002] ?_ ?_ rfl ?_
      repeat' (first | (conv in hold _ => simp (disch := omega) only [go_sem]) | exact True.intro | exact Sub.refl _ | omega)
    · refine does c_spec_pplanner_plan mixed (Nat.le_of_ble_eq_true rfl) 3 rfl ?_
      conv => arg 3; whnf
      repeat' (first
        | with_reducible refine acc_none ?_ | (conv in hold _ => simp (disch := omega) only [go_sem]) | refine Stp.go ?_ | (with_reducible first | refine it_pos rfl ?_ | refine it_neg (by decide) ?_ | refine st_nil rfl ?_ | refine s_op ?_ ?_ | exact True.intro) | ((with_reducible first | refine dw_reg0 ?_ | refine dw_regB ?_); (conv => arg 3; whnf)) | (refine Spl.go (fun hq he => ?_) (fun hq he => ?_) <;> first | (exfalso; clear hq; omega) | ((try (first | (conv => arg 8; simp only [hq]) | (conv => arg 4; simp only [hq]))); clear hq)) | ((with_reducible first | refine c_split (fun hq => ?_) (fun hq => ?_) | refine q_split (fun hq => ?_) (fun hq => ?_)) <;> (try (first | (conv => arg 8; simp only [hq]) | (conv => arg 4; simp only [hq])))) | (with_reducible refine fin_0 ?_ (by first | rfl | (conv => lhs; simp only [go_sem])) ?_)
        | (with_reducible show evC _ _ _ _ _ _ _ _ _ _ _ _
           first
           | (refine c_doesR [1000001] (h1) (callOK_of rfl (Nat.le_of_ble_eq_true rfl) rfl ?_ ?_) ?_ ?_
              iterate 2 · repeat' (first | (conv in hold _ => simp (disch := omega) only [go_sem]) | exact True.intro | exact Sub.refl _ | omega)
              · ((conv => rhs; simp (disch := omega) only [go_sem]); try rfl))
           | (refine c_doesR [1000001] (h2) (callOK_of rfl (Nat.le_of_ble_eq_true rfl) rfl ?_ ?_) ?_ ?_
              iterate 2 · repeat' (first | (conv in hold _ => simp (disch := omega) only [go_sem]) | exact True.intro | exact Sub.refl _ | omega)
              · ((conv => rhs; simp (disch := omega) only [go_sem]); try rfl))
           | (refine c_doesR [1000000, 1000001, 1000002] (hk) (callOK_of rfl (Nat.le_of_ble_eq_true rfl) rfl ?_ ?_) ?_ ?_
              iterate 2 · repeat' (first | (conv in hold _ => simp (disch := omega) only [go_sem]) | exact True.intro | exact Sub.refl _ | omega)
              · ((conv => rhs; simp (disch := omega) only [go_sem]); try rfl))
           | (refine c_doesR [1000002] (hw) (callOK_of rfl (Nat.le_of_ble_eq_true rfl) rfl ?_ ?_) ?_ ?_
              iterate 2 · repeat' (first | (conv in hold _ => simp (disch := omega) only [go_sem]) | exact True.intro | exact Sub.refl _ | omega)
              · ((conv => rhs; simp (disch := omega) only [go_sem]); try rfl))
           | (refine c_doesR [1000001] (h3) (callOK_of rfl (Nat.le_of_ble_eq_true rfl) rfl ?_ ?_) ?_ ?_
              iterate 2 · repeat' (first | (conv in hold _ => simp (disch := omega) only [go_sem]) | exact True.intro | exact Sub.refl _ | omega)
              · ((conv => rhs; simp (disch := omega) only [go_sem]); try rfl))
           | (refine c_doesR [1000001] (hce) (callOK_of rfl (Nat.le_of_ble_eq_true rfl) rfl ?_ ?_) ?_ ?_
              iterate 2 · repeat' (first | (conv in hold _ => simp (disch := omega) only [go_sem]) | exact True.intro | exact Sub.refl _ | omega)
              · ((conv => rhs; simp (disch := omega) only [go_sem]); try rfl))
           | (refine c_doesE (hf) ?_ ?_ ?_
              · ((try (conv => rhs; simp (disch := omega) only [go_sem])); try rfl)
              · first | rfl | (conv => lhs; simp only [go_sem])))
        | exact Sub.refl _ | omega)
      refine fin_L [1000000, 1000001, 1000002] ?_ ?_ rfl ?_
      repeat' (first | (conv in hold _ => simp (disch := omega) only [go_sem]) | exact True.intro | exact Sub.refl _ | omega)
  · by_cases hj0 : 0 < j1
    · have hn4 : ¬ n ≤ 4 := fun h => hc ⟨hj0, h⟩
      refine does c_spec_pplanner_plan mixed (Nat.le_of_ble_eq_true rfl) 3 rfl ?_
      conv => arg 3; whnf
      repeat' (first
        | with_reducible refine acc_none ?_ | (conv in hold _ => simp (disch := omega) only [go_sem]) | refine Stp.go ?_ | (with_reducible first | refine it_pos rfl ?_ | refine it_neg (by decide) ?_ | refine st_nil rfl ?_ | refine s_op ?_ ?_ | exact True.intro) | ((with_reducible first | refine dw_reg0 ?_ | refine dw_regB ?_); (conv => arg 3; whnf)) | (refine Spl.go (fun hq he => ?_) (fun hq he => ?_) <;> first | (exfalso; clear hq; omega) | ((try (first | (conv => arg 8; simp only [hq]) | (conv => arg 4; simp only [hq]))); clear hq)) | ((with_reducible first | refine c_split (fun hq => ?_) (fun hq => ?_) | refine q_split (fun hq => ?_) (fun hq => ?_)) <;> (try (first | (conv => arg 8; simp only [hq]) | (conv => arg 4; simp only [hq])))) | (with_reducible refine fin_0 ?_ (by first | rfl | (conv => lhs; simp only [go_sem])) ?_)
        | (with_reducible show evC _ _ _ _ _ _ _ _ _ _ _ _
           first
           | (refine c_doesR [1000001] (h1) (callOK_of rfl (Nat.le_of_ble_eq_true rfl) rfl ?_ ?_) ?_ ?_
              iterate 2 · repeat' (first | (conv in hold _ => simp (disch := omega) only [go_sem]) | exact True.intro | exact Sub.refl _ | omega)
              · ((conv => rhs; simp (disch := omega) only [go_sem]); try rfl))
           | (refine c_doesR [1000001] (h2) (callOK_of rfl (Nat.le_of_ble_eq_true rfl) rfl ?_ ?_) ?_ ?_
              iterate 2 · repeat' (first | (conv in hold _ => simp (disch := omega) only [go_sem]) | exact True.intro | exact Sub.refl _ | omega)
              · ((conv => rhs; simp (disch := omega) only [go_sem]); try rfl))
           | (refine c_doesR [1000000, 1000001, 1000002] (hk) (callOK_of rfl (Nat.le_of_ble_eq_true rfl) rfl ?_ ?_) ?_ ?_
              iterate 2 · repeat' (first | (conv in hold _ => simp (disch := omega) only [go_sem]) | exact True.intro | exact Sub.refl _ | omega)
              · ((conv => rhs; simp (disch := omega) only [go_sem]); try rfl))
           | (refine c_doesR [1000002] (hw) (callOK_of rfl (Nat.le_of_ble_eq_true rfl) rfl ?_ ?_) ?_ ?_
              iterate 2 · repeat' (first | (conv in hold _ => simp (disch := omega) only [go_sem]) | exact True.intro | exact Sub.refl _ | omega)
              · ((conv => rhs; simp (disch := omega) only [go_sem]); try rfl))
           | (refine c_doesR [1000001] (h3) (callOK_of rfl (Nat.le_of_ble_eq_true rfl) rfl ?_ ?_) ?_ ?_
              iterate 2 · repeat' (first | (conv in hold _ => simp (disch := omega) only [go_sem]) | exact True.intro | exact Sub.refl _ | omega)
              · ((conv => rhs; simp (disch := omega) only [go_sem]); try rfl))
           | (refine c_doesR [1000001] (hce) (callOK_of rfl (Nat.le_of_ble_eq_true rfl) rfl ?_ ?_) ?_ ?_
              iterate 2 · repeat' (first | (conv in hold _ => simp (disch := omega) only [go_sem]) | exact True.intro | exact Sub.refl _ | omega)
              · ((conv => rhs; simp (disch := omega) only [go_sem]); try rfl))
           | (refine c_doesE (hf) ?_ ?_ ?_
              · ((try (conv => rhs; simp (disch := omega) only [go_sem])); try rfl)
              · first | rfl | (conv => lhs; simp only [go_sem])))
        | exact Sub.refl _ | omega)
      refine fin_L [1000000, 1000001, 1000002] ?_ ?_ rfl ?_
      repeat' (first | (conv in hold _ => simp (disch := omega) only [go_sem]) | exact True.intro | exact Sub.refl _ | omega)
    · refine does c_spec_pplanner_plan mixed (Nat.le_of_ble_eq_true rfl) 3 rfl ?_
      conv => arg 3; whnf
      repeat' (first
        | with_reducible refine acc_none ?_ | (conv in hold _ => simp (disch := omega) only [go_sem]) | refine Stp.go ?_ | (with_reducible first | refine it_pos rfl ?_ | refine it_neg (by decide) ?_ | refine st_nil rfl ?_ | refine s_op ?_ ?_ | exact True.intro) | ((with_reducible first | refine dw_reg0 ?_ | refine dw_regB ?_); (conv => arg 3; whnf)) | (refine Spl.go (fun hq he => ?_) (fun hq he => ?_) <;> first | (exfalso; clear hq; omega) | ((try (first | (conv => arg 8; simp only [hq]) | (conv => arg 4; simp only [hq]))); clear hq)) | ((with_reducible first | refine c_split (fun hq => ?_) (fun hq => ?_) | refine q_split (fun hq => ?_) (fun hq => ?_)) <;> (try (first | (conv => arg 8; simp only [hq]) | (conv => arg 4; simp only [hq])))) | (with_reducible refine fin_0 ?_ (by first | rfl | (conv => lhs; simp only [go_sem])) ?_)
        | (with_reducible show evC _ _ _ _ _ _ _ _ _ _ _ _
           first
           | (refine c_doesR [1000001] (h1) (callOK_of rfl (Nat.le_of_ble_eq_true rfl) rfl ?_ ?_) ?_ ?_
              iterate 2 · repeat' (first | (conv in hold _ => simp (disch := omega) only [go_sem]) | exact True.intro | exact Sub.refl _ | omega)
              · ((conv => rhs; simp (disch := omega) only [go_sem]); try rfl))
           | (refine c_doesR [1000001] (h2) (callOK_of rfl (Nat.le_of_ble_eq_true rfl) rfl ?_ ?_) ?_ ?_
              iterate 2 · repeat' (first | (conv in hold _ => simp (disch := omega) only [go_sem]) | exact True.intro | exact Sub.refl _ | omega)
              · ((conv => rhs; simp (disch := omega) only [go_sem]); try rfl))
           | (refine c_doesR [1000000, 1000001, 1000002] (hk) (callOK_of rfl (Nat.le_of_ble_eq_true rfl) rfl ?_ ?_) ?_ ?_
              iterate 2 · repeat' (first | (conv in hold _ => simp (disch := omega) only [go_sem]) | exact True.intro | exact Sub.refl _ | omega)
              · ((conv => rhs; simp (disch := omega) only [go_sem]); try rfl))
           | (refine c_doesR [1000002] (hw) (callOK_of rfl (Nat.le_of_ble_eq_true rfl) rfl ?_ ?_) ?_ ?_
              iterate 2 · repeat' (first | (conv in hold _ => simp (disch := omega) only [go_sem]) | exact True.intro | exact Sub.refl _ | omega)
              · ((conv => rhs; simp (disch := omega) only [go_sem]); try rfl))
           | (refine c_doesR [1000001] (h3) (callOK_of rfl (Nat.le_of_ble_eq_true rfl) rfl ?_ ?_) ?_ ?_
              iterate 2 · repeat' (first | (conv in hold _ => simp (disch := omega) only [go_sem]) | exact True.intro | exact Sub.refl _ | omega)
              · ((conv => rhs; simp (disch := omega) only [go_sem]); try rfl))
           | (refine c_doesR [1000001] (hce) (callOK_of rfl (Nat.le_of_ble_eq_true rfl) rfl ?_ ?_) ?_ ?_
              iterate 2 · repeat' (first | (conv in hold _ => simp (disch := omega) only [go_sem]) | exact True.intro | exact Sub.refl _ | omega)
              · ((conv => rhs; simp (disch := omega) only [go_sem]); try rfl))
           | (refine c_doesE (hf) ?_ ?_ ?_
              · ((try (conv => rhs; simp (disch := omega) only [go_sem])); try rfl)
              · first | rfl | (conv => lhs; simp only [go_sem])))
        | exact Sub.refl _ | omega)
      refine fin_L [1000000, 1000001, 1000002] ?_ ?_ rfl ?_
      repeat' (first | (conv in hold _ => simp (disch := omega) only [go_sem]) | exact True.intro | exact Sub.refl _ | omega)
  · subst hc
    refine does c_spec_pplanner_plan mixed (Nat.le_of_ble_eq_true rfl) 3 rfl ?_
    conv => arg 3; whnf
    repeat' (first
      | with_reducible refine acc_none ?_ | (conv in hold _ => simp (disch := omega) only [go_sem]) | refine Stp.go ?_ | (with_reducible first | refine it_pos rfl ?_ | refine it_neg (by decide) ?_ | refine st_nil rfl ?_ | refine s_op ?_ ?_ | exact True.intro) | ((with_reducible first | refine dw_reg0 ?_ | refine dw_regB ?_); (conv => arg 3; whnf)) | (refine Spl.go (fun hq he => ?_) (fun hq he => ?_) <;> first | (exfalso; clear hq; omega) | ((try (first | (conv => arg 8; simp only [hq]) | (conv => arg 4; simp only [hq]))); clear hq)) | ((with_reducible first | refine c_split (fun hq => ?_) (fun hq => ?_) | refine q_split (fun hq => ?_) (fun hq => ?_)) <;> (try (first | (conv => arg 8; simp only [hq]) | (conv => arg 4; simp only [hq])))) | (with_reducible refine fin_0 ?_ (by first | rfl | (conv => lhs; simp only [go_sem])) ?_)
      | (with_reducible show evC _ _ _ _ _ _ _ _ _ _ _ _
         first
         | (refine c_doesR [1000001] (h1) (callOK_of rfl (Nat.le_of_ble_eq_true rfl) rfl ?_ ?_) ?_ ?_
            iterate 2 · repeat' (first | (conv in hold _ => simp (disch := omega) only [go_sem]) | exact True.intro | exact Sub.refl _ | omega)
            · ((conv => rhs; simp (disch := omega) only [go_sem]); try rfl))
         | (refine c_doesR [1000001] (h2) (callOK_of rfl (Nat.le_of_ble_eq_true rfl) rfl ?_ ?_) ?_ ?_
            iterate 2 · repeat' (first | (conv in hold _ => simp (disch := omega) only [go_sem]) | exact True.intro | exact Sub.refl _ | omega)
            · ((conv => rhs; simp (disch := omega) only [go_sem]); try rfl))
         | (refine c_doesR [1000000, 1000001, 1000002] (hk) (callOK_of rfl (Nat.le_of_ble_eq_true rfl) rfl ?_ ?_) ?_ ?_
            iterate 2 · repeat' (first | (conv in hold _ => simp (disch := omega) only [go_sem]) | exact True.intro | exact Sub.refl _ | omega)
            · ((conv => rhs; simp (disch := omega) only [go_sem]); try rfl))
         | (refine c_doesR [1000002] (hw) (callOK_of rfl (Nat.le_of_ble_eq_true rfl) rfl ?_ ?_) ?_ ?_
            iterate 2 · repeat' (first | (conv in hold _ => simp (disch := omega) only [go_sem]) | exact True.intro | exact Sub.refl _ | omega)
            · ((conv => rhs; simp (disch := omega) only [go_sem]); try rfl))
         | (refine c_doesR [1000001] (h3) (callOK_of rfl (Nat.le_of_ble_eq_true rfl) rfl ?_ ?_) ?_ ?_
            iterate 2 · repeat' (first | (conv in hold _ => simp (disch := omega) only [go_sem]) | exact True.intro | exact Sub.refl _ | omega)
            · ((conv => rhs; simp (disch := omega) only [go_sem]); try rfl))
         | (refine c_doesR [1000001] (hce) (callOK_of rfl (Nat.le_of_ble_eq_true rfl) rfl ?_ ?_) ?_ ?_
            iterate 2 · repeat' (first | (conv in hold _ => simp (disch := omega) only [go_sem]) | exact True.intro | exact Sub.refl _ | omega)
            · ((conv => rhs; simp (disch := omega) only [go_sem]); try rfl))
         | (refine c_doesE (hf) ?_ ?_ ?_
            · ((try (conv => rhs; simp (disch := omega) only [go_sem])); try rfl)
            · first | rfl | (conv => lhs; simp only [go_sem])))
      | exact Sub.refl _ | omega)
    refine fin_L [1000000, 1000001, 1000002] ?_ ?_ rfl ?_
    repeat' (first | (conv in hold _ => simp (disch := omega) only [go_sem]) | exact True.intro | exact Sub.refl _ | omega)
end Go.Proofs.Ytikfanemeglcoaa
