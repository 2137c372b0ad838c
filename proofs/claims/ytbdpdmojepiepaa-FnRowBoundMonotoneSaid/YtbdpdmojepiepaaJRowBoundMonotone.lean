/-
  'laws.FnRowBoundMonotone' answers true at every input; the row's step out of the walk 'walk_FnRowBoundMonotone'. No condition.
-/
import Derived.Test.YtbdpdmojepiepaaVFineE
import Derived.Test.YtbdpdmojepiepaaDc14
import Derived.Test.YtbdpdmojepiepaaVPlanO
import Derived.Test.YtbdpdmojepiepaaVLend
import Derived.Test.YtbdpdmojepiepaaOpenC
import Derived.Test.YtbdpdmojepiepaaVCall
import Derived.Test.YtbdpdmojepiepaaVLib
import Derived.Test.YtbdpdmojepiepaaDc17
import Derived.Test.YtbdpdmojepiepaaFacts
/-
  A plan with a width is one of its kind throughout. No condition.
-/
set_option maxHeartbeats 4000000
set_option maxRecDepth 100000
set_option linter.unusedVariables false
set_option linter.unusedSimpArgs false
namespace Go.Proofs.Ytbdpdmojepiepaa
open Go.RowKit

/-- Every part has the fields of its kind, and scans a table that is there. -/
inductive Fine (n : Nat) : Pl → Prop
  | mk {p : Pl} (hf : fields p) (hs : p.k = 1 → 0 ≤ p.t ∧ p.t ≤ (n : Int) - 1) (hk : ∀ x, x ∈ p.ks → Fine n x) : Fine n p
theorem Fine.fields {n : Nat} {p : Pl} (h : Fine n p) : fields p := by cases h with | mk h _ _ => exact h
theorem Fine.scan {n : Nat} {p : Pl} (h : Fine n p) : p.k = 1 → 0 ≤ p.t ∧ p.t ≤ (n : Int) - 1 := by cases h with | mk _ h _ => exact h
theorem Fine.kid {n : Nat} {p x : Pl} (h : Fine n p) (hx : x ∈ p.ks) : Fine n x := by cases h with | mk _ _ h => exact h x hx
theorem FineE.fine {ws : List Int} : ∀ p : Pl, FineE ws p → Fine ws.length p :=
  Pl.indA (fun p ih h => .mk h.fields h.scan (fun x hx => ih x hx (h.kid hx)))
theorem width_fine {ws : List Int} (hw : wsOk ws) (p : Pl) (hs : psz p ≤ 1048576) (d : Nat) (hd : d < 1000) : ∃ n : Int, ((0 ≤ n ∧ n ≤ 6) ∧ (n ≠ 0 → Fine ws.length p)) ∧ Does Try.prog 62 [] [pD p, intsD ws, I d] (I n) [] ∧ Does Try.prog 57 [] [pD p, intsD ws, I d] (I n) [] := by
  obtain ⟨n, ⟨⟨hn, _⟩, hf⟩, h1, h2⟩ := width_fineE hw p hs d hd
  exact ⟨n, ⟨hn, fun h => (hf h).fine p⟩, h1, h2⟩
theorem PlanWidth_fine (p : Pl) (hs : psz p ≤ 1048576) (ws : List Int) (hl : ws.length ≤ 1048576) : ∃ n : Int, ((0 ≤ n ∧ n ≤ 6) ∧ (n ≠ 0 → wsOk ws ∧ Fine ws.length p)) ∧ Does Try.prog 34 [] [pD p, intsD ws] (I n) [] ∧ Does Try.prog 32 [] [pD p, intsD ws] (I n) [] := by
  obtain ⟨n, ⟨hn, hf⟩, h1, h2⟩ := PlanWidth_fineE p hs ws hl
  exact ⟨n, ⟨hn, fun h => ⟨(hf h).1, (hf h).2.fine p⟩⟩, h1, h2⟩
end Go.Proofs.Ytbdpdmojepiepaa
/-
  Bounds for the number of rows: the methods of a visitor, alone. No condition.
-/
set_option maxHeartbeats 4000000
set_option maxRecDepth 100000
set_option linter.unusedVariables false
set_option linter.unusedSimpArgs false
namespace Go.Proofs.Ytbdpdmojepiepaa
open Go.RowKit

def M : Int := 1000000000
theorem mul_small {a b : Int} (ha : 0 ≤ a ∧ a ≤ M) (hb : 0 ≤ b ∧ b ≤ M) : 0 ≤ a * b ∧ a * b ≤ 1000000000000000000 := by
  have h1 : a * b ≤ M * M := Int.mul_le_mul ha.2 hb.2 hb.1 (by unfold M; omega)
  have h2 := Int.mul_nonneg ha.1 hb.1
  unfold M at h1
  omega
theorem scan_at {cnt : List Int} {t : Int} (h : 0 ≤ t ∧ t ≤ (cnt.length : Int) - 1) : ∃ x, cnt[t.toNat]? = some x ∧ cnt.getD t.toNat 0 = x := get_ex (by omega)
theorem v_scan {cnt : List Int} {p : Pl} (h : 0 ≤ p.t ∧ p.t ≤ (cnt.length : Int) - 1) : Does Try.prog 132 [] [.agg [intsD cnt], pD p] (I (cnt.getD p.t.toNat 0)) [] := by
  obtain ⟨x, hx, hg⟩ := scan_at h
  rw [hg]
  refine does0 c_impl_rowBounds_scan mixed (Nat.le_of_ble_eq_true rfl) ?_
  conv => arg 3; whnf
  repeat' (first
    | with_reducible refine acc_none ?_
    | (conv in hold _ => simp (disch := omega) only [go_sem, List.getElem?_map, hx, Option.map_some])
    | refine Stp.go ?_
    | with_reducible first | refine it_pos rfl ?_ | refine it_neg (by decide) ?_ | refine st_nil rfl ?_ | refine s_op ?_ ?_ | exact True.intro
    | ((with_reducible first | refine dw_reg0 ?_ | refine dw_regB ?_); (conv => arg 3; whnf))
    | (refine Spl.go (fun hq he => ?_) (fun hq he => ?_) <;> first | (exfalso; clear hq; omega) | ((try (first | (conv => arg 8; simp only [hq]) | (conv => arg 4; simp only [hq]))); clear hq))
    | ((with_reducible first | refine c_split (fun hq => ?_) (fun hq => ?_) | refine q_split (fun hq => ?_) (fun hq => ?_)) <;> (try (first | (conv => arg 8; simp only [hq]) | (conv => arg 4; simp only [hq]))))
    | (with_reducible refine fin_0 ?_ (by first | rfl | (conv => lhs; simp only [go_sem, List.getElem?_map, hx, Option.map_some])) ?_)
    | exact Sub.refl _
    | omega)
theorem v_project (cnt : List Int) (p : Pl) (a : Int) : Does Try.prog 131 [] [.agg [intsD cnt], pD p, I a] (I a) [] := by
  refine does0 c_impl_rowBounds_project mixed (Nat.le_of_ble_eq_true rfl) ?_
  conv => arg 3; whnf
  repeat' (first
    | with_reducible refine acc_none ?_
    | (conv in hold _ => simp (disch := omega) only [go_sem])
    | refine Stp.go ?_
    | with_reducible first | refine it_pos rfl ?_ | refine it_neg (by decide) ?_ | refine st_nil rfl ?_ | refine s_op ?_ ?_ | exact True.intro
    | ((with_reducible first | refine dw_reg0 ?_ | refine dw_regB ?_); (conv => arg 3; whnf))
    | (refine Spl.go (fun hq he => ?_) (fun hq he => ?_) <;> first | (exfalso; clear hq; omega) | ((try (first | (conv => arg 8; simp only [hq]) | (conv => arg 4; simp only [hq]))); clear hq))
    | ((with_reducible first | refine c_split (fun hq => ?_) (fun hq => ?_) | refine q_split (fun hq => ?_) (fun hq => ?_)) <;> (try (first | (conv => arg 8; simp only [hq]) | (conv => arg 4; simp only [hq]))))
    | (with_reducible refine fin_0 ?_ (by first | rfl | (conv => lhs; simp only [go_sem])) ?_)
    | exact Sub.refl _
    | omega)
theorem v_distinct (cnt : List Int) (p : Pl) (a : Int) : Does Try.prog 126 [] [.agg [intsD cnt], pD p, I a] (I a) [] := by
  refine does0 c_impl_rowBounds_distinct mixed (Nat.le_of_ble_eq_true rfl) ?_
  conv => arg 3; whnf
  repeat' (first
    | with_reducible refine acc_none ?_
    | (conv in hold _ => simp (disch := omega) only [go_sem])
    | refine Stp.go ?_
    | with_reducible first | refine it_pos rfl ?_ | refine it_neg (by decide) ?_ | refine st_nil rfl ?_ | refine s_op ?_ ?_ | exact True.intro
    | ((with_reducible first | refine dw_reg0 ?_ | refine dw_regB ?_); (conv => arg 3; whnf))
    | (refine Spl.go (fun hq he => ?_) (fun hq he => ?_) <;> first | (exfalso; clear hq; omega) | ((try (first | (conv => arg 8; simp only [hq]) | (conv => arg 4; simp only [hq]))); clear hq))
    | ((with_reducible first | refine c_split (fun hq => ?_) (fun hq => ?_) | refine q_split (fun hq => ?_) (fun hq => ?_)) <;> (try (first | (conv => arg 8; simp only [hq]) | (conv => arg 4; simp only [hq]))))
    | (with_reducible refine fin_0 ?_ (by first | rfl | (conv => lhs; simp only [go_sem])) ?_)
    | exact Sub.refl _
    | omega)
theorem v_join (cnt : List Int) (p : Pl) (a b : Int) (ha : 0 ≤ a ∧ a ≤ M) (hb : 0 ≤ b ∧ b ≤ M) : Does Try.prog 129 [] [.agg [intsD cnt], pD p, I a, I b] (I (min (a * b) M)) [] := by
  have hm := mul_small ha hb
  have hM : M = 1000000000 := rfl
  rw [hM]
  refine does0 c_impl_rowBounds_join mixed (Nat.le_of_ble_eq_true rfl) ?_
  conv => arg 3; whnf
  repeat' (first
    | with_reducible refine acc_none ?_
    | (conv in hold _ => simp (disch := omega) only [go_sem])
    | refine Stp.go ?_
    | with_reducible first | refine it_pos rfl ?_ | refine it_neg (by decide) ?_ | refine st_nil rfl ?_ | refine s_op ?_ ?_ | exact True.intro
    | ((with_reducible first | refine dw_reg0 ?_ | refine dw_regB ?_); (conv => arg 3; whnf))
    | (refine Spl.go (fun hq he => ?_) (fun hq he => ?_) <;> first | (exfalso; clear hq; omega) | ((try (first | (conv => arg 8; simp only [hq]) | (conv => arg 4; simp only [hq]))); clear hq))
    | ((with_reducible first | refine c_split (fun hq => ?_) (fun hq => ?_) | refine q_split (fun hq => ?_) (fun hq => ?_)) <;> (try (first | (conv => arg 8; simp only [hq]) | (conv => arg 4; simp only [hq]))))
    | (with_reducible refine fin_0 ?_ (by first | rfl | (conv => lhs; simp only [go_sem])) ?_)
    | exact Sub.refl _
    | omega)
theorem v_union (cnt : List Int) (p : Pl) (a b : Int) (ha : 0 ≤ a ∧ a ≤ M) (hb : 0 ≤ b ∧ b ≤ M) : Does Try.prog 133 [] [.agg [intsD cnt], pD p, I a, I b] (I (min (a + b) M)) [] := by
  unfold M at ha hb ⊢
  refine does0 c_impl_rowBounds_union mixed (Nat.le_of_ble_eq_true rfl) ?_
  conv => arg 3; whnf
  repeat' (first
    | with_reducible refine acc_none ?_
    | (conv in hold _ => simp (disch := omega) only [go_sem])
    | refine Stp.go ?_
    | with_reducible first | refine it_pos rfl ?_ | refine it_neg (by decide) ?_ | refine st_nil rfl ?_ | refine s_op ?_ ?_ | exact True.intro
    | ((with_reducible first | refine dw_reg0 ?_ | refine dw_regB ?_); (conv => arg 3; whnf))
    | (refine Spl.go (fun hq he => ?_) (fun hq he => ?_) <;> first | (exfalso; clear hq; omega) | ((try (first | (conv => arg 8; simp only [hq]) | (conv => arg 4; simp only [hq]))); clear hq))
    | ((with_reducible first | refine c_split (fun hq => ?_) (fun hq => ?_) | refine q_split (fun hq => ?_) (fun hq => ?_)) <;> (try (first | (conv => arg 8; simp only [hq]) | (conv => arg 4; simp only [hq]))))
    | (with_reducible refine fin_0 ?_ (by first | rfl | (conv => lhs; simp only [go_sem])) ?_)
    | exact Sub.refl _
    | omega)
theorem v_group (cnt : List Int) (p : Pl) (a : Int) (hl : p.cs.length ≤ 1048576) : Does Try.prog 128 [] [.agg [intsD cnt], pD p, I a] (I (if p.cs.length = 0 then min a 1 else a)) [] := by
  by_cases h : p.cs.length = 0
  · rw [if_pos h]
    refine does0 c_impl_rowBounds_group mixed (Nat.le_of_ble_eq_true rfl) ?_
    conv => arg 3; whnf
    repeat' (first
      | with_reducible refine acc_none ?_
      | (conv in hold _ => simp (disch := omega) only [go_sem, h])
      | refine Stp.go ?_
      | with_reducible first | refine it_pos rfl ?_ | refine it_neg (by decide) ?_ | refine st_nil rfl ?_ | refine s_op ?_ ?_ | exact True.intro
      | ((with_reducible first | refine dw_reg0 ?_ | refine dw_regB ?_); (conv => arg 3; whnf))
      | (refine Spl.go (fun hq he => ?_) (fun hq he => ?_) <;> first | (exfalso; clear hq; omega) | ((try (first | (conv => arg 8; simp only [hq]) | (conv => arg 4; simp only [hq]))); clear hq))
      | ((with_reducible first | refine c_split (fun hq => ?_) (fun hq => ?_) | refine q_split (fun hq => ?_) (fun hq => ?_)) <;> (try (first | (conv => arg 8; simp only [hq]) | (conv => arg 4; simp only [hq]))))
      | (with_reducible refine fin_0 ?_ (by first | rfl | (conv => lhs; simp only [go_sem, h])) ?_)
      | exact Sub.refl _
      | omega)
  · rw [if_neg h]
    refine does0 c_impl_rowBounds_group mixed (Nat.le_of_ble_eq_true rfl) ?_
    conv => arg 3; whnf
    repeat' (first
      | with_reducible refine acc_none ?_
      | (conv in hold _ => simp (disch := omega) only [go_sem])
      | refine Stp.go ?_
      | with_reducible first | refine it_pos rfl ?_ | refine it_neg (by decide) ?_ | refine st_nil rfl ?_ | refine s_op ?_ ?_ | exact True.intro
      | ((with_reducible first | refine dw_reg0 ?_ | refine dw_regB ?_); (conv => arg 3; whnf))
      | (refine Spl.go (fun hq he => ?_) (fun hq he => ?_) <;> first | (exfalso; clear hq; omega) | ((try (first | (conv => arg 8; simp only [hq]) | (conv => arg 4; simp only [hq]))); clear hq))
      | ((with_reducible first | refine c_split (fun hq => ?_) (fun hq => ?_) | refine q_split (fun hq => ?_) (fun hq => ?_)) <;> (try (first | (conv => arg 8; simp only [hq]) | (conv => arg 4; simp only [hq]))))
      | (with_reducible refine fin_0 ?_ (by first | rfl | (conv => lhs; simp only [go_sem])) ?_)
      | exact Sub.refl _
      | omega)
end Go.Proofs.Ytbdpdmojepiepaa
/-
  Bounds for the number of rows, in both packages. No condition.
-/
set_option maxHeartbeats 4000000
set_option maxRecDepth 100000
set_option linter.unusedVariables false
set_option linter.unusedSimpArgs false
namespace Go.Proofs.Ytbdpdmojepiepaa
open Go.RowKit

/-- The bound of a part, out of those of its kids. -/
def rbK (cnt : List Int) (k t : Int) (c : Nat) (l : List Int) : Int :=
  if k = 1 then cnt.getD t.toNat 0 else if k = 4 then min (l.getD 0 0 * l.getD 1 0) M else if k = 5 then min (l.getD 0 0 * max (l.getD 1 0) 1) M
  else if k = 6 then min (l.getD 0 0 + l.getD 1 0) M else if k = 8 ∧ c = 0 then min (l.getD 0 0) 1 else l.getD 0 0
mutual
def rb (cnt : List Int) : Pl → Int
  | .mk k t _ cs ks => rbK cnt k t cs.length (rbL cnt ks)
def rbL (cnt : List Int) : List Pl → List Int
  | [] => []
  | p :: l => rb cnt p :: rbL cnt l
end
theorem rbL_map (cnt : List Int) : ∀ l : List Pl, rbL cnt l = l.map (rb cnt)
  | [] => rfl
  | p :: l => by rw [rbL, rbL_map cnt l]; rfl
theorem rb_eq (cnt : List Int) (p : Pl) : rb cnt p = rbK cnt p.k p.t p.cs.length (p.ks.map (rb cnt)) := by
  cases p with
  | mk k t es cs ks => rw [rb, rbL_map]; rfl
def cntOk (cnt : List Int) : Prop := ∀ (j : Nat) (x : Int), cnt[j]? = some x → 0 ≤ x ∧ x ≤ 400
noncomputable instance cntDec (cnt : List Int) : Decidable (cntOk cnt) := Classical.propDecidable _
theorem getD_in {l : List Int} {B : Int} (hB : 0 ≤ B) (h : ∀ (j : Nat) (x : Int), l[j]? = some x → 0 ≤ x ∧ x ≤ B) (j : Nat) : 0 ≤ l.getD j 0 ∧ l.getD j 0 ≤ B := by
  rw [List.getD_eq_getElem?_getD]
  cases hj : l[j]? with
  | none => exact ⟨Int.le_refl _, hB⟩
  | some x => exact h j x hj
theorem rbK_range {cnt : List Int} (hc : cntOk cnt) (k t : Int) (c : Nat) {l : List Int} (hl : ∀ (j : Nat) (x : Int), l[j]? = some x → 0 ≤ x ∧ x ≤ M) : 0 ≤ rbK cnt k t c l ∧ rbK cnt k t c l ≤ M := by
  have hM : (0 : Int) ≤ M := by unfold M; omega
  have h0 := getD_in hM hl 0
  have h1 := getD_in hM hl 1
  have h2 := getD_in (B := 400) (by omega) hc t.toNat
  have h3 := mul_small h0 h1
  have h4 := mul_small h0 (b := max (l.getD 1 0) 1) (by unfold M at *; omega)
  unfold rbK
  unfold M at *
  split
  · omega
  · split
    · omega
    · split
      · omega
      · split
        · omega
        · split <;> omega
theorem rb_range {cnt : List Int} (hc : cntOk cnt) : ∀ p : Pl, 0 ≤ rb cnt p ∧ rb cnt p ≤ M := by
  refine Pl.indA (fun p ih => ?_)
  rw [rb_eq]
  refine rbK_range hc _ _ _ (fun j x hj => ?_)
  rw [List.getElem?_map] at hj
  cases hk : p.ks[j]? with
  | none => rw [hk] at hj; cases hj
  | some y =>
    rw [hk] at hj
    cases hj
    exact ih y (List.mem_of_getElem? hk)
theorem rowBound_spec {cnt : List Int} (hc : cntOk cnt) : ∀ p : Pl, Fine cnt.length p → Does Try.prog 36 [] [pD p, intsD cnt] (I (rb cnt p)) [] := by
  refine Pl.indA (fun p ih hp => ?_)
  have hf := hp.fields
  unfold fields at hf
  have hM : M = 1000000000 := rfl
  rw [rb_eq]
  by_cases h1 : p.k = 1
  · obtain ⟨x, hx, hg⟩ := scan_at (hp.scan h1)
    have hsc := hp.scan h1
    rw [show rbK cnt p.k p.t p.cs.length (p.ks.map (rb cnt)) = x by unfold rbK; rw [if_pos h1, hg]]
    refine does0 c_spec_rowBound mixed (Nat.le_of_ble_eq_true rfl) ?_
    conv => arg 3; whnf
    repeat' (first
      | with_reducible refine acc_none ?_
      | (conv in hold _ => simp (disch := omega) only [go_sem, List.getElem?_map, hx, Option.map_some])
      | refine Stp.go ?_
      | with_reducible first | refine it_pos rfl ?_ | refine it_neg (by decide) ?_ | refine st_nil rfl ?_ | refine s_op ?_ ?_ | exact True.intro
      | ((with_reducible first | refine dw_reg0 ?_ | refine dw_regB ?_); (conv => arg 3; whnf))
      | (refine Spl.go (fun hq he => ?_) (fun hq he => ?_) <;> first | (exfalso; clear hq; omega) | ((try (first | (conv => arg 8; simp only [hq]) | (conv => arg 4; simp only [hq]))); clear hq))
      | ((with_reducible first | refine c_split (fun hq => ?_) (fun hq => ?_) | refine q_split (fun hq => ?_) (fun hq => ?_)) <;> (try (first | (conv => arg 8; simp only [hq]) | (conv => arg 4; simp only [hq]))))
      | (with_reducible refine fin_0 ?_ (by first | rfl | (conv => lhs; simp only [go_sem, List.getElem?_map, hx, Option.map_some])) ?_)
      | exact Sub.refl _
      | omega)
  · obtain ⟨x0, hx0⟩ : ∃ x, p.ks[0]? = some x := ⟨_, List.getElem?_eq_getElem (by omega)⟩
    have hm0 := List.mem_of_getElem? hx0
    have r0 := ih x0 hm0 (hp.kid hm0)
    have b0 := rb_range hc x0
    have g0 : (p.ks.map (rb cnt)).getD 0 0 = rb cnt x0 := by rw [List.getD_eq_getElem?_getD, List.getElem?_map, hx0]; rfl
    by_cases h45 : p.k = 4 ∨ p.k = 5 ∨ p.k = 6
    · obtain ⟨x1, hx1⟩ : ∃ x, p.ks[1]? = some x := ⟨_, List.getElem?_eq_getElem (by omega)⟩
      have hm1 := List.mem_of_getElem? hx1
      have r1 := ih x1 hm1 (hp.kid hm1)
      have b1 := rb_range hc x1
      have g1 : (p.ks.map (rb cnt)).getD 1 0 = rb cnt x1 := by rw [List.getD_eq_getElem?_getD, List.getElem?_map, hx1]; rfl
      have hm := mul_small b0 b1
      have hm' := mul_small b0 (b := max 1 (rb cnt x1)) (by unfold M at *; omega)
      have hcm : max (rb cnt x1) 1 = max 1 (rb cnt x1) := Int.max_comm ..
      unfold M at b0 b1
      unfold rbK
      rw [g0, g1, if_neg h1, hM]
      by_cases h4 : p.k = 4
      · rw [if_pos h4]
        refine does0 c_spec_rowBound mixed (Nat.le_of_ble_eq_true rfl) ?_
        conv => arg 3; whnf
        repeat' (first
          | with_reducible refine acc_none ?_
          | (conv in hold _ => simp (disch := omega) only [go_sem, List.getElem?_map, hx0, hx1, Option.map_some])
          | refine Stp.go ?_
          | with_reducible first | refine it_pos rfl ?_ | refine it_neg (by decide) ?_ | refine st_nil rfl ?_ | refine s_op ?_ ?_ | exact True.intro
          | ((with_reducible first | refine dw_reg0 ?_ | refine dw_regB ?_); (conv => arg 3; whnf))
          | (refine Spl.go (fun hq he => ?_) (fun hq he => ?_) <;> first | (exfalso; clear hq; omega) | ((try (first | (conv => arg 8; simp only [hq]) | (conv => arg 4; simp only [hq]))); clear hq))
          | ((with_reducible first | refine c_split (fun hq => ?_) (fun hq => ?_) | refine q_split (fun hq => ?_) (fun hq => ?_)) <;> (try (first | (conv => arg 8; simp only [hq]) | (conv => arg 4; simp only [hq]))))
          | (with_reducible refine fin_0 ?_ (by first | rfl | (conv => lhs; simp only [go_sem, List.getElem?_map, hx0, hx1, Option.map_some])) ?_)
          | (with_reducible show evC _ _ _ _ _ _ _ _ _ _ _ _
             first
             | (refine c_doesE (r0) ?_ ?_ ?_
                · ((try (conv => rhs; simp (disch := omega) only [go_sem, List.getElem?_map, hx0, hx1, Option.map_some])); try rfl)
                · first | rfl | (conv => lhs; simp only [go_sem, List.getElem?_map, hx0, hx1, Option.map_some]))
             | (refine c_doesE (r1) ?_ ?_ ?_
                · ((try (conv => rhs; simp (disch := omega) only [go_sem, List.getElem?_map, hx0, hx1, Option.map_some])); try rfl)
                · first | rfl | (conv => lhs; simp only [go_sem, List.getElem?_map, hx0, hx1, Option.map_some])))
          | exact Sub.refl _
          | omega)
      · rw [if_neg h4]
        by_cases h5 : p.k = 5
        · rw [if_pos h5, hcm]
          refine does0 c_spec_rowBound mixed (Nat.le_of_ble_eq_true rfl) ?_
          conv => arg 3; whnf
          repeat' (first
            | with_reducible refine acc_none ?_
            | (conv in hold _ => simp (disch := omega) only [go_sem, List.getElem?_map, hx0, hx1, Option.map_some])
            | refine Stp.go ?_
            | with_reducible first | refine it_pos rfl ?_ | refine it_neg (by decide) ?_ | refine st_nil rfl ?_ | refine s_op ?_ ?_ | exact True.intro
            | ((with_reducible first | refine dw_reg0 ?_ | refine dw_regB ?_); (conv => arg 3; whnf))
            | (refine Spl.go (fun hq he => ?_) (fun hq he => ?_) <;> first | (exfalso; clear hq; omega) | ((try (first | (conv => arg 8; simp only [hq]) | (conv => arg 4; simp only [hq]))); clear hq))
            | ((with_reducible first | refine c_split (fun hq => ?_) (fun hq => ?_) | refine q_split (fun hq => ?_) (fun hq => ?_)) <;> (try (first | (conv => arg 8; simp only [hq]) | (conv => arg 4; simp only [hq]))))
            | (with_reducible refine fin_0 ?_ (by first | rfl | (conv => lhs; simp only [go_sem, List.getElem?_map, hx0, hx1, Option.map_some])) ?_)
            | (with_reducible show evC _ _ _ _ _ _ _ _ _ _ _ _
               first
               | (refine c_doesE (r0) ?_ ?_ ?_
                  · ((try (conv => rhs; simp (disch := omega) only [go_sem, List.getElem?_map, hx0, hx1, Option.map_some])); try rfl)
                  · first | rfl | (conv => lhs; simp only [go_sem, List.getElem?_map, hx0, hx1, Option.map_some]))
               | (refine c_doesE (r1) ?_ ?_ ?_
                  · ((try (conv => rhs; simp (disch := omega) only [go_sem, List.getElem?_map, hx0, hx1, Option.map_some])); try rfl)
                  · first | rfl | (conv => lhs; simp only [go_sem, List.getElem?_map, hx0, hx1, Option.map_some])))
            | exact Sub.refl _
            | omega)
        · rw [if_neg h5, if_pos (by omega)]
          refine does0 c_spec_rowBound mixed (Nat.le_of_ble_eq_true rfl) ?_
          conv => arg 3; whnf
          repeat' (first
            | with_reducible refine acc_none ?_
            | (conv in hold _ => simp (disch := omega) only [go_sem, List.getElem?_map, hx0, hx1, Option.map_some])
            | refine Stp.go ?_
            | with_reducible first | refine it_pos rfl ?_ | refine it_neg (by decide) ?_ | refine st_nil rfl ?_ | refine s_op ?_ ?_ | exact True.intro
            | ((with_reducible first | refine dw_reg0 ?_ | refine dw_regB ?_); (conv => arg 3; whnf))
            | (refine Spl.go (fun hq he => ?_) (fun hq he => ?_) <;> first | (exfalso; clear hq; omega) | ((try (first | (conv => arg 8; simp only [hq]) | (conv => arg 4; simp only [hq]))); clear hq))
            | ((with_reducible first | refine c_split (fun hq => ?_) (fun hq => ?_) | refine q_split (fun hq => ?_) (fun hq => ?_)) <;> (try (first | (conv => arg 8; simp only [hq]) | (conv => arg 4; simp only [hq]))))
            | (with_reducible refine fin_0 ?_ (by first | rfl | (conv => lhs; simp only [go_sem, List.getElem?_map, hx0, hx1, Option.map_some])) ?_)
            | (with_reducible show evC _ _ _ _ _ _ _ _ _ _ _ _
               first
               | (refine c_doesE (r0) ?_ ?_ ?_
                  · ((try (conv => rhs; simp (disch := omega) only [go_sem, List.getElem?_map, hx0, hx1, Option.map_some])); try rfl)
                  · first | rfl | (conv => lhs; simp only [go_sem, List.getElem?_map, hx0, hx1, Option.map_some]))
               | (refine c_doesE (r1) ?_ ?_ ?_
                  · ((try (conv => rhs; simp (disch := omega) only [go_sem, List.getElem?_map, hx0, hx1, Option.map_some])); try rfl)
                  · first | rfl | (conv => lhs; simp only [go_sem, List.getElem?_map, hx0, hx1, Option.map_some])))
            | exact Sub.refl _
            | omega)
    · unfold M at b0
      unfold rbK
      rw [g0, if_neg h1, if_neg (by omega), if_neg (by omega), if_neg (by omega)]
      by_cases h8 : p.k = 8 ∧ p.cs.length = 0
      · rw [if_pos h8]
        have h80 := h8.2
        refine does0 c_spec_rowBound mixed (Nat.le_of_ble_eq_true rfl) ?_
        conv => arg 3; whnf
        repeat' (first
          | with_reducible refine acc_none ?_
          | (conv in hold _ => simp (disch := omega) only [go_sem, List.getElem?_map, hx0, Option.map_some])
          | refine Stp.go ?_
          | with_reducible first | refine it_pos rfl ?_ | refine it_neg (by decide) ?_ | refine st_nil rfl ?_ | refine s_op ?_ ?_ | exact True.intro
          | ((with_reducible first | refine dw_reg0 ?_ | refine dw_regB ?_); (conv => arg 3; whnf))
          | (refine Spl.go (fun hq he => ?_) (fun hq he => ?_) <;> first | (exfalso; clear hq; omega) | ((try (first | (conv => arg 8; simp only [hq]) | (conv => arg 4; simp only [hq]))); clear hq))
          | ((with_reducible first | refine c_split (fun hq => ?_) (fun hq => ?_) | refine q_split (fun hq => ?_) (fun hq => ?_)) <;> (try (first | (conv => arg 8; simp only [hq]) | (conv => arg 4; simp only [hq]))))
          | (with_reducible refine fin_0 ?_ (by first | rfl | (conv => lhs; simp only [go_sem, List.getElem?_map, hx0, Option.map_some])) ?_)
          | (with_reducible show evC _ _ _ _ _ _ _ _ _ _ _ _
             first
             | (refine c_doesE (r0) ?_ ?_ ?_
                · ((try (conv => rhs; simp (disch := omega) only [go_sem, List.getElem?_map, hx0, Option.map_some])); try rfl)
                · first | rfl | (conv => lhs; simp only [go_sem, List.getElem?_map, hx0, Option.map_some])))
          | exact Sub.refl _
          | omega)
        all_goals exact Sub.of_eq (congrArg (fun n => D.v (Value.int .i64 n)) (by omega))
      · rw [if_neg h8]
        refine does0 c_spec_rowBound mixed (Nat.le_of_ble_eq_true rfl) ?_
        conv => arg 3; whnf
        repeat' (first
          | with_reducible refine acc_none ?_
          | (conv in hold _ => simp (disch := omega) only [go_sem, List.getElem?_map, hx0, Option.map_some])
          | refine Stp.go ?_
          | with_reducible first | refine it_pos rfl ?_ | refine it_neg (by decide) ?_ | refine st_nil rfl ?_ | refine s_op ?_ ?_ | exact True.intro
          | ((with_reducible first | refine dw_reg0 ?_ | refine dw_regB ?_); (conv => arg 3; whnf))
          | (refine Spl.go (fun hq he => ?_) (fun hq he => ?_) <;> first | (exfalso; clear hq; omega) | ((try (first | (conv => arg 8; simp only [hq]) | (conv => arg 4; simp only [hq]))); clear hq))
          | ((with_reducible first | refine c_split (fun hq => ?_) (fun hq => ?_) | refine q_split (fun hq => ?_) (fun hq => ?_)) <;> (try (first | (conv => arg 8; simp only [hq]) | (conv => arg 4; simp only [hq]))))
          | (with_reducible refine fin_0 ?_ (by first | rfl | (conv => lhs; simp only [go_sem, List.getElem?_map, hx0, Option.map_some])) ?_)
          | (with_reducible show evC _ _ _ _ _ _ _ _ _ _ _ _
             first
             | (refine c_doesE (r0) ?_ ?_ ?_
                · ((try (conv => rhs; simp (disch := omega) only [go_sem, List.getElem?_map, hx0, Option.map_some])); try rfl)
                · first | rfl | (conv => lhs; simp only [go_sem, List.getElem?_map, hx0, Option.map_some])))
          | exact Sub.refl _
          | omega)
        all_goals exact Sub.of_eq (congrArg (fun n => D.v (Value.int .i64 n)) (by omega))
end Go.Proofs.Ytbdpdmojepiepaa
/-
  Bounds for the number of rows, in the program: a visitor. No condition.
-/
set_option maxHeartbeats 4000000
set_option maxRecDepth 100000
set_option linter.unusedVariables false
set_option linter.unusedSimpArgs false
namespace Go.Proofs.Ytbdpdmojepiepaa
open Go.RowKit

def rbV (cnt : List Int) : D := .ifc 61 (.agg [intsD cnt])
theorem rbV_ren (L : List Nat) (cnt : List Int) : (rbV cnt).ren L = rbV cnt := rfl
attribute [go_sem] rbV rbV_ren
theorem hm_scan : methOf Try.prog 61 name14_impl_scan = some 132 := by kernel_rfl
theorem hm_filter : methOf Try.prog 61 name14_impl_filter = some 127 := by kernel_rfl
theorem hm_project : methOf Try.prog 61 name14_impl_project = some 131 := by kernel_rfl
theorem hm_join : methOf Try.prog 61 name14_impl_join = some 129 := by kernel_rfl
theorem hm_leftJoin : methOf Try.prog 61 name14_impl_leftJoin = some 130 := by kernel_rfl
theorem hm_union : methOf Try.prog 61 name14_impl_union = some 133 := by kernel_rfl
theorem hm_distinct : methOf Try.prog 61 name14_impl_distinct = some 126 := by kernel_rfl
theorem hm_group : methOf Try.prog 61 name14_impl_group = some 128 := by kernel_rfl
theorem hn_filter : NilFree Try.prog 61 name14_impl_filter := fun v w => by kernel_rfl
theorem hn_project : NilFree Try.prog 61 name14_impl_project := fun v w => by kernel_rfl
theorem hn_join : NilFree Try.prog 61 name14_impl_join := fun v w => by kernel_rfl
theorem hn_leftJoin : NilFree Try.prog 61 name14_impl_leftJoin := fun v w => by kernel_rfl
theorem hn_union : NilFree Try.prog 61 name14_impl_union := fun v w => by kernel_rfl
theorem hn_distinct : NilFree Try.prog 61 name14_impl_distinct := fun v w => by kernel_rfl
theorem hn_group : NilFree Try.prog 61 name14_impl_group := fun v w => by kernel_rfl
theorem v_filter (cnt : List Int) (p : Pl) (a : Int) : Does Try.prog 127 [] [.agg [intsD cnt], pD p, I a] (I a) [] := by
  refine does0 c_impl_rowBounds_filter mixed (Nat.le_of_ble_eq_true rfl) ?_
  conv => arg 3; whnf
  repeat' (first
    | with_reducible refine acc_none ?_
    | (conv in hold _ => simp (disch := omega) only [go_sem])
    | refine Stp.go ?_
    | with_reducible first | refine it_pos rfl ?_ | refine it_neg (by decide) ?_ | refine st_nil rfl ?_ | refine s_op ?_ ?_ | exact True.intro
    | ((with_reducible first | refine dw_reg0 ?_ | refine dw_regB ?_); (conv => arg 3; whnf))
    | (refine Spl.go (fun hq he => ?_) (fun hq he => ?_) <;> first | (exfalso; clear hq; omega) | ((try (first | (conv => arg 8; simp only [hq]) | (conv => arg 4; simp only [hq]))); clear hq))
    | ((with_reducible first | refine c_split (fun hq => ?_) (fun hq => ?_) | refine q_split (fun hq => ?_) (fun hq => ?_)) <;> (try (first | (conv => arg 8; simp only [hq]) | (conv => arg 4; simp only [hq]))))
    | (with_reducible refine fin_0 ?_ (by first | rfl | (conv => lhs; simp only [go_sem])) ?_)
    | exact Sub.refl _
    | omega)
theorem v_leftJoin (cnt : List Int) (p : Pl) (a b : Int) (ha : 0 ≤ a ∧ a ≤ M) (hb : 0 ≤ b ∧ b ≤ M) : Does Try.prog 130 [] [.agg [intsD cnt], pD p, I a, I b] (I (min (a * max b 1) M)) [] := by
  have hm := mul_small ha (b := max b 1) (by unfold M at *; omega)
  have hM : M = 1000000000 := rfl
  rw [hM]
  refine does0 c_impl_rowBounds_leftJoin mixed (Nat.le_of_ble_eq_true rfl) ?_
  conv => arg 3; whnf
  repeat' (first
    | with_reducible refine acc_none ?_
    | (conv in hold _ => simp (disch := omega) only [go_sem])
    | refine Stp.go ?_
    | with_reducible first | refine it_pos rfl ?_ | refine it_neg (by decide) ?_ | refine st_nil rfl ?_ | refine s_op ?_ ?_ | exact True.intro
    | ((with_reducible first | refine dw_reg0 ?_ | refine dw_regB ?_); (conv => arg 3; whnf))
    | (refine Spl.go (fun hq he => ?_) (fun hq he => ?_) <;> first | (exfalso; clear hq; omega) | ((try (first | (conv => arg 8; simp only [hq]) | (conv => arg 4; simp only [hq]))); clear hq))
    | ((with_reducible first | refine c_split (fun hq => ?_) (fun hq => ?_) | refine q_split (fun hq => ?_) (fun hq => ?_)) <;> (try (first | (conv => arg 8; simp only [hq]) | (conv => arg 4; simp only [hq]))))
    | (with_reducible refine fin_0 ?_ (by first | rfl | (conv => lhs; simp only [go_sem])) ?_)
    | exact Sub.refl _
    | omega)
theorem propertyOf_ok {cnt : List Int} {p : Pl} (hp : Fine cnt.length p) (hcl : p.cs.length ≤ 1048576) {l : List Int} (hl : l.length = p.ks.length) (hr : ∀ (j : Nat) (x : Int), l[j]? = some x → 0 ≤ x ∧ x ≤ M) : Does Try.prog 60 [] [pD p, intsD l, rbV cnt] (I (rbK cnt p.k p.t p.cs.length l)) [] := by
  have hf := hp.fields
  unfold fields at hf
  by_cases h1 : p.k = 1
  · have r := v_scan (hp.scan h1)
    rw [show rbK cnt p.k p.t p.cs.length l = cnt.getD p.t.toNat 0 by unfold rbK; rw [if_pos h1]]
    refine does0 c_impl_propertyOf_int_ mixed (Nat.le_of_ble_eq_true rfl) ?_
    conv => arg 3; whnf
    repeat' (first
      | with_reducible refine acc_none ?_
      | (conv in hold _ => simp (disch := omega) only [go_sem])
      | refine Stp.go ?_
      | with_reducible first | refine it_pos rfl ?_ | refine it_neg (by decide) ?_ | refine st_nil rfl ?_ | refine s_op ?_ ?_ | exact True.intro
      | ((with_reducible first | refine dw_reg0 ?_ | refine dw_regB ?_); (conv => arg 3; whnf))
      | (refine Spl.go (fun hq he => ?_) (fun hq he => ?_) <;> first | (exfalso; clear hq; omega) | ((try (first | (conv => arg 8; simp only [hq]) | (conv => arg 4; simp only [hq]))); clear hq))
      | ((with_reducible first | refine c_split (fun hq => ?_) (fun hq => ?_) | refine q_split (fun hq => ?_) (fun hq => ?_)) <;> (try (first | (conv => arg 8; simp only [hq]) | (conv => arg 4; simp only [hq]))))
      | (with_reducible refine fin_0 ?_ (by first | rfl | (conv => lhs; simp only [go_sem])) ?_)
      | exact Sub.refl _
      | omega)
    refine i_meth (hm_scan) ?_
    refine c_doesE (r) ?_ ?_ ?_
    · ((try (conv => rhs; simp (disch := omega) only [go_sem])); try rfl)
    · first | rfl | (conv => lhs; simp only [go_sem])
    repeat' (first
      | with_reducible refine acc_none ?_
      | (conv in hold _ => simp (disch := omega) only [go_sem])
      | refine Stp.go ?_
      | with_reducible first | refine it_pos rfl ?_ | refine it_neg (by decide) ?_ | refine st_nil rfl ?_ | refine s_op ?_ ?_ | exact True.intro
      | ((with_reducible first | refine dw_reg0 ?_ | refine dw_regB ?_); (conv => arg 3; whnf))
      | (refine Spl.go (fun hq he => ?_) (fun hq he => ?_) <;> first | (exfalso; clear hq; omega) | ((try (first | (conv => arg 8; simp only [hq]) | (conv => arg 4; simp only [hq]))); clear hq))
      | ((with_reducible first | refine c_split (fun hq => ?_) (fun hq => ?_) | refine q_split (fun hq => ?_) (fun hq => ?_)) <;> (try (first | (conv => arg 8; simp only [hq]) | (conv => arg 4; simp only [hq]))))
      | (with_reducible refine fin_0 ?_ (by first | rfl | (conv => lhs; simp only [go_sem])) ?_)
      | exact Sub.refl _
      | omega)
  · obtain ⟨a, ha, ga⟩ := get_ex (ns := l) (i := 0) (by omega)
    have ra := hr 0 a ha
    by_cases h456 : p.k = 4 ∨ p.k = 5 ∨ p.k = 6
    · obtain ⟨b, hb, gb⟩ := get_ex (ns := l) (i := 1) (by omega)
      have rb := hr 1 b hb
      unfold rbK
      rw [ga, gb, if_neg h1]
      by_cases h4 : p.k = 4
      · rw [if_pos h4]
        have r := v_join cnt p a b ra rb
        refine does0 c_impl_propertyOf_int_ mixed (Nat.le_of_ble_eq_true rfl) ?_
        conv => arg 3; whnf
        repeat' ((fail_if_success (with_reducible refine s_nil ?_ ⟨_, _, rfl⟩)); first
          | with_reducible refine acc_none ?_
          | (conv in hold _ => simp (disch := omega) only [go_sem, List.getElem?_map, ha, hb, Option.map_some])
          | refine Stp.go ?_
          | with_reducible first | refine it_pos rfl ?_ | refine it_neg (by decide) ?_ | refine st_nil rfl ?_ | refine s_op ?_ ?_ | exact True.intro
          | ((with_reducible first | refine dw_reg0 ?_ | refine dw_regB ?_); (conv => arg 3; whnf))
          | (refine Spl.go (fun hq he => ?_) (fun hq he => ?_) <;> first | (exfalso; clear hq; omega) | ((try (first | (conv => arg 8; simp only [hq]) | (conv => arg 4; simp only [hq]))); clear hq))
          | ((with_reducible first | refine c_split (fun hq => ?_) (fun hq => ?_) | refine q_split (fun hq => ?_) (fun hq => ?_)) <;> (try (first | (conv => arg 8; simp only [hq]) | (conv => arg 4; simp only [hq]))))
          | (with_reducible refine fin_0 ?_ (by first | rfl | (conv => lhs; simp only [go_sem, List.getElem?_map, ha, hb, Option.map_some])) ?_)
          | exact Sub.refl _
          | omega)
        refine s_nilb ?_
        (conv in hold _ => simp (disch := omega) only [go_sem, List.getElem?_map, ha, hb, Option.map_some])
        refine v_nil (hn_join) ?_
        repeat' ((fail_if_success (with_reducible refine s_nil ?_ ⟨_, _, rfl⟩)); first
          | with_reducible refine acc_none ?_
          | (conv in hold _ => simp (disch := omega) only [go_sem, List.getElem?_map, ha, hb, Option.map_some])
          | refine Stp.go ?_
          | with_reducible first | refine it_pos rfl ?_ | refine it_neg (by decide) ?_ | refine st_nil rfl ?_ | refine s_op ?_ ?_ | exact True.intro
          | ((with_reducible first | refine dw_reg0 ?_ | refine dw_regB ?_); (conv => arg 3; whnf))
          | (refine Spl.go (fun hq he => ?_) (fun hq he => ?_) <;> first | (exfalso; clear hq; omega) | ((try (first | (conv => arg 8; simp only [hq]) | (conv => arg 4; simp only [hq]))); clear hq))
          | ((with_reducible first | refine c_split (fun hq => ?_) (fun hq => ?_) | refine q_split (fun hq => ?_) (fun hq => ?_)) <;> (try (first | (conv => arg 8; simp only [hq]) | (conv => arg 4; simp only [hq]))))
          | (with_reducible refine fin_0 ?_ (by first | rfl | (conv => lhs; simp only [go_sem, List.getElem?_map, ha, hb, Option.map_some])) ?_)
          | exact Sub.refl _
          | omega)
        refine i_meth (hm_join) ?_
        refine c_doesE (r) ?_ ?_ ?_
        · ((try (conv => rhs; simp (disch := omega) only [go_sem])); try rfl)
        · first | rfl | (conv => lhs; simp only [go_sem])
        repeat' ((fail_if_success (with_reducible refine s_nil ?_ ⟨_, _, rfl⟩)); first
          | with_reducible refine acc_none ?_
          | (conv in hold _ => simp (disch := omega) only [go_sem])
          | refine Stp.go ?_
          | with_reducible first | refine it_pos rfl ?_ | refine it_neg (by decide) ?_ | refine st_nil rfl ?_ | refine s_op ?_ ?_ | exact True.intro
          | ((with_reducible first | refine dw_reg0 ?_ | refine dw_regB ?_); (conv => arg 3; whnf))
          | (refine Spl.go (fun hq he => ?_) (fun hq he => ?_) <;> first | (exfalso; clear hq; omega) | ((try (first | (conv => arg 8; simp only [hq]) | (conv => arg 4; simp only [hq]))); clear hq))
          | ((with_reducible first | refine c_split (fun hq => ?_) (fun hq => ?_) | refine q_split (fun hq => ?_) (fun hq => ?_)) <;> (try (first | (conv => arg 8; simp only [hq]) | (conv => arg 4; simp only [hq]))))
          | (with_reducible refine fin_0 ?_ (by first | rfl | (conv => lhs; simp only [go_sem])) ?_)
          | exact Sub.refl _
          | omega)
      · rw [if_neg h4]
        by_cases h5 : p.k = 5
        · rw [if_pos h5]
          have r := v_leftJoin cnt p a b ra rb
          refine does0 c_impl_propertyOf_int_ mixed (Nat.le_of_ble_eq_true rfl) ?_
          conv => arg 3; whnf
          repeat' ((fail_if_success (with_reducible refine s_nil ?_ ⟨_, _, rfl⟩)); first
            | with_reducible refine acc_none ?_
            | (conv in hold _ => simp (disch := omega) only [go_sem, List.getElem?_map, ha, hb, Option.map_some])
            | refine Stp.go ?_
            | with_reducible first | refine it_pos rfl ?_ | refine it_neg (by decide) ?_ | refine st_nil rfl ?_ | refine s_op ?_ ?_ | exact True.intro
            | ((with_reducible first | refine dw_reg0 ?_ | refine dw_regB ?_); (conv => arg 3; whnf))
            | (refine Spl.go (fun hq he => ?_) (fun hq he => ?_) <;> first | (exfalso; clear hq; omega) | ((try (first | (conv => arg 8; simp only [hq]) | (conv => arg 4; simp only [hq]))); clear hq))
            | ((with_reducible first | refine c_split (fun hq => ?_) (fun hq => ?_) | refine q_split (fun hq => ?_) (fun hq => ?_)) <;> (try (first | (conv => arg 8; simp only [hq]) | (conv => arg 4; simp only [hq]))))
            | (with_reducible refine fin_0 ?_ (by first | rfl | (conv => lhs; simp only [go_sem, List.getElem?_map, ha, hb, Option.map_some])) ?_)
            | exact Sub.refl _
            | omega)
          refine s_nilb ?_
          (conv in hold _ => simp (disch := omega) only [go_sem, List.getElem?_map, ha, hb, Option.map_some])
          refine v_nil (hn_leftJoin) ?_
          repeat' ((fail_if_success (with_reducible refine s_nil ?_ ⟨_, _, rfl⟩)); first
            | with_reducible refine acc_none ?_
            | (conv in hold _ => simp (disch := omega) only [go_sem, List.getElem?_map, ha, hb, Option.map_some])
            | refine Stp.go ?_
            | with_reducible first | refine it_pos rfl ?_ | refine it_neg (by decide) ?_ | refine st_nil rfl ?_ | refine s_op ?_ ?_ | exact True.intro
            | ((with_reducible first | refine dw_reg0 ?_ | refine dw_regB ?_); (conv => arg 3; whnf))
            | (refine Spl.go (fun hq he => ?_) (fun hq he => ?_) <;> first | (exfalso; clear hq; omega) | ((try (first | (conv => arg 8; simp only [hq]) | (conv => arg 4; simp only [hq]))); clear hq))
            | ((with_reducible first | refine c_split (fun hq => ?_) (fun hq => ?_) | refine q_split (fun hq => ?_) (fun hq => ?_)) <;> (try (first | (conv => arg 8; simp only [hq]) | (conv => arg 4; simp only [hq]))))
            | (with_reducible refine fin_0 ?_ (by first | rfl | (conv => lhs; simp only [go_sem, List.getElem?_map, ha, hb, Option.map_some])) ?_)
            | exact Sub.refl _
            | omega)
          refine i_meth (hm_leftJoin) ?_
          refine c_doesE (r) ?_ ?_ ?_
          · ((try (conv => rhs; simp (disch := omega) only [go_sem])); try rfl)
          · first | rfl | (conv => lhs; simp only [go_sem])
          repeat' ((fail_if_success (with_reducible refine s_nil ?_ ⟨_, _, rfl⟩)); first
            | with_reducible refine acc_none ?_
            | (conv in hold _ => simp (disch := omega) only [go_sem])
            | refine Stp.go ?_
            | with_reducible first | refine it_pos rfl ?_ | refine it_neg (by decide) ?_ | refine st_nil rfl ?_ | refine s_op ?_ ?_ | exact True.intro
            | ((with_reducible first | refine dw_reg0 ?_ | refine dw_regB ?_); (conv => arg 3; whnf))
            | (refine Spl.go (fun hq he => ?_) (fun hq he => ?_) <;> first | (exfalso; clear hq; omega) | ((try (first | (conv => arg 8; simp only [hq]) | (conv => arg 4; simp only [hq]))); clear hq))
            | ((with_reducible first | refine c_split (fun hq => ?_) (fun hq => ?_) | refine q_split (fun hq => ?_) (fun hq => ?_)) <;> (try (first | (conv => arg 8; simp only [hq]) | (conv => arg 4; simp only [hq]))))
            | (with_reducible refine fin_0 ?_ (by first | rfl | (conv => lhs; simp only [go_sem])) ?_)
            | exact Sub.refl _
            | omega)
        · rw [if_neg h5, if_pos (by omega)]
          have r := v_union cnt p a b ra rb
          refine does0 c_impl_propertyOf_int_ mixed (Nat.le_of_ble_eq_true rfl) ?_
          conv => arg 3; whnf
          repeat' ((fail_if_success (with_reducible refine s_nil ?_ ⟨_, _, rfl⟩)); first
            | with_reducible refine acc_none ?_
            | (conv in hold _ => simp (disch := omega) only [go_sem, List.getElem?_map, ha, hb, Option.map_some])
            | refine Stp.go ?_
            | with_reducible first | refine it_pos rfl ?_ | refine it_neg (by decide) ?_ | refine st_nil rfl ?_ | refine s_op ?_ ?_ | exact True.intro
            | ((with_reducible first | refine dw_reg0 ?_ | refine dw_regB ?_); (conv => arg 3; whnf))
            | (refine Spl.go (fun hq he => ?_) (fun hq he => ?_) <;> first | (exfalso; clear hq; omega) | ((try (first | (conv => arg 8; simp only [hq]) | (conv => arg 4; simp only [hq]))); clear hq))
            | ((with_reducible first | refine c_split (fun hq => ?_) (fun hq => ?_) | refine q_split (fun hq => ?_) (fun hq => ?_)) <;> (try (first | (conv => arg 8; simp only [hq]) | (conv => arg 4; simp only [hq]))))
            | (with_reducible refine fin_0 ?_ (by first | rfl | (conv => lhs; simp only [go_sem, List.getElem?_map, ha, hb, Option.map_some])) ?_)
            | exact Sub.refl _
            | omega)
          refine s_nilb ?_
          (conv in hold _ => simp (disch := omega) only [go_sem, List.getElem?_map, ha, hb, Option.map_some])
          refine v_nil (hn_union) ?_
          repeat' ((fail_if_success (with_reducible refine s_nil ?_ ⟨_, _, rfl⟩)); first
            | with_reducible refine acc_none ?_
            | (conv in hold _ => simp (disch := omega) only [go_sem, List.getElem?_map, ha, hb, Option.map_some])
            | refine Stp.go ?_
            | with_reducible first | refine it_pos rfl ?_ | refine it_neg (by decide) ?_ | refine st_nil rfl ?_ | refine s_op ?_ ?_ | exact True.intro
            | ((with_reducible first | refine dw_reg0 ?_ | refine dw_regB ?_); (conv => arg 3; whnf))
            | (refine Spl.go (fun hq he => ?_) (fun hq he => ?_) <;> first | (exfalso; clear hq; omega) | ((try (first | (conv => arg 8; simp only [hq]) | (conv => arg 4; simp only [hq]))); clear hq))
            | ((with_reducible first | refine c_split (fun hq => ?_) (fun hq => ?_) | refine q_split (fun hq => ?_) (fun hq => ?_)) <;> (try (first | (conv => arg 8; simp only [hq]) | (conv => arg 4; simp only [hq]))))
            | (with_reducible refine fin_0 ?_ (by first | rfl | (conv => lhs; simp only [go_sem, List.getElem?_map, ha, hb, Option.map_some])) ?_)
            | exact Sub.refl _
            | omega)
          refine i_meth (hm_union) ?_
          refine c_doesE (r) ?_ ?_ ?_
          · ((try (conv => rhs; simp (disch := omega) only [go_sem])); try rfl)
          · first | rfl | (conv => lhs; simp only [go_sem])
          repeat' ((fail_if_success (with_reducible refine s_nil ?_ ⟨_, _, rfl⟩)); first
            | with_reducible refine acc_none ?_
            | (conv in hold _ => simp (disch := omega) only [go_sem])
            | refine Stp.go ?_
            | with_reducible first | refine it_pos rfl ?_ | refine it_neg (by decide) ?_ | refine st_nil rfl ?_ | refine s_op ?_ ?_ | exact True.intro
            | ((with_reducible first | refine dw_reg0 ?_ | refine dw_regB ?_); (conv => arg 3; whnf))
            | (refine Spl.go (fun hq he => ?_) (fun hq he => ?_) <;> first | (exfalso; clear hq; omega) | ((try (first | (conv => arg 8; simp only [hq]) | (conv => arg 4; simp only [hq]))); clear hq))
            | ((with_reducible first | refine c_split (fun hq => ?_) (fun hq => ?_) | refine q_split (fun hq => ?_) (fun hq => ?_)) <;> (try (first | (conv => arg 8; simp only [hq]) | (conv => arg 4; simp only [hq]))))
            | (with_reducible refine fin_0 ?_ (by first | rfl | (conv => lhs; simp only [go_sem])) ?_)
            | exact Sub.refl _
            | omega)
    · unfold rbK
      rw [ga, if_neg h1, if_neg (by omega), if_neg (by omega), if_neg (by omega)]
      by_cases h8 : p.k = 8
      · have r := v_group cnt p a hcl
        rw [show (if p.k = 8 ∧ p.cs.length = 0 then min a 1 else a) = (if p.cs.length = 0 then min a 1 else a) by simp [h8]]
        refine does0 c_impl_propertyOf_int_ mixed (Nat.le_of_ble_eq_true rfl) ?_
        conv => arg 3; whnf
        repeat' ((fail_if_success (with_reducible refine s_nil ?_ ⟨_, _, rfl⟩)); first
          | with_reducible refine acc_none ?_
          | (conv in hold _ => simp (disch := omega) only [go_sem, List.getElem?_map, ha, Option.map_some])
          | refine Stp.go ?_
          | with_reducible first | refine it_pos rfl ?_ | refine it_neg (by decide) ?_ | refine st_nil rfl ?_ | refine s_op ?_ ?_ | exact True.intro
          | ((with_reducible first | refine dw_reg0 ?_ | refine dw_regB ?_); (conv => arg 3; whnf))
          | (refine Spl.go (fun hq he => ?_) (fun hq he => ?_) <;> first | (exfalso; clear hq; omega) | ((try (first | (conv => arg 8; simp only [hq]) | (conv => arg 4; simp only [hq]))); clear hq))
          | ((with_reducible first | refine c_split (fun hq => ?_) (fun hq => ?_) | refine q_split (fun hq => ?_) (fun hq => ?_)) <;> (try (first | (conv => arg 8; simp only [hq]) | (conv => arg 4; simp only [hq]))))
          | (with_reducible refine fin_0 ?_ (by first | rfl | (conv => lhs; simp only [go_sem, List.getElem?_map, ha, Option.map_some])) ?_)
          | exact Sub.refl _
          | omega)
        refine s_nilb ?_
        (conv in hold _ => simp (disch := omega) only [go_sem, List.getElem?_map, ha, Option.map_some])
        refine v_nil (hn_group) ?_
        repeat' ((fail_if_success (with_reducible refine s_nil ?_ ⟨_, _, rfl⟩)); first
          | with_reducible refine acc_none ?_
          | (conv in hold _ => simp (disch := omega) only [go_sem, List.getElem?_map, ha, Option.map_some])
          | refine Stp.go ?_
          | with_reducible first | refine it_pos rfl ?_ | refine it_neg (by decide) ?_ | refine st_nil rfl ?_ | refine s_op ?_ ?_ | exact True.intro
          | ((with_reducible first | refine dw_reg0 ?_ | refine dw_regB ?_); (conv => arg 3; whnf))
          | (refine Spl.go (fun hq he => ?_) (fun hq he => ?_) <;> first | (exfalso; clear hq; omega) | ((try (first | (conv => arg 8; simp only [hq]) | (conv => arg 4; simp only [hq]))); clear hq))
          | ((with_reducible first | refine c_split (fun hq => ?_) (fun hq => ?_) | refine q_split (fun hq => ?_) (fun hq => ?_)) <;> (try (first | (conv => arg 8; simp only [hq]) | (conv => arg 4; simp only [hq]))))
          | (with_reducible refine fin_0 ?_ (by first | rfl | (conv => lhs; simp only [go_sem, List.getElem?_map, ha, Option.map_some])) ?_)
          | exact Sub.refl _
          | omega)
        refine i_meth (hm_group) ?_
        refine c_doesE (r) ?_ ?_ ?_
        · ((try (conv => rhs; simp (disch := omega) only [go_sem])); try rfl)
        · first | rfl | (conv => lhs; simp only [go_sem])
        repeat' ((fail_if_success (with_reducible refine s_nil ?_ ⟨_, _, rfl⟩)); first
          | with_reducible refine acc_none ?_
          | (conv in hold _ => simp (disch := omega) only [go_sem])
          | refine Stp.go ?_
          | with_reducible first | refine it_pos rfl ?_ | refine it_neg (by decide) ?_ | refine st_nil rfl ?_ | refine s_op ?_ ?_ | exact True.intro
          | ((with_reducible first | refine dw_reg0 ?_ | refine dw_regB ?_); (conv => arg 3; whnf))
          | (refine Spl.go (fun hq he => ?_) (fun hq he => ?_) <;> first | (exfalso; clear hq; omega) | ((try (first | (conv => arg 8; simp only [hq]) | (conv => arg 4; simp only [hq]))); clear hq))
          | ((with_reducible first | refine c_split (fun hq => ?_) (fun hq => ?_) | refine q_split (fun hq => ?_) (fun hq => ?_)) <;> (try (first | (conv => arg 8; simp only [hq]) | (conv => arg 4; simp only [hq]))))
          | (with_reducible refine fin_0 ?_ (by first | rfl | (conv => lhs; simp only [go_sem])) ?_)
          | exact Sub.refl _
          | omega)
      · rw [if_neg (fun h => h8 h.1)]
        by_cases h2 : p.k = 2
        · have r := v_filter cnt p a
          refine does0 c_impl_propertyOf_int_ mixed (Nat.le_of_ble_eq_true rfl) ?_
          conv => arg 3; whnf
          repeat' ((fail_if_success (with_reducible refine s_nil ?_ ⟨_, _, rfl⟩)); first
            | with_reducible refine acc_none ?_
            | (conv in hold _ => simp (disch := omega) only [go_sem, List.getElem?_map, ha, Option.map_some])
            | refine Stp.go ?_
            | with_reducible first | refine it_pos rfl ?_ | refine it_neg (by decide) ?_ | refine st_nil rfl ?_ | refine s_op ?_ ?_ | exact True.intro
            | ((with_reducible first | refine dw_reg0 ?_ | refine dw_regB ?_); (conv => arg 3; whnf))
            | (refine Spl.go (fun hq he => ?_) (fun hq he => ?_) <;> first | (exfalso; clear hq; omega) | ((try (first | (conv => arg 8; simp only [hq]) | (conv => arg 4; simp only [hq]))); clear hq))
            | ((with_reducible first | refine c_split (fun hq => ?_) (fun hq => ?_) | refine q_split (fun hq => ?_) (fun hq => ?_)) <;> (try (first | (conv => arg 8; simp only [hq]) | (conv => arg 4; simp only [hq]))))
            | (with_reducible refine fin_0 ?_ (by first | rfl | (conv => lhs; simp only [go_sem, List.getElem?_map, ha, Option.map_some])) ?_)
            | exact Sub.refl _
            | omega)
          refine s_nilb ?_
          (conv in hold _ => simp (disch := omega) only [go_sem, List.getElem?_map, ha, Option.map_some])
          refine v_nil (hn_filter) ?_
          repeat' ((fail_if_success (with_reducible refine s_nil ?_ ⟨_, _, rfl⟩)); first
            | with_reducible refine acc_none ?_
            | (conv in hold _ => simp (disch := omega) only [go_sem, List.getElem?_map, ha, Option.map_some])
            | refine Stp.go ?_
            | with_reducible first | refine it_pos rfl ?_ | refine it_neg (by decide) ?_ | refine st_nil rfl ?_ | refine s_op ?_ ?_ | exact True.intro
            | ((with_reducible first | refine dw_reg0 ?_ | refine dw_regB ?_); (conv => arg 3; whnf))
            | (refine Spl.go (fun hq he => ?_) (fun hq he => ?_) <;> first | (exfalso; clear hq; omega) | ((try (first | (conv => arg 8; simp only [hq]) | (conv => arg 4; simp only [hq]))); clear hq))
            | ((with_reducible first | refine c_split (fun hq => ?_) (fun hq => ?_) | refine q_split (fun hq => ?_) (fun hq => ?_)) <;> (try (first | (conv => arg 8; simp only [hq]) | (conv => arg 4; simp only [hq]))))
            | (with_reducible refine fin_0 ?_ (by first | rfl | (conv => lhs; simp only [go_sem, List.getElem?_map, ha, Option.map_some])) ?_)
            | exact Sub.refl _
            | omega)
          refine i_meth (hm_filter) ?_
          refine c_doesE (r) ?_ ?_ ?_
          · ((try (conv => rhs; simp (disch := omega) only [go_sem])); try rfl)
          · first | rfl | (conv => lhs; simp only [go_sem])
          repeat' ((fail_if_success (with_reducible refine s_nil ?_ ⟨_, _, rfl⟩)); first
            | with_reducible refine acc_none ?_
            | (conv in hold _ => simp (disch := omega) only [go_sem])
            | refine Stp.go ?_
            | with_reducible first | refine it_pos rfl ?_ | refine it_neg (by decide) ?_ | refine st_nil rfl ?_ | refine s_op ?_ ?_ | exact True.intro
            | ((with_reducible first | refine dw_reg0 ?_ | refine dw_regB ?_); (conv => arg 3; whnf))
            | (refine Spl.go (fun hq he => ?_) (fun hq he => ?_) <;> first | (exfalso; clear hq; omega) | ((try (first | (conv => arg 8; simp only [hq]) | (conv => arg 4; simp only [hq]))); clear hq))
            | ((with_reducible first | refine c_split (fun hq => ?_) (fun hq => ?_) | refine q_split (fun hq => ?_) (fun hq => ?_)) <;> (try (first | (conv => arg 8; simp only [hq]) | (conv => arg 4; simp only [hq]))))
            | (with_reducible refine fin_0 ?_ (by first | rfl | (conv => lhs; simp only [go_sem])) ?_)
            | exact Sub.refl _
            | omega)
        · by_cases h3 : p.k = 3
          · have r := v_project cnt p a
            refine does0 c_impl_propertyOf_int_ mixed (Nat.le_of_ble_eq_true rfl) ?_
            conv => arg 3; whnf
            repeat' ((fail_if_success (with_reducible refine s_nil ?_ ⟨_, _, rfl⟩)); first
              | with_reducible refine acc_none ?_
              | (conv in hold _ => simp (disch := omega) only [go_sem, List.getElem?_map, ha, Option.map_some])
              | refine Stp.go ?_
              | with_reducible first | refine it_pos rfl ?_ | refine it_neg (by decide) ?_ | refine st_nil rfl ?_ | refine s_op ?_ ?_ | exact True.intro
              | ((with_reducible first | refine dw_reg0 ?_ | refine dw_regB ?_); (conv => arg 3; whnf))
              | (refine Spl.go (fun hq he => ?_) (fun hq he => ?_) <;> first | (exfalso; clear hq; omega) | ((try (first | (conv => arg 8; simp only [hq]) | (conv => arg 4; simp only [hq]))); clear hq))
              | ((with_reducible first | refine c_split (fun hq => ?_) (fun hq => ?_) | refine q_split (fun hq => ?_) (fun hq => ?_)) <;> (try (first | (conv => arg 8; simp only [hq]) | (conv => arg 4; simp only [hq]))))
              | (with_reducible refine fin_0 ?_ (by first | rfl | (conv => lhs; simp only [go_sem, List.getElem?_map, ha, Option.map_some])) ?_)
              | exact Sub.refl _
              | omega)
            refine s_nilb ?_
            (conv in hold _ => simp (disch := omega) only [go_sem, List.getElem?_map, ha, Option.map_some])
            refine v_nil (hn_project) ?_
            repeat' ((fail_if_success (with_reducible refine s_nil ?_ ⟨_, _, rfl⟩)); first
              | with_reducible refine acc_none ?_
              | (conv in hold _ => simp (disch := omega) only [go_sem, List.getElem?_map, ha, Option.map_some])
              | refine Stp.go ?_
              | with_reducible first | refine it_pos rfl ?_ | refine it_neg (by decide) ?_ | refine st_nil rfl ?_ | refine s_op ?_ ?_ | exact True.intro
              | ((with_reducible first | refine dw_reg0 ?_ | refine dw_regB ?_); (conv => arg 3; whnf))
              | (refine Spl.go (fun hq he => ?_) (fun hq he => ?_) <;> first | (exfalso; clear hq; omega) | ((try (first | (conv => arg 8; simp only [hq]) | (conv => arg 4; simp only [hq]))); clear hq))
              | ((with_reducible first | refine c_split (fun hq => ?_) (fun hq => ?_) | refine q_split (fun hq => ?_) (fun hq => ?_)) <;> (try (first | (conv => arg 8; simp only [hq]) | (conv => arg 4; simp only [hq]))))
              | (with_reducible refine fin_0 ?_ (by first | rfl | (conv => lhs; simp only [go_sem, List.getElem?_map, ha, Option.map_some])) ?_)
              | exact Sub.refl _
              | omega)
            refine i_meth (hm_project) ?_
            refine c_doesE (r) ?_ ?_ ?_
            · ((try (conv => rhs; simp (disch := omega) only [go_sem])); try rfl)
            · first | rfl | (conv => lhs; simp only [go_sem])
            repeat' ((fail_if_success (with_reducible refine s_nil ?_ ⟨_, _, rfl⟩)); first
              | with_reducible refine acc_none ?_
              | (conv in hold _ => simp (disch := omega) only [go_sem])
              | refine Stp.go ?_
              | with_reducible first | refine it_pos rfl ?_ | refine it_neg (by decide) ?_ | refine st_nil rfl ?_ | refine s_op ?_ ?_ | exact True.intro
              | ((with_reducible first | refine dw_reg0 ?_ | refine dw_regB ?_); (conv => arg 3; whnf))
              | (refine Spl.go (fun hq he => ?_) (fun hq he => ?_) <;> first | (exfalso; clear hq; omega) | ((try (first | (conv => arg 8; simp only [hq]) | (conv => arg 4; simp only [hq]))); clear hq))
              | ((with_reducible first | refine c_split (fun hq => ?_) (fun hq => ?_) | refine q_split (fun hq => ?_) (fun hq => ?_)) <;> (try (first | (conv => arg 8; simp only [hq]) | (conv => arg 4; simp only [hq]))))
              | (with_reducible refine fin_0 ?_ (by first | rfl | (conv => lhs; simp only [go_sem])) ?_)
              | exact Sub.refl _
              | omega)
          · have r := v_distinct cnt p a
            refine does0 c_impl_propertyOf_int_ mixed (Nat.le_of_ble_eq_true rfl) ?_
            conv => arg 3; whnf
            repeat' ((fail_if_success (with_reducible refine s_nil ?_ ⟨_, _, rfl⟩)); first
              | with_reducible refine acc_none ?_
              | (conv in hold _ => simp (disch := omega) only [go_sem, List.getElem?_map, ha, Option.map_some])
              | refine Stp.go ?_
              | with_reducible first | refine it_pos rfl ?_ | refine it_neg (by decide) ?_ | refine st_nil rfl ?_ | refine s_op ?_ ?_ | exact True.intro
              | ((with_reducible first | refine dw_reg0 ?_ | refine dw_regB ?_); (conv => arg 3; whnf))
              | (refine Spl.go (fun hq he => ?_) (fun hq he => ?_) <;> first | (exfalso; clear hq; omega) | ((try (first | (conv => arg 8; simp only [hq]) | (conv => arg 4; simp only [hq]))); clear hq))
              | ((with_reducible first | refine c_split (fun hq => ?_) (fun hq => ?_) | refine q_split (fun hq => ?_) (fun hq => ?_)) <;> (try (first | (conv => arg 8; simp only [hq]) | (conv => arg 4; simp only [hq]))))
              | (with_reducible refine fin_0 ?_ (by first | rfl | (conv => lhs; simp only [go_sem, List.getElem?_map, ha, Option.map_some])) ?_)
              | exact Sub.refl _
              | omega)
            refine s_nilb ?_
            (conv in hold _ => simp (disch := omega) only [go_sem, List.getElem?_map, ha, Option.map_some])
            refine v_nil (hn_distinct) ?_
            repeat' ((fail_if_success (with_reducible refine s_nil ?_ ⟨_, _, rfl⟩)); first
              | with_reducible refine acc_none ?_
              | (conv in hold _ => simp (disch := omega) only [go_sem, List.getElem?_map, ha, Option.map_some])
              | refine Stp.go ?_
              | with_reducible first | refine it_pos rfl ?_ | refine it_neg (by decide) ?_ | refine st_nil rfl ?_ | refine s_op ?_ ?_ | exact True.intro
              | ((with_reducible first | refine dw_reg0 ?_ | refine dw_regB ?_); (conv => arg 3; whnf))
              | (refine Spl.go (fun hq he => ?_) (fun hq he => ?_) <;> first | (exfalso; clear hq; omega) | ((try (first | (conv => arg 8; simp only [hq]) | (conv => arg 4; simp only [hq]))); clear hq))
              | ((with_reducible first | refine c_split (fun hq => ?_) (fun hq => ?_) | refine q_split (fun hq => ?_) (fun hq => ?_)) <;> (try (first | (conv => arg 8; simp only [hq]) | (conv => arg 4; simp only [hq]))))
              | (with_reducible refine fin_0 ?_ (by first | rfl | (conv => lhs; simp only [go_sem, List.getElem?_map, ha, Option.map_some])) ?_)
              | exact Sub.refl _
              | omega)
            refine i_meth (hm_distinct) ?_
            refine c_doesE (r) ?_ ?_ ?_
            · ((try (conv => rhs; simp (disch := omega) only [go_sem])); try rfl)
            · first | rfl | (conv => lhs; simp only [go_sem])
            repeat' ((fail_if_success (with_reducible refine s_nil ?_ ⟨_, _, rfl⟩)); first
              | with_reducible refine acc_none ?_
              | (conv in hold _ => simp (disch := omega) only [go_sem])
              | refine Stp.go ?_
              | with_reducible first | refine it_pos rfl ?_ | refine it_neg (by decide) ?_ | refine st_nil rfl ?_ | refine s_op ?_ ?_ | exact True.intro
              | ((with_reducible first | refine dw_reg0 ?_ | refine dw_regB ?_); (conv => arg 3; whnf))
              | (refine Spl.go (fun hq he => ?_) (fun hq he => ?_) <;> first | (exfalso; clear hq; omega) | ((try (first | (conv => arg 8; simp only [hq]) | (conv => arg 4; simp only [hq]))); clear hq))
              | ((with_reducible first | refine c_split (fun hq => ?_) (fun hq => ?_) | refine q_split (fun hq => ?_) (fun hq => ?_)) <;> (try (first | (conv => arg 8; simp only [hq]) | (conv => arg 4; simp only [hq]))))
              | (with_reducible refine fin_0 ?_ (by first | rfl | (conv => lhs; simp only [go_sem])) ?_)
              | exact Sub.refl _
              | omega)
end Go.Proofs.Ytbdpdmojepiepaa
/-
  RowBound of both packages. No condition.
-/
set_option maxHeartbeats 4000000
set_option maxRecDepth 100000
set_option linter.unusedVariables false
set_option linter.unusedSimpArgs false
namespace Go.Proofs.Ytbdpdmojepiepaa
open Go.RowKit

theorem part_ok {cnt : List Int} {p : Pl} (hp : Fine cnt.length p) (hcl : p.cs.length ≤ 1048576) {l : List Int} (hl : l.length = p.ks.length) (hr : ∀ (j : Nat) (x : Int), l[j]? = some x → 0 ≤ x ∧ x ≤ M) : Does Try.prog 59 [.obj [rbV cnt]] [pD p, intsD l, .ref 1000000 0] (I (rbK cnt p.k p.t p.cs.length l)) [.obj [rbV cnt]] := by
  have r := propertyOf_ok hp hcl hl hr
  refine does c_impl_deriveProperty_int__1 mixed (Nat.le_of_ble_eq_true rfl) 1 rfl ?_
  conv => arg 3; whnf
  repeat' (first
    | with_reducible refine acc_none ?_
    | (conv in hold _ => simp (disch := omega) only [go_sem])
    | refine Stp.go ?_
    | with_reducible first | refine it_pos rfl ?_ | refine it_neg (by decide) ?_ | refine st_nil rfl ?_ | refine s_op ?_ ?_ | exact True.intro
    | ((with_reducible first | refine dw_reg0 ?_ | refine dw_regB ?_); (conv => arg 3; whnf))
    | (refine Spl.go (fun hq he => ?_) (fun hq he => ?_) <;> first | (exfalso; clear hq; omega) | ((try (first | (conv => arg 8; simp only [hq]) | (conv => arg 4; simp only [hq]))); clear hq))
    | ((with_reducible first | refine c_split (fun hq => ?_) (fun hq => ?_) | refine q_split (fun hq => ?_) (fun hq => ?_)) <;> (try (first | (conv => arg 8; simp only [hq]) | (conv => arg 4; simp only [hq]))))
    | (with_reducible refine fin_0 ?_ (by first | rfl | (conv => lhs; simp only [go_sem])) ?_)
    | (with_reducible show evC _ _ _ _ _ _ _ _ _ _ _ _
       first
       | (refine c_doesE (r) ?_ ?_ ?_
          · ((try (conv => rhs; simp (disch := omega) only [go_sem])); try rfl)
          · first | rfl | (conv => lhs; simp only [go_sem])))
    | exact Sub.refl _
    | omega)
  refine fin_L [1000000] ?_ ?_ rfl ?_
  repeat' (first | (conv in hold _ => simp (disch := omega) only [go_sem]) | exact True.intro | exact Sub.refl _ | omega)
theorem fold_ok {cnt : List Int} (hc : cntOk cnt) : ∀ p : Pl, Fine cnt.length p → psz p ≤ 1048576 → Does Try.prog 58 [.obj [rbV cnt]] [pD p, .fn 59 [.ref 1000000 0]] (I (rb cnt p)) [.obj [rbV cnt]] := by
  refine Pl.indA (fun p ih hp hs => ?_)
  have hs0 := hs
  rw [psz_eq] at hs
  have hlen := pszL_len p.ks
  have hlm : (p.ks.map (rb cnt)).length = p.ks.length := List.length_map ..
  have hrn : ∀ (j : Nat) (x : Int), (p.ks.map (rb cnt))[j]? = some x → 0 ≤ x ∧ x ≤ M := fun j x hj => by
    rw [List.getElem?_map] at hj
    cases hk : p.ks[j]? with
    | none => rw [hk] at hj; cases hj
    | some y =>
      rw [hk] at hj
      cases hj
      exact rb_range hc y
  have r := part_ok hp (by omega) hlm hrn
  rw [rb_eq]
  generalize hq : p.ks.map (rb cnt) = q at *
  refine does c_impl_foldPlan_int_ mixed (Nat.le_of_ble_eq_true rfl) 1 rfl ?_
  conv => arg 3; whnf
  repeat' (first
    | with_reducible refine acc_none ?_
    | (conv in hold _ => simp (disch := omega) only [go_sem])
    | refine Stp.go ?_
    | with_reducible first | refine it_pos rfl ?_ | refine it_neg (by decide) ?_ | refine st_nil rfl ?_ | refine s_op ?_ ?_ | exact True.intro
    | ((with_reducible first | refine dw_reg0 ?_ | refine dw_regB ?_); (conv => arg 3; whnf))
    | (refine Spl.go (fun hq he => ?_) (fun hq he => ?_) <;> first | (exfalso; clear hq; omega) | ((try (first | (conv => arg 8; simp only [hq]) | (conv => arg 4; simp only [hq]))); clear hq))
    | ((with_reducible first | refine c_split (fun hq => ?_) (fun hq => ?_) | refine q_split (fun hq => ?_) (fun hq => ?_)) <;> (try (first | (conv => arg 8; simp only [hq]) | (conv => arg 4; simp only [hq]))))
    | (with_reducible refine fin_0 ?_ (by first | rfl | (conv => lhs; simp only [go_sem])) ?_)
    | exact Sub.refl _
    | omega)
  refine dw_for (c := 3) (l := fun i => [(1, .fn 59 [.ref 1000000 0]), (2, .ref 1000001 0), (5, .own 1000002 1 i), (9, .sl 5 (p.ks.map pD)), (10, I p.ks.length), (11, I i), (1000000, .obj [rbV cnt]), (1000001, .obj [I p.k, I p.t, .sl 5 (p.es.map eD), intsD p.cs, .sl 5 (p.ks.map pD)]), (1000002, .row 1 ((q.take i).map I))]) p.ks.length (fun _ => True) 0 trivial ((wk_row 5 2000020 1 (by decide) (by decide) rfl rfl).trans (Wk.list [1000000, 2000002, 2000020] rfl rfl ?_)) (fun i hi _ => ?_) (Nat.zero_le _)
  · repeat' (first | (conv in hold _ => simp (disch := omega) only [go_sem]) | exact True.intro | exact Sub.refl _ | omega)
    exact rfl
  · have htl : (q.take i).length = i := by rw [List.length_take]; omega
    have hmk := take_map I (vs := q) (i := i) (by omega)
    by_cases hil : i < p.ks.length
    · obtain ⟨x, hx⟩ : ∃ x, p.ks[i]? = some x := ⟨_, List.getElem?_eq_getElem hil⟩
      have hm := List.mem_of_getElem? hx
      have hix := ih x hm (hp.kid hm) (by have := pszL_mem hm; omega)
      have hqx : q[i]? = some (rb cnt x) := by rw [← hq, List.getElem?_map, hx]; rfl
      have hnx := take_next hqx
      repeat' (first
        | with_reducible refine acc_none ?_
        | (conv in hold _ => simp (disch := omega) only [go_sem, List.getElem?_map, hx, Option.map_some, List.length_map, htl])
        | refine Stp.go ?_
        | with_reducible first | refine it_pos rfl ?_ | refine it_neg (by decide) ?_ | refine st_nil rfl ?_ | refine s_op ?_ ?_ | exact True.intro
        | ((with_reducible first | refine dw_reg0 ?_ | refine dw_regB ?_); (conv => arg 3; whnf))
        | (refine Spl.go (fun hq he => ?_) (fun hq he => ?_) <;> first | (exfalso; clear hq; omega) | ((try (first | (conv => arg 8; simp only [hq]) | (conv => arg 4; simp only [hq]))); clear hq))
        | ((with_reducible first | refine c_split (fun hq => ?_) (fun hq => ?_) | refine q_split (fun hq => ?_) (fun hq => ?_)) <;> (try (first | (conv => arg 8; simp only [hq]) | (conv => arg 4; simp only [hq]))))
        | (with_reducible refine fin_0 ?_ (by first | rfl | (conv => lhs; simp only [go_sem, List.getElem?_map, hx, Option.map_some, List.length_map, htl])) ?_)
        | (with_reducible show evC _ _ _ _ _ _ _ _ _ _ _ _
           first
           | (refine c_doesR [1000000] (hix) (callOK_of rfl (Nat.le_of_ble_eq_true rfl) rfl ?_ ?_) ?_ ?_
              iterate 2 · repeat' (first | (conv in hold _ => simp (disch := omega) only [go_sem, List.getElem?_map, hx, Option.map_some, List.length_map, htl]) | exact True.intro | exact Sub.refl _ | omega)
              · ((conv => rhs; simp (disch := omega) only [go_sem, List.getElem?_map, hx, Option.map_some, List.length_map, htl]); try rfl)))
        | exact Sub.refl _
        | omega)
      refine ⟨hil, trivial, Wk.list [1000000, 1000001, 2000020] rfl rfl ?_⟩
      repeat' (first | (conv in hold _ => simp (disch := omega) only [go_sem, List.length_map, htl]) | exact True.intro | exact Sub.refl _ | omega)
      rw [hmk, hnx, List.map_append]
      rfl
    · obtain rfl : i = p.ks.length := by omega
      have e1 : q.take p.ks.length = q := List.take_of_length_le (by omega)
      have e2 : (q.map I).take p.ks.length = q.map I := List.take_of_length_le (by rw [List.length_map]; omega)
      repeat' ((fail_if_success (with_reducible first | refine s_call ?_ | refine s_cal ?_ | refine s_inv ?_)); first
        | with_reducible refine acc_none ?_
        | (conv in hold _ => simp (disch := omega) only [go_sem, e1])
        | refine Stp.go ?_
        | with_reducible first | refine it_pos rfl ?_ | refine it_neg (by decide) ?_ | refine st_nil rfl ?_ | refine s_op ?_ ?_ | exact True.intro
        | ((with_reducible first | refine dw_reg0 ?_ | refine dw_regB ?_); (conv => arg 3; whnf))
        | (refine Spl.go (fun hq he => ?_) (fun hq he => ?_) <;> first | (exfalso; clear hq; omega) | ((try (first | (conv => arg 8; simp only [hq]) | (conv => arg 4; simp only [hq]))); clear hq))
        | ((with_reducible first | refine c_split (fun hq => ?_) (fun hq => ?_) | refine q_split (fun hq => ?_) (fun hq => ?_)) <;> (try (first | (conv => arg 8; simp only [hq]) | (conv => arg 4; simp only [hq]))))
        | (with_reducible refine fin_0 ?_ (by first | rfl | (conv => lhs; simp only [go_sem, e1])) ?_)
        | exact Sub.refl _
        | omega)
      refine s_pre (pre_frz (t := 24) (g := 1000002) (by decide) (by decide) rfl ?_) ?_
      rotate_left
      repeat' (first
        | with_reducible refine acc_none ?_
        | (conv in hold _ => simp (disch := omega) only [go_sem, e1, e2, hlm, Nat.le_refl])
        | refine Stp.go ?_
        | with_reducible first | refine it_pos rfl ?_ | refine it_neg (by decide) ?_ | refine st_nil rfl ?_ | refine s_op ?_ ?_ | exact True.intro
        | ((with_reducible first | refine dw_reg0 ?_ | refine dw_regB ?_); (conv => arg 3; whnf))
        | (refine Spl.go (fun hq he => ?_) (fun hq he => ?_) <;> first | (exfalso; clear hq; omega) | ((try (first | (conv => arg 8; simp only [hq]) | (conv => arg 4; simp only [hq]))); clear hq))
        | ((with_reducible first | refine c_split (fun hq => ?_) (fun hq => ?_) | refine q_split (fun hq => ?_) (fun hq => ?_)) <;> (try (first | (conv => arg 8; simp only [hq]) | (conv => arg 4; simp only [hq]))))
        | (with_reducible refine fin_0 ?_ (by first | rfl | (conv => lhs; simp only [go_sem, e1, e2, hlm, Nat.le_refl])) ?_)
        | exact Sub.refl _
        | omega)
      refine v_fn ((by kernel_rfl)) ?_
      refine c_doesR [1000000] (r) (callOK_of rfl (Nat.le_of_ble_eq_true rfl) rfl ?_ ?_) ?_ ?_
      · repeat' (first | (conv in hold _ => simp (disch := omega) only [go_sem]) | exact True.intro | exact Sub.refl _ | omega)
      · repeat' (first | (conv in hold _ => simp (disch := omega) only [go_sem]) | exact True.intro | exact Sub.refl _ | omega)
      · ((conv => rhs; simp (disch := omega) only [go_sem]); try rfl)
      repeat' (first
        | with_reducible refine acc_none ?_
        | (conv in hold _ => simp (disch := omega) only [go_sem])
        | refine Stp.go ?_
        | with_reducible first | refine it_pos rfl ?_ | refine it_neg (by decide) ?_ | refine st_nil rfl ?_ | refine s_op ?_ ?_ | exact True.intro
        | ((with_reducible first | refine dw_reg0 ?_ | refine dw_regB ?_); (conv => arg 3; whnf))
        | (refine Spl.go (fun hq he => ?_) (fun hq he => ?_) <;> first | (exfalso; clear hq; omega) | ((try (first | (conv => arg 8; simp only [hq]) | (conv => arg 4; simp only [hq]))); clear hq))
        | ((with_reducible first | refine c_split (fun hq => ?_) (fun hq => ?_) | refine q_split (fun hq => ?_) (fun hq => ?_)) <;> (try (first | (conv => arg 8; simp only [hq]) | (conv => arg 4; simp only [hq]))))
        | (with_reducible refine fin_0 ?_ (by first | rfl | (conv => lhs; simp only [go_sem])) ?_)
        | exact Sub.refl _
        | omega)
      refine fin_L [1000000] ?_ ?_ rfl ?_
      repeat' (first | (conv in hold _ => simp (disch := omega) only [go_sem]) | exact True.intro | exact Sub.refl _ | omega)
      exact ints_pur _
theorem derive_ok {cnt : List Int} (hc : cntOk cnt) {p : Pl} (hp : Fine cnt.length p) (hs : psz p ≤ 1048576) : Does Try.prog 33 [] [pD p, rbV cnt] (I (rb cnt p)) [] := by
  have r := fold_ok hc p hp hs
  refine does0 c_impl_deriveProperty_int_ mixed (Nat.le_of_ble_eq_true rfl) ?_
  conv => arg 3; whnf
  repeat' (first
    | with_reducible refine acc_none ?_
    | (conv in hold _ => simp (disch := omega) only [go_sem])
    | refine Stp.go ?_
    | with_reducible first | refine it_pos rfl ?_ | refine it_neg (by decide) ?_ | refine st_nil rfl ?_ | refine s_op ?_ ?_ | exact True.intro
    | ((with_reducible first | refine dw_reg0 ?_ | refine dw_regB ?_); (conv => arg 3; whnf))
    | (refine Spl.go (fun hq he => ?_) (fun hq he => ?_) <;> first | (exfalso; clear hq; omega) | ((try (first | (conv => arg 8; simp only [hq]) | (conv => arg 4; simp only [hq]))); clear hq))
    | ((with_reducible first | refine c_split (fun hq => ?_) (fun hq => ?_) | refine q_split (fun hq => ?_) (fun hq => ?_)) <;> (try (first | (conv => arg 8; simp only [hq]) | (conv => arg 4; simp only [hq]))))
    | (with_reducible refine fin_0 ?_ (by first | rfl | (conv => lhs; simp only [go_sem])) ?_)
    | (with_reducible show evC _ _ _ _ _ _ _ _ _ _ _ _
       first
       | (refine c_doesR [2000003] (r) (callOK_of rfl (Nat.le_of_ble_eq_true rfl) rfl ?_ ?_) ?_ ?_
          iterate 2 · repeat' (first | (conv in hold _ => simp (disch := omega) only [go_sem]) | exact True.intro | exact Sub.refl _ | omega)
          · ((conv => rhs; simp (disch := omega) only [go_sem]); try rfl)))
    | exact Sub.refl _
    | omega)
theorem RowBound_all (p : Pl) (hs : psz p ≤ 1048576) (ws : List Int) (hl : ws.length ≤ 1048576) : (∀ cnt : List Int, Does Try.prog 12 [] [pD p, intsD ws, intsD cnt] (I (-1)) [] ∧ Does Try.prog 11 [] [pD p, intsD ws, intsD cnt] (I (-1)) []) ∨
    (wsOk ws ∧ Fine ws.length p ∧ ∀ cnt : List Int, cnt.length ≤ 1048576 → ∃ n : Int, Does Try.prog 12 [] [pD p, intsD ws, intsD cnt] (I n) [] ∧ Does Try.prog 11 [] [pD p, intsD ws, intsD cnt] (I n) [] ∧ ((cnt.length = ws.length ∧ cntOk cnt ∧ n = rb cnt p) ∨ (n = -1 ∧ ¬ (cnt.length = ws.length ∧ cntOk cnt)))) := by
  obtain ⟨w, ⟨hw, hfi⟩, h1, h2⟩ := PlanWidth_fine p hs ws hl
  by_cases hw0 : w = 0
  · rw [hw0] at h1 h2
    refine Or.inl (fun cnt => ⟨?_, ?_⟩)
    · refine does0 c_spec_RowBound mixed (Nat.le_of_ble_eq_true rfl) ?_
      conv => arg 3; whnf
      repeat' (first
        | with_reducible refine acc_none ?_
        | (conv in hold _ => simp (disch := omega) only [go_sem])
        | refine Stp.go ?_
        | with_reducible first | refine it_pos rfl ?_ | refine it_neg (by decide) ?_ | refine st_nil rfl ?_ | refine s_op ?_ ?_ | exact True.intro
        | ((with_reducible first | refine dw_reg0 ?_ | refine dw_regB ?_); (conv => arg 3; whnf))
        | (refine Spl.go (fun hq he => ?_) (fun hq he => ?_) <;> first | (exfalso; clear hq; omega) | ((try (first | (conv => arg 8; simp only [hq]) | (conv => arg 4; simp only [hq]))); clear hq))
        | ((with_reducible first | refine c_split (fun hq => ?_) (fun hq => ?_) | refine q_split (fun hq => ?_) (fun hq => ?_)) <;> (try (first | (conv => arg 8; simp only [hq]) | (conv => arg 4; simp only [hq]))))
        | (with_reducible refine fin_0 ?_ (by first | rfl | (conv => lhs; simp only [go_sem])) ?_)
        | (with_reducible show evC _ _ _ _ _ _ _ _ _ _ _ _
           first
           | (refine c_doesE (h1) ?_ ?_ ?_
              · ((try (conv => rhs; simp (disch := omega) only [go_sem])); try rfl)
              · first | rfl | (conv => lhs; simp only [go_sem])))
        | exact Sub.refl _
        | omega)
    · refine does0 c_impl_RowBound mixed (Nat.le_of_ble_eq_true rfl) ?_
      conv => arg 3; whnf
      repeat' (first
        | with_reducible refine acc_none ?_
        | (conv in hold _ => simp (disch := omega) only [go_sem])
        | refine Stp.go ?_
        | with_reducible first | refine it_pos rfl ?_ | refine it_neg (by decide) ?_ | refine st_nil rfl ?_ | refine s_op ?_ ?_ | exact True.intro
        | ((with_reducible first | refine dw_reg0 ?_ | refine dw_regB ?_); (conv => arg 3; whnf))
        | (refine Spl.go (fun hq he => ?_) (fun hq he => ?_) <;> first | (exfalso; clear hq; omega) | ((try (first | (conv => arg 8; simp only [hq]) | (conv => arg 4; simp only [hq]))); clear hq))
        | ((with_reducible first | refine c_split (fun hq => ?_) (fun hq => ?_) | refine q_split (fun hq => ?_) (fun hq => ?_)) <;> (try (first | (conv => arg 8; simp only [hq]) | (conv => arg 4; simp only [hq]))))
        | (with_reducible refine fin_0 ?_ (by first | rfl | (conv => lhs; simp only [go_sem])) ?_)
        | (with_reducible show evC _ _ _ _ _ _ _ _ _ _ _ _
           first
           | (refine c_doesE (h2) ?_ ?_ ?_
              · ((try (conv => rhs; simp (disch := omega) only [go_sem])); try rfl)
              · first | rfl | (conv => lhs; simp only [go_sem])))
        | exact Sub.refl _
        | omega)
  · obtain ⟨hws, hfine⟩ := hfi hw0
    have e0 : (w == 0) = false := beq_eq_false_iff_ne.2 hw0
    refine Or.inr ⟨hws, hfine, fun cnt hcl => ?_⟩
    by_cases hlen : cnt.length = ws.length
    · have e1 : ((cnt.length : Int) != (ws.length : Int)) = false := by rw [bne_eq_false_iff_eq]; omega
      by_cases hc : cntOk cnt
      · have hfine' : Fine cnt.length p := by rw [hlen]; exact hfine
        have r1 := rowBound_spec hc p hfine'
        have r2 := derive_ok hc hfine' hs
        refine ⟨rb cnt p, ?_, ?_, Or.inl ⟨hlen, hc, rfl⟩⟩
        · refine does0 c_spec_RowBound mixed (Nat.le_of_ble_eq_true rfl) ?_
          conv => arg 3; whnf
          repeat' (first
            | with_reducible refine acc_none ?_
            | (conv in hold _ => simp (disch := omega) only [go_sem, e0, e1])
            | refine Stp.go ?_
            | with_reducible first | refine it_pos rfl ?_ | refine it_neg (by decide) ?_ | refine st_nil rfl ?_ | refine s_op ?_ ?_ | exact True.intro
            | ((with_reducible first | refine dw_reg0 ?_ | refine dw_regB ?_); (conv => arg 3; whnf))
            | (refine Spl.go (fun hq he => ?_) (fun hq he => ?_) <;> first | (exfalso; clear hq; omega) | ((try (first | (conv => arg 8; simp only [hq]) | (conv => arg 4; simp only [hq]))); clear hq))
            | ((with_reducible first | refine c_split (fun hq => ?_) (fun hq => ?_) | refine q_split (fun hq => ?_) (fun hq => ?_)) <;> (try (first | (conv => arg 8; simp only [hq]) | (conv => arg 4; simp only [hq]))))
            | (with_reducible refine fin_0 ?_ (by first | rfl | (conv => lhs; simp only [go_sem, e0, e1])) ?_)
            | (with_reducible show evC _ _ _ _ _ _ _ _ _ _ _ _
               first
               | (refine c_doesE (h1) ?_ ?_ ?_
                  · ((try (conv => rhs; simp (disch := omega) only [go_sem, e0, e1])); try rfl)
                  · first | rfl | (conv => lhs; simp only [go_sem, e0, e1])))
            | exact Sub.refl _
            | omega)
          refine dw_for (c := 1) (l := fun i => [(2, intsD cnt), (3, .ref 1000000 0), (7, I i), (1000000, .obj [I p.k, I p.t, .sl 5 (p.es.map eD), intsD p.cs, .sl 5 (p.ks.map pD)])]) cnt.length (fun _ => True) 0 trivial (Wk.list [2000003] rfl rfl ?_) (fun i hi _ => ?_) (Nat.zero_le _)
          · repeat' (first | (conv in hold _ => simp (disch := omega) only [go_sem]) | exact True.intro | exact Sub.refl _ | omega)
            exact rfl
          · rcases at_or_end hi with ⟨x, hx, hlt⟩ | rfl
            · have hr := inRange_ok x 0 400
              rw [decide_eq_true (hc i x hx)] at hr
              repeat' (first
                | with_reducible refine acc_none ?_
                | (conv in hold _ => simp (disch := omega) only [go_sem, List.getElem?_map, hx, Option.map_some])
                | refine Stp.go ?_
                | with_reducible first | refine it_pos rfl ?_ | refine it_neg (by decide) ?_ | refine st_nil rfl ?_ | refine s_op ?_ ?_ | exact True.intro
                | ((with_reducible first | refine dw_reg0 ?_ | refine dw_regB ?_); (conv => arg 3; whnf))
                | (refine Spl.go (fun hq he => ?_) (fun hq he => ?_) <;> first | (exfalso; clear hq; omega) | ((try (first | (conv => arg 8; simp only [hq]) | (conv => arg 4; simp only [hq]))); clear hq))
                | ((with_reducible first | refine c_split (fun hq => ?_) (fun hq => ?_) | refine q_split (fun hq => ?_) (fun hq => ?_)) <;> (try (first | (conv => arg 8; simp only [hq]) | (conv => arg 4; simp only [hq]))))
                | (with_reducible refine fin_0 ?_ (by first | rfl | (conv => lhs; simp only [go_sem, List.getElem?_map, hx, Option.map_some])) ?_)
                | (with_reducible show evC _ _ _ _ _ _ _ _ _ _ _ _
                   first
                   | (refine c_doesE (hr) ?_ ?_ ?_
                      · ((try (conv => rhs; simp (disch := omega) only [go_sem, List.getElem?_map, hx, Option.map_some])); try rfl)
                      · first | rfl | (conv => lhs; simp only [go_sem, List.getElem?_map, hx, Option.map_some])))
                | exact Sub.refl _
                | omega)
              refine ⟨hlt, trivial, Wk.list [1000000] rfl rfl ?_⟩
              repeat' (first | (conv in hold _ => simp (disch := omega) only [go_sem]) | exact True.intro | exact Sub.refl _ | omega)
            · repeat' (first
                | with_reducible refine acc_none ?_
                | (conv in hold _ => simp (disch := omega) only [go_sem])
                | refine Stp.go ?_
                | with_reducible first | refine it_pos rfl ?_ | refine it_neg (by decide) ?_ | refine st_nil rfl ?_ | refine s_op ?_ ?_ | exact True.intro
                | ((with_reducible first | refine dw_reg0 ?_ | refine dw_regB ?_); (conv => arg 3; whnf))
                | (refine Spl.go (fun hq he => ?_) (fun hq he => ?_) <;> first | (exfalso; clear hq; omega) | ((try (first | (conv => arg 8; simp only [hq]) | (conv => arg 4; simp only [hq]))); clear hq))
                | ((with_reducible first | refine c_split (fun hq => ?_) (fun hq => ?_) | refine q_split (fun hq => ?_) (fun hq => ?_)) <;> (try (first | (conv => arg 8; simp only [hq]) | (conv => arg 4; simp only [hq]))))
                | (with_reducible refine fin_0 ?_ (by first | rfl | (conv => lhs; simp only [go_sem])) ?_)
                | (with_reducible show evC _ _ _ _ _ _ _ _ _ _ _ _
                   first
                   | (refine c_doesE (r1) ?_ ?_ ?_
                      · ((try (conv => rhs; simp (disch := omega) only [go_sem])); try rfl)
                      · first | rfl | (conv => lhs; simp only [go_sem])))
                | exact Sub.refl _
                | omega)
        · refine does0 c_impl_RowBound mixed (Nat.le_of_ble_eq_true rfl) ?_
          conv => arg 3; whnf
          repeat' (first
            | with_reducible refine acc_none ?_
            | (conv in hold _ => simp (disch := omega) only [go_sem, e0, e1])
            | refine Stp.go ?_
            | with_reducible first | refine it_pos rfl ?_ | refine it_neg (by decide) ?_ | refine st_nil rfl ?_ | refine s_op ?_ ?_ | exact True.intro
            | ((with_reducible first | refine dw_reg0 ?_ | refine dw_regB ?_); (conv => arg 3; whnf))
            | (refine Spl.go (fun hq he => ?_) (fun hq he => ?_) <;> first | (exfalso; clear hq; omega) | ((try (first | (conv => arg 8; simp only [hq]) | (conv => arg 4; simp only [hq]))); clear hq))
            | ((with_reducible first | refine c_split (fun hq => ?_) (fun hq => ?_) | refine q_split (fun hq => ?_) (fun hq => ?_)) <;> (try (first | (conv => arg 8; simp only [hq]) | (conv => arg 4; simp only [hq]))))
            | (with_reducible refine fin_0 ?_ (by first | rfl | (conv => lhs; simp only [go_sem, e0, e1])) ?_)
            | (with_reducible show evC _ _ _ _ _ _ _ _ _ _ _ _
               first
               | (refine c_doesE (h2) ?_ ?_ ?_
                  · ((try (conv => rhs; simp (disch := omega) only [go_sem, e0, e1])); try rfl)
                  · first | rfl | (conv => lhs; simp only [go_sem, e0, e1])))
            | exact Sub.refl _
            | omega)
          refine dw_for (c := 1) (l := fun i => [(2, intsD cnt), (3, .ref 1000000 0), (20, intsD cnt), (21, I cnt.length), (22, I i), (1000000, .obj [I p.k, I p.t, .sl 5 (p.es.map eD), intsD p.cs, .sl 5 (p.ks.map pD)])]) cnt.length (fun _ => True) 0 trivial (Wk.list [2000003] rfl rfl ?_) (fun i hi _ => ?_) (Nat.zero_le _)
          · repeat' (first | (conv in hold _ => simp (disch := omega) only [go_sem]) | exact True.intro | exact Sub.refl _ | omega)
            exact rfl
          · rcases at_or_end hi with ⟨x, hx, hlt⟩ | rfl
            · have hx4 := hc i x hx
              repeat' (first
                | with_reducible refine acc_none ?_
                | (conv in hold _ => simp (disch := omega) only [go_sem, List.getElem?_map, hx, Option.map_some])
                | refine Stp.go ?_
                | with_reducible first | refine it_pos rfl ?_ | refine it_neg (by decide) ?_ | refine st_nil rfl ?_ | refine s_op ?_ ?_ | exact True.intro
                | ((with_reducible first | refine dw_reg0 ?_ | refine dw_regB ?_); (conv => arg 3; whnf))
                | (refine Spl.go (fun hq he => ?_) (fun hq he => ?_) <;> first | (exfalso; clear hq; omega) | ((try (first | (conv => arg 8; simp only [hq]) | (conv => arg 4; simp only [hq]))); clear hq))
                | ((with_reducible first | refine c_split (fun hq => ?_) (fun hq => ?_) | refine q_split (fun hq => ?_) (fun hq => ?_)) <;> (try (first | (conv => arg 8; simp only [hq]) | (conv => arg 4; simp only [hq]))))
                | (with_reducible refine fin_0 ?_ (by first | rfl | (conv => lhs; simp only [go_sem, List.getElem?_map, hx, Option.map_some])) ?_)
                | exact Sub.refl _
                | omega)
              refine ⟨hlt, trivial, Wk.list [1000000] rfl rfl ?_⟩
              repeat' (first | (conv in hold _ => simp (disch := omega) only [go_sem]) | exact True.intro | exact Sub.refl _ | omega)
            · repeat' (first
                | with_reducible refine acc_none ?_
                | (conv in hold _ => simp (disch := omega) only [go_sem])
                | refine Stp.go ?_
                | with_reducible first | refine it_pos rfl ?_ | refine it_neg (by decide) ?_ | refine st_nil rfl ?_ | refine s_op ?_ ?_ | exact True.intro
                | ((with_reducible first | refine dw_reg0 ?_ | refine dw_regB ?_); (conv => arg 3; whnf))
                | (refine Spl.go (fun hq he => ?_) (fun hq he => ?_) <;> first | (exfalso; clear hq; omega) | ((try (first | (conv => arg 8; simp only [hq]) | (conv => arg 4; simp only [hq]))); clear hq))
                | ((with_reducible first | refine c_split (fun hq => ?_) (fun hq => ?_) | refine q_split (fun hq => ?_) (fun hq => ?_)) <;> (try (first | (conv => arg 8; simp only [hq]) | (conv => arg 4; simp only [hq]))))
                | (with_reducible refine fin_0 ?_ (by first | rfl | (conv => lhs; simp only [go_sem])) ?_)
                | (with_reducible show evC _ _ _ _ _ _ _ _ _ _ _ _
                   first
                   | (refine c_doesE (r2) ?_ ?_ ?_
                      · ((try (conv => rhs; simp (disch := omega) only [go_sem])); try rfl)
                      · first | rfl | (conv => lhs; simp only [go_sem])))
                | exact Sub.refl _
                | omega)
      · refine ⟨-1, ?_, ?_, Or.inr ⟨rfl, fun h => hc h.2⟩⟩
        · refine does0 c_spec_RowBound mixed (Nat.le_of_ble_eq_true rfl) ?_
          conv => arg 3; whnf
          repeat' (first
            | with_reducible refine acc_none ?_
            | (conv in hold _ => simp (disch := omega) only [go_sem, e0, e1])
            | refine Stp.go ?_
            | with_reducible first | refine it_pos rfl ?_ | refine it_neg (by decide) ?_ | refine st_nil rfl ?_ | refine s_op ?_ ?_ | exact True.intro
            | ((with_reducible first | refine dw_reg0 ?_ | refine dw_regB ?_); (conv => arg 3; whnf))
            | (refine Spl.go (fun hq he => ?_) (fun hq he => ?_) <;> first | (exfalso; clear hq; omega) | ((try (first | (conv => arg 8; simp only [hq]) | (conv => arg 4; simp only [hq]))); clear hq))
            | ((with_reducible first | refine c_split (fun hq => ?_) (fun hq => ?_) | refine q_split (fun hq => ?_) (fun hq => ?_)) <;> (try (first | (conv => arg 8; simp only [hq]) | (conv => arg 4; simp only [hq]))))
            | (with_reducible refine fin_0 ?_ (by first | rfl | (conv => lhs; simp only [go_sem, e0, e1])) ?_)
            | (with_reducible show evC _ _ _ _ _ _ _ _ _ _ _ _
               first
               | (refine c_doesE (h1) ?_ ?_ ?_
                  · ((try (conv => rhs; simp (disch := omega) only [go_sem, e0, e1])); try rfl)
                  · first | rfl | (conv => lhs; simp only [go_sem, e0, e1])))
            | exact Sub.refl _
            | omega)
          refine dw_for (c := 1) (l := fun i => [(2, intsD cnt), (3, .ref 1000000 0), (7, I i), (1000000, .obj [I p.k, I p.t, .sl 5 (p.es.map eD), intsD p.cs, .sl 5 (p.ks.map pD)])]) cnt.length (fun i => ∀ (j : Nat) (x : Int), j < i → cnt[j]? = some x → 0 ≤ x ∧ x ≤ 400) 0 (by omega) (Wk.list [2000003] rfl rfl ?_) (fun i hi hJ => ?_) (Nat.zero_le _)
          · repeat' (first | (conv in hold _ => simp (disch := omega) only [go_sem]) | exact True.intro | exact Sub.refl _ | omega)
            exact rfl
          · rcases at_or_end hi with ⟨x, hx, hlt⟩ | rfl
            · have hr := inRange_ok x 0 400
              by_cases hx4 : 0 ≤ x ∧ x ≤ 400
              · rw [decide_eq_true hx4] at hr
                repeat' (first
                  | with_reducible refine acc_none ?_
                  | (conv in hold _ => simp (disch := omega) only [go_sem, List.getElem?_map, hx, Option.map_some])
                  | refine Stp.go ?_
                  | with_reducible first | refine it_pos rfl ?_ | refine it_neg (by decide) ?_ | refine st_nil rfl ?_ | refine s_op ?_ ?_ | exact True.intro
                  | ((with_reducible first | refine dw_reg0 ?_ | refine dw_regB ?_); (conv => arg 3; whnf))
                  | (refine Spl.go (fun hq he => ?_) (fun hq he => ?_) <;> first | (exfalso; clear hq; omega) | ((try (first | (conv => arg 8; simp only [hq]) | (conv => arg 4; simp only [hq]))); clear hq))
                  | ((with_reducible first | refine c_split (fun hq => ?_) (fun hq => ?_) | refine q_split (fun hq => ?_) (fun hq => ?_)) <;> (try (first | (conv => arg 8; simp only [hq]) | (conv => arg 4; simp only [hq]))))
                  | (with_reducible refine fin_0 ?_ (by first | rfl | (conv => lhs; simp only [go_sem, List.getElem?_map, hx, Option.map_some])) ?_)
                  | (with_reducible show evC _ _ _ _ _ _ _ _ _ _ _ _
                     first
                     | (refine c_doesE (hr) ?_ ?_ ?_
                        · ((try (conv => rhs; simp (disch := omega) only [go_sem, List.getElem?_map, hx, Option.map_some])); try rfl)
                        · first | rfl | (conv => lhs; simp only [go_sem, List.getElem?_map, hx, Option.map_some])))
                  | exact Sub.refl _
                  | omega)
                refine ⟨hlt, upto1 (P := fun _ x => 0 ≤ x ∧ x ≤ 400) hx hx4 hJ, Wk.list [1000000] rfl rfl ?_⟩
                repeat' (first | (conv in hold _ => simp (disch := omega) only [go_sem]) | exact True.intro | exact Sub.refl _ | omega)
              · rw [decide_eq_false hx4] at hr
                repeat' (first
                  | with_reducible refine acc_none ?_
                  | (conv in hold _ => simp (disch := omega) only [go_sem, List.getElem?_map, hx, Option.map_some])
                  | refine Stp.go ?_
                  | with_reducible first | refine it_pos rfl ?_ | refine it_neg (by decide) ?_ | refine st_nil rfl ?_ | refine s_op ?_ ?_ | exact True.intro
                  | ((with_reducible first | refine dw_reg0 ?_ | refine dw_regB ?_); (conv => arg 3; whnf))
                  | (refine Spl.go (fun hq he => ?_) (fun hq he => ?_) <;> first | (exfalso; clear hq; omega) | ((try (first | (conv => arg 8; simp only [hq]) | (conv => arg 4; simp only [hq]))); clear hq))
                  | ((with_reducible first | refine c_split (fun hq => ?_) (fun hq => ?_) | refine q_split (fun hq => ?_) (fun hq => ?_)) <;> (try (first | (conv => arg 8; simp only [hq]) | (conv => arg 4; simp only [hq]))))
                  | (with_reducible refine fin_0 ?_ (by first | rfl | (conv => lhs; simp only [go_sem, List.getElem?_map, hx, Option.map_some])) ?_)
                  | (with_reducible show evC _ _ _ _ _ _ _ _ _ _ _ _
                     first
                     | (refine c_doesE (hr) ?_ ?_ ?_
                        · ((try (conv => rhs; simp (disch := omega) only [go_sem, List.getElem?_map, hx, Option.map_some])); try rfl)
                        · first | rfl | (conv => lhs; simp only [go_sem, List.getElem?_map, hx, Option.map_some])))
                  | exact Sub.refl _
                  | omega)
            · exact (hc (upto0 (P := fun _ x => 0 ≤ x ∧ x ≤ 400) hJ)).elim
        · refine does0 c_impl_RowBound mixed (Nat.le_of_ble_eq_true rfl) ?_
          conv => arg 3; whnf
          repeat' (first
            | with_reducible refine acc_none ?_
            | (conv in hold _ => simp (disch := omega) only [go_sem, e0, e1])
            | refine Stp.go ?_
            | with_reducible first | refine it_pos rfl ?_ | refine it_neg (by decide) ?_ | refine st_nil rfl ?_ | refine s_op ?_ ?_ | exact True.intro
            | ((with_reducible first | refine dw_reg0 ?_ | refine dw_regB ?_); (conv => arg 3; whnf))
            | (refine Spl.go (fun hq he => ?_) (fun hq he => ?_) <;> first | (exfalso; clear hq; omega) | ((try (first | (conv => arg 8; simp only [hq]) | (conv => arg 4; simp only [hq]))); clear hq))
            | ((with_reducible first | refine c_split (fun hq => ?_) (fun hq => ?_) | refine q_split (fun hq => ?_) (fun hq => ?_)) <;> (try (first | (conv => arg 8; simp only [hq]) | (conv => arg 4; simp only [hq]))))
            | (with_reducible refine fin_0 ?_ (by first | rfl | (conv => lhs; simp only [go_sem, e0, e1])) ?_)
            | (with_reducible show evC _ _ _ _ _ _ _ _ _ _ _ _
               first
               | (refine c_doesE (h2) ?_ ?_ ?_
                  · ((try (conv => rhs; simp (disch := omega) only [go_sem, e0, e1])); try rfl)
                  · first | rfl | (conv => lhs; simp only [go_sem, e0, e1])))
            | exact Sub.refl _
            | omega)
          refine dw_for (c := 1) (l := fun i => [(2, intsD cnt), (3, .ref 1000000 0), (20, intsD cnt), (21, I cnt.length), (22, I i), (1000000, .obj [I p.k, I p.t, .sl 5 (p.es.map eD), intsD p.cs, .sl 5 (p.ks.map pD)])]) cnt.length (fun i => ∀ (j : Nat) (x : Int), j < i → cnt[j]? = some x → 0 ≤ x ∧ x ≤ 400) 0 (by omega) (Wk.list [2000003] rfl rfl ?_) (fun i hi hJ => ?_) (Nat.zero_le _)
          · repeat' (first | (conv in hold _ => simp (disch := omega) only [go_sem]) | exact True.intro | exact Sub.refl _ | omega)
            exact rfl
          · rcases at_or_end hi with ⟨x, hx, hlt⟩ | rfl
            · by_cases hx4 : 0 ≤ x ∧ x ≤ 400
              · repeat' (first
                  | with_reducible refine acc_none ?_
                  | (conv in hold _ => simp (disch := omega) only [go_sem, List.getElem?_map, hx, Option.map_some])
                  | refine Stp.go ?_
                  | with_reducible first | refine it_pos rfl ?_ | refine it_neg (by decide) ?_ | refine st_nil rfl ?_ | refine s_op ?_ ?_ | exact True.intro
                  | ((with_reducible first | refine dw_reg0 ?_ | refine dw_regB ?_); (conv => arg 3; whnf))
                  | (refine Spl.go (fun hq he => ?_) (fun hq he => ?_) <;> first | (exfalso; clear hq; omega) | ((try (first | (conv => arg 8; simp only [hq]) | (conv => arg 4; simp only [hq]))); clear hq))
                  | ((with_reducible first | refine c_split (fun hq => ?_) (fun hq => ?_) | refine q_split (fun hq => ?_) (fun hq => ?_)) <;> (try (first | (conv => arg 8; simp only [hq]) | (conv => arg 4; simp only [hq]))))
                  | (with_reducible refine fin_0 ?_ (by first | rfl | (conv => lhs; simp only [go_sem, List.getElem?_map, hx, Option.map_some])) ?_)
                  | exact Sub.refl _
                  | omega)
                refine ⟨hlt, upto1 (P := fun _ x => 0 ≤ x ∧ x ≤ 400) hx hx4 hJ, Wk.list [1000000] rfl rfl ?_⟩
                repeat' (first | (conv in hold _ => simp (disch := omega) only [go_sem]) | exact True.intro | exact Sub.refl _ | omega)
              · repeat' (first
                  | with_reducible refine acc_none ?_
                  | (conv in hold _ => simp (disch := omega) only [go_sem, List.getElem?_map, hx, Option.map_some])
                  | refine Stp.go ?_
                  | with_reducible first | refine it_pos rfl ?_ | refine it_neg (by decide) ?_ | refine st_nil rfl ?_ | refine s_op ?_ ?_ | exact True.intro
                  | ((with_reducible first | refine dw_reg0 ?_ | refine dw_regB ?_); (conv => arg 3; whnf))
                  | (refine Spl.go (fun hq he => ?_) (fun hq he => ?_) <;> first | (exfalso; clear hq; omega) | ((try (first | (conv => arg 8; simp only [hq]) | (conv => arg 4; simp only [hq]))); clear hq))
                  | ((with_reducible first | refine c_split (fun hq => ?_) (fun hq => ?_) | refine q_split (fun hq => ?_) (fun hq => ?_)) <;> (try (first | (conv => arg 8; simp only [hq]) | (conv => arg 4; simp only [hq]))))
                  | (with_reducible refine fin_0 ?_ (by first | rfl | (conv => lhs; simp only [go_sem, List.getElem?_map, hx, Option.map_some])) ?_)
                  | exact Sub.refl _
                  | omega)
            · exact (hc (upto0 (P := fun _ x => 0 ≤ x ∧ x ≤ 400) hJ)).elim
    · have e1 : ((cnt.length : Int) != (ws.length : Int)) = true := by rw [bne_iff_ne]; omega
      refine ⟨-1, ?_, ?_, Or.inr ⟨rfl, fun h => hlen h.1⟩⟩
      · refine does0 c_spec_RowBound mixed (Nat.le_of_ble_eq_true rfl) ?_
        conv => arg 3; whnf
        repeat' (first
          | with_reducible refine acc_none ?_
          | (conv in hold _ => simp (disch := omega) only [go_sem, e0, e1])
          | refine Stp.go ?_
          | with_reducible first | refine it_pos rfl ?_ | refine it_neg (by decide) ?_ | refine st_nil rfl ?_ | refine s_op ?_ ?_ | exact True.intro
          | ((with_reducible first | refine dw_reg0 ?_ | refine dw_regB ?_); (conv => arg 3; whnf))
          | (refine Spl.go (fun hq he => ?_) (fun hq he => ?_) <;> first | (exfalso; clear hq; omega) | ((try (first | (conv => arg 8; simp only [hq]) | (conv => arg 4; simp only [hq]))); clear hq))
          | ((with_reducible first | refine c_split (fun hq => ?_) (fun hq => ?_) | refine q_split (fun hq => ?_) (fun hq => ?_)) <;> (try (first | (conv => arg 8; simp only [hq]) | (conv => arg 4; simp only [hq]))))
          | (with_reducible refine fin_0 ?_ (by first | rfl | (conv => lhs; simp only [go_sem, e0, e1])) ?_)
          | (with_reducible show evC _ _ _ _ _ _ _ _ _ _ _ _
             first
             | (refine c_doesE (h1) ?_ ?_ ?_
                · ((try (conv => rhs; simp (disch := omega) only [go_sem, e0, e1])); try rfl)
                · first | rfl | (conv => lhs; simp only [go_sem, e0, e1])))
          | exact Sub.refl _
          | omega)
      · refine does0 c_impl_RowBound mixed (Nat.le_of_ble_eq_true rfl) ?_
        conv => arg 3; whnf
        repeat' (first
          | with_reducible refine acc_none ?_
          | (conv in hold _ => simp (disch := omega) only [go_sem, e0, e1])
          | refine Stp.go ?_
          | with_reducible first | refine it_pos rfl ?_ | refine it_neg (by decide) ?_ | refine st_nil rfl ?_ | refine s_op ?_ ?_ | exact True.intro
          | ((with_reducible first | refine dw_reg0 ?_ | refine dw_regB ?_); (conv => arg 3; whnf))
          | (refine Spl.go (fun hq he => ?_) (fun hq he => ?_) <;> first | (exfalso; clear hq; omega) | ((try (first | (conv => arg 8; simp only [hq]) | (conv => arg 4; simp only [hq]))); clear hq))
          | ((with_reducible first | refine c_split (fun hq => ?_) (fun hq => ?_) | refine q_split (fun hq => ?_) (fun hq => ?_)) <;> (try (first | (conv => arg 8; simp only [hq]) | (conv => arg 4; simp only [hq]))))
          | (with_reducible refine fin_0 ?_ (by first | rfl | (conv => lhs; simp only [go_sem, e0, e1])) ?_)
          | (with_reducible show evC _ _ _ _ _ _ _ _ _ _ _ _
             first
             | (refine c_doesE (h2) ?_ ?_ ?_
                · ((try (conv => rhs; simp (disch := omega) only [go_sem, e0, e1])); try rfl)
                · first | rfl | (conv => lhs; simp only [go_sem, e0, e1])))
          | exact Sub.refl _
          | omega)

theorem RowBound_ok (p : Pl) (hs : psz p ≤ 1048576) (ws : List Int) (hl : ws.length ≤ 1048576) (cnt : List Int) (hcl : cnt.length ≤ 1048576) : ∃ n : Int, Does Try.prog 12 [] [pD p, intsD ws, intsD cnt] (I n) [] ∧ Does Try.prog 11 [] [pD p, intsD ws, intsD cnt] (I n) [] := by
  rcases RowBound_all p hs ws hl with h | ⟨_, _, h⟩
  · exact ⟨-1, h cnt⟩
  · obtain ⟨n, h1, h2, _⟩ := h cnt hcl
    exact ⟨n, h1, h2⟩
end Go.Proofs.Ytbdpdmojepiepaa
/-
  Drawn plans whose lists are rows of one's own: projections. No condition.
-/
set_option maxHeartbeats 4000000
set_option maxRecDepth 100000
set_option linter.unusedVariables false
set_option linter.unusedSimpArgs false
namespace Go.Proofs.Ytbdpdmojepiepaa
open Go.RowKit

variable {bs : List Nat} {ws : List Int} {p j u d : Nat} {x : Pl} {t k6 c n : Int} {q j1 u1 : Nat}
theorem oplan_proj (h : Pre bs ws p j u d x t k6 c n q j1 u1) (hc : c = 3 ∨ c = 4) {mm : Nat} (hmm : DPick bs (q + 1) 2 mm) (hm1 : mm ≤ 1) {es : List E} {ps : Nat → Nat} (hel : es.length = 1 + mm) (h0 : ps 0 = q + 2) (hes : ∀ i e, es[i]? = some e → DOne bs n (ps i) e (ps (i + 1))) : OPlan bs ws p j u ((d + 1 : Nat) : Int) (.mk 3 0 es [] [x]) (ps (1 + mm)) j1 u1 := by
  obtain ⟨hl, hd, h1, h2, h6, hk, hw, hn, h3, hj, hu⟩ := h
  rcases hc with rfl | rfl
  all_goals
    refine does c_spec_pplanner_planO mixed (Nat.le_of_ble_eq_true rfl) 3 rfl ?_
    conv => arg 3; whnf
    repeat' (first
      | with_reducible refine acc_none ?_
      | (conv in hold _ => simp (disch := omega) only [go_sem])
      | refine Stp.go ?_
      | with_reducible first | refine it_pos rfl ?_ | refine it_neg (by decide) ?_ | refine st_nil rfl ?_ | refine s_op ?_ ?_ | exact True.intro
      | ((with_reducible first | refine dw_reg0 ?_ | refine dw_regB ?_); (conv => arg 3; whnf))
      | (refine Spl.go (fun hq he => ?_) (fun hq he => ?_) <;> first | (exfalso; clear hq; omega) | ((try (first | (conv => arg 8; simp only [hq]) | (conv => arg 4; simp only [hq]))); clear hq))
      | ((with_reducible first | refine c_split (fun hq => ?_) (fun hq => ?_) | refine q_split (fun hq => ?_) (fun hq => ?_)) <;> (try (first | (conv => arg 8; simp only [hq]) | (conv => arg 4; simp only [hq]))))
      | (with_reducible refine fin_0 ?_ (by first | rfl | (conv => lhs; simp only [go_sem])) ?_)
      | (with_reducible show evC _ _ _ _ _ _ _ _ _ _ _ _
         first
         | (refine c_doesR [1000001] (h1) (callOK_of rfl (Nat.le_of_ble_eq_true rfl) rfl ?_ ?_) ?_ ?_
            iterate 2 · repeat' (first | (conv in hold _ => simp (disch := omega) only [go_sem]) | exact True.intro | exact Sub.refl _ | omega)
            · ((conv => rhs; simp (disch := omega) only [go_sem]); try rfl))
         | (refine c_doesR [1000001] (h2) (callOK_of rfl (Nat.le_of_ble_eq_true rfl) rfl ?_ ?_) ?_ ?_
            iterate 2 · repeat' (first | (conv in hold _ => simp (disch := omega) only [go_sem]) | exact True.intro | exact Sub.refl _ | omega)
            · ((conv => rhs; simp (disch := omega) only [go_sem]); try rfl))
         | (refine c_doesR [1000000, 1000001, 1000002] (hk) (callOK_of rfl (Nat.le_of_ble_eq_true rfl) rfl ?_ ?_) ?_ ?_
            iterate 2 · repeat' (first | (conv in hold _ => simp (disch := omega) only [go_sem]) | exact True.intro | exact Sub.refl _ | omega)
            · ((conv => rhs; simp (disch := omega) only [go_sem]); try rfl))
         | (refine c_doesR [1000002] (hw) (callOK_of rfl (Nat.le_of_ble_eq_true rfl) rfl ?_ ?_) ?_ ?_
            iterate 2 · repeat' (first | (conv in hold _ => simp (disch := omega) only [go_sem]) | exact True.intro | exact Sub.refl _ | omega)
            · ((conv => rhs; simp (disch := omega) only [go_sem]); try rfl))
         | (refine c_doesR [1000001] (h3) (callOK_of rfl (Nat.le_of_ble_eq_true rfl) rfl ?_ ?_) ?_ ?_
            iterate 2 · repeat' (first | (conv in hold _ => simp (disch := omega) only [go_sem]) | exact True.intro | exact Sub.refl _ | omega)
            · ((conv => rhs; simp (disch := omega) only [go_sem]); try rfl))
         | (refine c_doesR [1000001] (hmm) (callOK_of rfl (Nat.le_of_ble_eq_true rfl) rfl ?_ ?_) ?_ ?_
            iterate 2 · repeat' (first | (conv in hold _ => simp (disch := omega) only [go_sem]) | exact True.intro | exact Sub.refl _ | omega)
            · ((conv => rhs; simp (disch := omega) only [go_sem]); try rfl)))
      | exact Sub.refl _
      | omega)
    refine dw_for (c := 6) (l := fun i => [(4, .ref 1000003 0), (5, .ref 1000001 0), (7, .ref 1000004 0), (8, I n), (9, .own 1000005 5 i), (10, I (1 + (mm : Int) - i)), (1000000, gnD ws j1 u1), (1000001, rdD bs (ps i)), (1000002, wrD ws), (1000003, .obj [I 0, I 0, .nul, .nul, .nul]), (1000004, .obj [I x.k, I x.t, .sl 5 (x.es.map eD), .sl 1 (x.cs.map I), .sl 5 (x.ks.map pD)]), (1000005, .row 5 ((es.take i).map eD))]) (1 + mm) (fun _ => True) 0 trivial ((wk_row 9 2000099 5 (by decide) (by decide) rfl rfl).trans (Wk.list [1000000, 1000001, 1000002, 2000004, 2000007, 2000099] rfl rfl ?_)) (fun i hi _ => ?_) (Nat.zero_le _)
    · rw [h0]
      repeat' (first | (conv in hold _ => simp (disch := omega) only [go_sem]) | exact True.intro | exact Sub.refl _ | omega)
      exact congrArg (fun n => D.v (Value.int .i64 n)) (by omega)
    · have hlt := take_len (vs := es) (i := i) (by omega)
      have hmt := take_map eD (vs := es) (i := i) (by omega)
      by_cases hil : i < 1 + mm
      · obtain ⟨e, he1⟩ : ∃ e, es[i]? = some e := ⟨es[i], List.getElem?_eq_getElem (by omega)⟩
        obtain ⟨⟨dd, hx1, hx2⟩, _⟩ := hes i e he1
        have hnx := take_next he1
        repeat' (first
          | with_reducible refine acc_none ?_
          | (conv in hold _ => simp (disch := omega) only [go_sem])
          | refine Stp.go ?_
          | with_reducible first | refine it_pos rfl ?_ | refine it_neg (by decide) ?_ | refine st_nil rfl ?_ | refine s_op ?_ ?_ | exact True.intro
          | ((with_reducible first | refine dw_reg0 ?_ | refine dw_regB ?_); (conv => arg 3; whnf))
          | (refine Spl.go (fun hq he => ?_) (fun hq he => ?_) <;> first | (exfalso; clear hq; omega) | ((try (first | (conv => arg 8; simp only [hq]) | (conv => arg 4; simp only [hq]))); clear hq))
          | ((with_reducible first | refine c_split (fun hq => ?_) (fun hq => ?_) | refine q_split (fun hq => ?_) (fun hq => ?_)) <;> (try (first | (conv => arg 8; simp only [hq]) | (conv => arg 4; simp only [hq]))))
          | (with_reducible refine fin_0 ?_ (by first | rfl | (conv => lhs; simp only [go_sem])) ?_)
          | (with_reducible show evC _ _ _ _ _ _ _ _ _ _ _ _
             first
             | (refine c_doesR [1000001] (hx1) (callOK_of rfl (Nat.le_of_ble_eq_true rfl) rfl ?_ ?_) ?_ ?_
                iterate 2 · repeat' (first | (conv in hold _ => simp (disch := omega) only [go_sem]) | exact True.intro | exact Sub.refl _ | omega)
                · ((conv => rhs; simp (disch := omega) only [go_sem]); try rfl))
             | (refine c_doesR [1000001] (hx2) (callOK_of rfl (Nat.le_of_ble_eq_true rfl) rfl ?_ ?_) ?_ ?_
                iterate 2 · repeat' (first | (conv in hold _ => simp (disch := omega) only [go_sem]) | exact True.intro | exact Sub.refl _ | omega)
                · ((conv => rhs; simp (disch := omega) only [go_sem]); try rfl)))
          | exact Sub.refl _
          | omega)
        refine ⟨by omega, trivial, Wk.list [1000000, 1000001, 1000002, 1000003, 1000004, 2000072] rfl rfl ?_⟩
        repeat' (first | (conv in hold _ => simp (disch := omega) only [go_sem]) | exact True.intro | exact Sub.refl _ | omega)
        refine ⟨congrArg (fun n => D.v (Value.int .i64 n)) (by omega), ?_⟩
        rw [hmt, hnx, List.map_append, List.map_cons, List.map_nil, eD_eq e]
      · obtain rfl : i = 1 + mm := by omega
        have e1 : es.take (1 + mm) = es := List.take_of_length_le (by omega)
        have e2 : (es.map eD).take (1 + mm) = es.map eD := List.take_of_length_le (by rw [List.length_map]; omega)
        repeat' (first
          | with_reducible refine acc_none ?_
          | (conv in hold _ => simp (disch := omega) only [go_sem, e1])
          | refine Stp.go ?_
          | with_reducible first | refine it_pos rfl ?_ | refine it_neg (by decide) ?_ | refine st_nil rfl ?_ | refine s_op ?_ ?_ | exact True.intro
          | ((with_reducible first | refine dw_reg0 ?_ | refine dw_regB ?_); (conv => arg 3; whnf))
          | (refine Spl.go (fun hq he => ?_) (fun hq he => ?_) <;> first | (exfalso; clear hq; omega) | ((try (first | (conv => arg 8; simp only [hq]) | (conv => arg 4; simp only [hq]))); clear hq))
          | ((with_reducible first | refine c_split (fun hq => ?_) (fun hq => ?_) | refine q_split (fun hq => ?_) (fun hq => ?_)) <;> (try (first | (conv => arg 8; simp only [hq]) | (conv => arg 4; simp only [hq]))))
          | exact Sub.refl _
          | omega)
        refine fin_wk (wk_rowO 1000003 2000099 1 3 (by decide) (by decide) (by decide) rfl rfl rfl) ?_
        (conv in hold _ => simp (disch := omega) only [go_sem, e1, e2])
        refine fin_L [1000000, 1000001, 1000002, 1000005, 2000099] ?_ ?_ rfl ?_
        repeat' (first | (conv in hold _ => simp (disch := omega) only [go_sem, e1, e2]) | exact True.intro | exact Sub.refl _ | omega)
        exact Sub.of_eq (by rw [hel])
end Go.Proofs.Ytbdpdmojepiepaa
/-
  Drawn plans. No condition.
-/
set_option maxHeartbeats 4000000
set_option maxRecDepth 100000
set_option linter.unusedVariables false
set_option linter.unusedSimpArgs false
namespace Go.Proofs.Ytbdpdmojepiepaa
open Go.RowKit

/-- How large a drawn plan is, how far the reader goes; S and K: those of the other kid of a join. -/
def pzb (S : Nat) : Nat → Nat
  | 0 => 0
  | d + 1 => 2 * pzb S d + S + 100
def prb (K : Nat) : Nat → Nat
  | 0 => 10
  | d + 1 => prb K d + K + 1000
theorem psz_one (k t : Int) (es : List E) (cs : List Int) (x : Pl) : psz (.mk k t es cs [x]) = eszL es + cs.length + (1 + psz x) := by
  rw [psz, pszL, pszL]; omega
theorem psz_two (k t : Int) (es : List E) (cs : List Int) (x y : Pl) : psz (.mk k t es cs [x, y]) = eszL es + cs.length + (1 + psz x + (1 + psz y)) := by
  rw [psz, pszL, pszL, pszL]; omega
theorem eszL_1 (e : E) : eszL [e] = esz e := by rw [eszL, eszL]; omega
theorem psz_scan (t : Int) : psz (.mk 1 t [] [] []) = 0 := by rw [psz, eszL, pszL]; rfl
/-- A plan is drawn from here. -/
def PlanAt (bs : List Nat) (ws : List Int) (p j u d : Nat) (S K : Nat) : Prop := ∃ (x : Pl) (q j' u' : Nat), (DPlan bs ws p j u d x q j' u' ∧ OPlan bs ws p j u d x q j' u') ∧ p ≤ q ∧ q ≤ p + K ∧ psz x ≤ S ∧ j' ≤ j ∧ u' ≤ u
theorem pD_pur (x : Pl) : (pD x).pur = true := by
  have := plans_pur [x]
  rw [List.map_cons, D.purL, Bool.and_eq_true] at this
  exact this.1
theorem wid_of {ws : List Int} (hw : wsOk ws) (x : Pl) (hx : psz x ≤ 900000) : ∃ n : Int, (0 ≤ n ∧ n ≤ 6) ∧ DWid ws x n := by
  obtain ⟨n, hn, h, _⟩ := width_ok hw x (by omega) 8 (by omega)
  exact ⟨n, hn, Does.lent (H := [wrD ws]) (ds := [pD x, .own 1000000 1 ws.length, I 8]) h rfl (Lent.cons (.same _ (pD_pur x)) (Lent.cons (Lent.row 0 rfl (List.length_map ..) _ rfl) (Lent.one (.same _ rfl)))) (flats_1 (flat_ints _)) flats_0 rfl⟩
theorem plan_ind {bs : List Nat} (hs : Src bs) {ws : List Int} (hw : wsOk ws) (S K j T : Nat) (hT : T ≤ 250000000) (hj : j ≤ 1) (hoth : j = 1 → ∀ (u d p : Nat), u ≤ 1 → d ≤ 1 → p < T → PlanAt bs ws p 0 u d S K) :
    ∀ (d u p : Nat), u ≤ 1 → d ≤ 100 → p + prb K d < T → pzb S d ≤ 400000 → PlanAt bs ws p j u d (pzb S d) (prb K d) := by
  have hl := hw.1
  intro d
  induction d with
  | zero =>
    intro u p hu hd hp hz
    rw [prb] at hp
    obtain ⟨t, h1, _⟩ := pick_ok hs p (by omega) ws.length (by omega)
    exact ⟨_, _, _, _, ⟨plan_zero (by omega) h1, oplan_zero (by omega) h1⟩, by omega, by rw [prb]; omega, by rw [psz_scan]; exact Nat.zero_le _, Nat.le_refl _, Nat.le_refl _⟩
  | succ d ih =>
    intro u p hu hd hp hz
    rw [prb] at hp
    rw [pzb] at hz
    obtain ⟨t, h1, _⟩ := pick_ok hs p (by omega) ws.length (by omega)
    obtain ⟨k6, h2, _⟩ := pick_ok hs (p + 1) (by omega) 6 (by omega)
    by_cases h6 : k6 = 0
    · subst h6
      exact ⟨_, _, _, _, ⟨plan_scan (by omega) d h1 h2, oplan_scan (by omega) d h1 h2⟩, by omega, by rw [prb]; omega, by rw [psz_scan]; exact Nat.zero_le _, Nat.le_refl _, Nat.le_refl _⟩
    obtain ⟨x, q, j1, u1, ⟨hk, _⟩, hq0, hq1, hxs, hj1, hu1⟩ := ih u (p + 2) hu (by omega) (by omega) (by omega)
    obtain ⟨n, hn, hwx⟩ := wid_of hw x (by omega)
    obtain ⟨c, h3, c0, c1, _⟩ := pick_ok hs q (by omega) 10 (by omega)
    have hc9 := c1 (by omega)
    have hpre : Pre bs ws p j u d x t k6 c n q j1 u1 := ⟨by omega, by omega, h1, h2, h6, hk, hwx, hn, h3, by omega, by omega⟩
    obtain ⟨e, q2, hce, he0, he1, hez⟩ := randomCondition_ok hs n (by omega) (q + 1) (by omega)
    have hfz : psz (.mk 2 0 [e] [] [x]) = esz e + 0 + (1 + psz x) := by rw [psz_one, eszL_1]; rfl
    rw [PlanAt, prb, pzb]
    by_cases hA : c = 0 ∨ c = 1 ∨ c = 2
    · exact ⟨_, _, _, _, ⟨plan_fil hpre hA hce, oplan_fil hpre hA hce⟩, by omega, by omega, by omega, hj1, hu1⟩
    by_cases hB : c = 3 ∨ c = 4
    · obtain ⟨mm, hmm, m0, m1, _⟩ := pick_ok hs (q + 1) (by omega) 2 (by omega)
      have hm1 := m1 (by omega)
      obtain ⟨m, rfl⟩ := Int.eq_ofNat_of_zero_le m0
      obtain ⟨es, ps, hel, h0, hes, hp0, hp1⟩ := draws (DOne bs n) 600000000 60 (fun p hp => one_drawn hs n (by omega) p hp) (1 + m) (q + 2) (by omega)
      have hpj := plan_proj hpre hB hmm (by omega) hel h0 hes
      have hpo := oplan_proj hpre hB hmm (by omega) hel h0 hes
      have hez := eszL_bound es (fun i e he => (hes i e he).2)
      refine ⟨_, _, _, _, ⟨hpj, hpo⟩, by omega, by omega, ?_, hj1, hu1⟩
      rw [psz_one]
      show eszL es + 0 + (1 + psz x) ≤ _
      rw [hel] at hez
      omega
    by_cases hC : (c = 5 ∨ c = 6) ∧ 0 < j1 ∧ n ≤ 4
    · obtain ⟨hc5, hj0, hn4⟩ := hC
      obtain ⟨dd, hdd, d0, d1, _⟩ := pick_ok hs (q + 1) (by omega) 2 (by omega)
      have hd1 := d1 (by omega)
      obtain ⟨m, rfl⟩ := Int.eq_ofNat_of_zero_le d0
      have hj11 : j1 - 1 = 0 := by omega
      obtain ⟨y, q3, j2, u2, ⟨hy, _⟩, hy0, hy1, hyz, hj2, hu2⟩ := hoth (by omega) u1 m (q + 2) (by omega) (by omega) (by omega)
      rw [← hj11] at hy
      obtain ⟨n2, hn2, hwy⟩ := wid_of hw y (by omega)
      by_cases hwide : n + n2 ≤ 6
      · obtain ⟨k, hkk, _⟩ := one_ok hs q3 (by omega) [4, 5] (by decide) (by decide)
        obtain ⟨e', q4, hce', he0', he1', hez'⟩ := randomCondition_ok hs (n + n2) (by omega) (q3 + 1) (by omega)
        have hjz : psz (.mk k 0 [e'] [] [x, y]) = esz e' + 0 + (1 + psz x + (1 + psz y)) := by rw [psz_two, eszL_1]; rfl
        exact ⟨_, _, _, _, ⟨plan_join hpre hc5 hj0 hn4 hdd hy hwy hn2 hwide hkk hce', oplan_join hpre hc5 hj0 hn4 hdd hy hwy hn2 hwide hkk hce'⟩, by omega, by omega, by omega, by omega, by omega⟩
      · obtain ⟨e', q4, hce', he0', he1', hez'⟩ := randomCondition_ok hs n (by omega) q3 (by omega)
        have hfz' : psz (.mk 2 0 [e'] [] [x]) = esz e' + 0 + (1 + psz x) := by rw [psz_one, eszL_1]; rfl
        exact ⟨_, _, _, _, ⟨plan_wide hpre hc5 hj0 hn4 hdd hy hwy hn2 hwide hce', oplan_wide hpre hc5 hj0 hn4 hdd hy hwy hn2 hwide hce'⟩, by omega, by omega, by omega, by omega, by omega⟩
    by_cases hD : c = 7 ∧ 0 < u1
    · have huz : psz (.mk 6 0 [] [] [x, .mk 2 0 [e] [] [x]]) = 0 + 0 + (1 + psz x + (1 + psz (.mk 2 0 [e] [] [x]))) := by rw [psz_two]; rfl
      exact ⟨_, _, _, _, ⟨plan_uni hpre hD.1 hD.2 (by omega) hce, oplan_uni hpre hD.1 hD.2 (by omega) hce⟩, by omega, by omega, by omega, hj1, by omega⟩
    by_cases hE : c = 8
    · have hdz : psz (.mk 7 0 [] [] [x]) = 0 + 0 + (1 + psz x) := by rw [psz_one]; rfl
      exact ⟨_, _, _, _, ⟨plan_dist hpre hE, oplan_dist hpre hE⟩, by omega, by omega, by omega, hj1, hu1⟩
    by_cases hF : c = 9
    · by_cases hn1 : 1 < n
      · obtain ⟨g, hg, _⟩ := pick_ok hs (q + 1) (by omega) n (by omega)
        have hgz : psz (.mk 8 0 [] [g] [x]) = 0 + 1 + (1 + psz x) := by rw [psz_one]; rfl
        exact ⟨_, _, _, _, ⟨plan_grpc hpre hF hn1 hg, oplan_grpc hpre hF hn1 hg⟩, by omega, by omega, by omega, hj1, hu1⟩
      · have hgz : psz (.mk 8 0 [] [] [x]) = 0 + 0 + (1 + psz x) := by rw [psz_one]; rfl
        exact ⟨_, _, _, _, ⟨plan_grp hpre hF hn1, oplan_grp hpre hF hn1⟩, by omega, by omega, by omega, hj1, hu1⟩
    · have hdf : ((c = 5 ∨ c = 6) ∧ ¬ (0 < j1 ∧ n ≤ 4)) ∨ (c = 7 ∧ u1 = 0) := by
        by_cases h5 : c = 5 ∨ c = 6
        · exact Or.inl ⟨h5, fun h => hC ⟨h5, h.1, h.2⟩⟩
        · have h7 : c = 7 := by omega
          refine Or.inr ⟨h7, ?_⟩
          by_cases h0 : 0 < u1
          · exact (hD ⟨h7, h0⟩).elim
          · omega
      exact ⟨_, _, _, _, ⟨plan_def hpre hdf hce, oplan_def hpre hdf hce⟩, by omega, by omega, by omega, hj1, hu1⟩
theorem PlanAt.wide {bs : List Nat} {ws : List Int} {p j u d S K S' K' : Nat} (h : PlanAt bs ws p j u d S K) (hS : S ≤ S') (hK : K ≤ K') : PlanAt bs ws p j u d S' K' := by
  obtain ⟨x, q, j', u', h0, h1, h2, h3, h4, h5⟩ := h
  exact ⟨x, q, j', u', h0, h1, by omega, by omega, h4, h5⟩
theorem plan_any {bs : List Nat} (hs : Src bs) {ws : List Int} (hw : wsOk ws) (d p : Nat) (hd : d ≤ 4) (hp : p < 200000000) : PlanAt bs ws p 1 1 d 10000 20000 := by
  have z : ∀ d, d ≤ 4 → pzb 0 d ≤ 1500 ∧ prb 0 d ≤ 4010 := by decide
  have z2 : ∀ d, d ≤ 4 → pzb 1500 d ≤ 30000 ∧ prb 4010 d ≤ 30000 := by decide
  have z3 : pzb 0 1 ≤ 100 ∧ prb 0 1 ≤ 1010 := by decide
  have z4 : ∀ d, d ≤ 4 → pzb 100 d ≤ 10000 ∧ prb 1010 d ≤ 20000 := by decide
  have h0 : ∀ (u d p : Nat), u ≤ 1 → d ≤ 1 → p < 240000000 → PlanAt bs ws p 0 u d 100 1010 := fun u d p hu hd hp => by
    have hd' : d = 0 ∨ d = 1 := by omega
    have z5 := z d (by omega)
    refine (plan_ind hs hw 0 0 0 250000000 (by omega) (by omega) (fun h => by omega) d u p hu (by omega) (by omega) (by omega)).wide ?_ ?_
    · rcases hd' with rfl | rfl
      · decide
      · exact z3.1
    · rcases hd' with rfl | rfl
      · decide
      · exact z3.2
  have z6 := z4 d hd
  exact (plan_ind hs hw 100 1010 1 240000000 (by omega) (by omega) (fun _ u d p hu hd hp => h0 u d p hu hd hp) d 1 p (by omega) (by omega) (by omega) (by omega)).wide z6.1 z6.2
end Go.Proofs.Ytbdpdmojepiepaa
/-
  Drawn plans with widths. No condition.
-/
set_option maxHeartbeats 4000000
set_option maxRecDepth 100000
set_option linter.unusedVariables false
set_option linter.unusedSimpArgs false
namespace Go.Proofs.Ytbdpdmojepiepaa
open Go.RowKit

theorem randomWidths_own {bs : List Nat} (hs : Src bs) (p : Nat) (hp : p < 100000000) : ∃ (ws : List Int) (q : Nat), (Does Try.prog 54 [rdD bs p] [.ref 1000000 0] (.own 1000001 1 ws.length) [rdD bs q, wrD ws] ∧ (2 ≤ ws.length ∧ ws.length ≤ 3) ∧ ∀ (i : Nat) (w : Int), ws[i]? = some w → 1 ≤ w ∧ w ≤ 2) ∧ p ≤ q ∧ q ≤ p + 10 := by
  obtain ⟨k, hk, k0, k1, _⟩ := pick_ok hs p (by omega) 2 (by omega)
  have hk1 := k1 (by omega)
  obtain ⟨m, rfl⟩ := Int.eq_ofNat_of_zero_le k0
  obtain ⟨ws, ps, hl, h0, hd, hp0, hp1⟩ := draws (fun p (w : Int) q => q = p + 1 ∧ DPick bs p 2 (w - 1) ∧ 1 ≤ w ∧ w ≤ 2) 900000000 1 (fun p hp => by
    obtain ⟨v, hv, v0, v1, _⟩ := pick_ok hs p (by omega) 2 (by omega)
    have hv1 := v1 (by omega)
    refine ⟨v + 1, p + 1, ⟨rfl, by rw [show v + 1 - 1 = v by omega]; exact hv, by omega, by omega⟩, by omega, by omega⟩) (2 + m) (p + 1) (by omega)
  refine ⟨ws, ps (2 + m), ⟨?_, by omega, fun i w hi => (hd i w hi).2.2⟩, by omega, by omega⟩
  refine does c_spec_randomWidths mixed (Nat.le_of_ble_eq_true rfl) 1 rfl ?_
  conv => arg 3; whnf
  repeat' (first
    | with_reducible refine acc_none ?_
    | (conv in hold _ => simp (disch := omega) only [go_sem])
    | refine Stp.go ?_
    | with_reducible first | refine it_pos rfl ?_ | refine it_neg (by decide) ?_ | refine st_nil rfl ?_ | refine s_op ?_ ?_ | exact True.intro
    | ((with_reducible first | refine dw_reg0 ?_ | refine dw_regB ?_); (conv => arg 3; whnf))
    | (refine Spl.go (fun hq he => ?_) (fun hq he => ?_) <;> first | (exfalso; clear hq; omega) | ((try (first | (conv => arg 8; simp only [hq]) | (conv => arg 4; simp only [hq]))); clear hq))
    | ((with_reducible first | refine c_split (fun hq => ?_) (fun hq => ?_) | refine q_split (fun hq => ?_) (fun hq => ?_)) <;> (try (first | (conv => arg 8; simp only [hq]) | (conv => arg 4; simp only [hq]))))
    | (with_reducible refine fin_0 ?_ (by first | rfl | (conv => lhs; simp only [go_sem])) ?_)
    | (with_reducible show evC _ _ _ _ _ _ _ _ _ _ _ _
       first
       | (refine c_doesR [1000000] (hk) (callOK_of rfl (Nat.le_of_ble_eq_true rfl) rfl ?_ ?_) ?_ ?_
          iterate 2 · repeat' (first | (conv in hold _ => simp (disch := omega) only [go_sem]) | exact True.intro | exact Sub.refl _ | omega)
          · ((conv => rhs; simp (disch := omega) only [go_sem]); try rfl)))
    | exact Sub.refl _
    | omega)
  refine dw_for (c := 2) (l := fun i => [(0, .ref 1000000 0), (3, .own 1000001 1 i), (4, I (2 + (m : Int) - i)), (1000000, rdD bs (ps i)), (1000001, .row 1 ((ws.take i).map I))]) (2 + m) (fun _ => True) 0 trivial ((wk_row 3 2000018 1 (by decide) (by decide) rfl rfl).trans (Wk.list [1000000, 2000018] rfl rfl ?_)) (fun i hi _ => ?_) (Nat.zero_le _)
  · rw [h0]
    repeat' (first | (conv in hold _ => simp (disch := omega) only [go_sem]) | exact True.intro | exact Sub.refl _ | omega)
    exact congrArg (fun n => D.v (Value.int .i64 n)) (by omega)
  · have hlt := take_len (vs := ws) (i := i) (by omega)
    have hmt := take_map I (vs := ws) (i := i) (by omega)
    by_cases hil : i < 2 + m
    · obtain ⟨w, hw⟩ : ∃ w, ws[i]? = some w := ⟨ws[i], List.getElem?_eq_getElem (by omega)⟩
      obtain ⟨x1, x2, x3, x4⟩ := hd i w hw
      have hnx := take_next hw
      have hw1 : 1 + (w - 1) = w := by omega
      repeat' (first
        | with_reducible refine acc_none ?_
        | (conv in hold _ => simp (disch := omega) only [go_sem, hw1])
        | refine Stp.go ?_
        | with_reducible first | refine it_pos rfl ?_ | refine it_neg (by decide) ?_ | refine st_nil rfl ?_ | refine s_op ?_ ?_ | exact True.intro
        | ((with_reducible first | refine dw_reg0 ?_ | refine dw_regB ?_); (conv => arg 3; whnf))
        | (refine Spl.go (fun hq he => ?_) (fun hq he => ?_) <;> first | (exfalso; clear hq; omega) | ((try (first | (conv => arg 8; simp only [hq]) | (conv => arg 4; simp only [hq]))); clear hq))
        | ((with_reducible first | refine c_split (fun hq => ?_) (fun hq => ?_) | refine q_split (fun hq => ?_) (fun hq => ?_)) <;> (try (first | (conv => arg 8; simp only [hq]) | (conv => arg 4; simp only [hq]))))
        | (with_reducible refine fin_0 ?_ (by first | rfl | (conv => lhs; simp only [go_sem, hw1])) ?_)
        | (with_reducible show evC _ _ _ _ _ _ _ _ _ _ _ _
           first
           | (refine c_doesR [1000000] (x2) (callOK_of rfl (Nat.le_of_ble_eq_true rfl) rfl ?_ ?_) ?_ ?_
              iterate 2 · repeat' (first | (conv in hold _ => simp (disch := omega) only [go_sem, hw1]) | exact True.intro | exact Sub.refl _ | omega)
              · ((conv => rhs; simp (disch := omega) only [go_sem, hw1]); try rfl)))
        | exact Sub.refl _
        | omega)
      refine ⟨by omega, trivial, Wk.list [1000000, 2000018] rfl rfl ?_⟩
      repeat' (first | (conv in hold _ => simp (disch := omega) only [go_sem, hw1, x1]) | exact True.intro | exact Sub.refl _ | omega)
      refine ⟨congrArg (fun n => D.v (Value.int .i64 n)) (by omega), ?_⟩
      rw [hmt, hnx, List.map_append]
      rfl
    · obtain rfl : i = 2 + m := by omega
      have e1 : ws.take (2 + m) = ws := List.take_of_length_le (by omega)
      have e2 : (ws.map I).take (2 + m) = ws.map I := List.take_of_length_le (by rw [List.length_map]; omega)
      have hl2 : ws.length = 2 + m := hl
      rw [hl2]
      repeat' (first
        | with_reducible refine acc_none ?_
        | (conv in hold _ => simp (disch := omega) only [go_sem, e1])
        | refine Stp.go ?_
        | with_reducible first | refine it_pos rfl ?_ | refine it_neg (by decide) ?_ | refine st_nil rfl ?_ | refine s_op ?_ ?_ | exact True.intro
        | ((with_reducible first | refine dw_reg0 ?_ | refine dw_regB ?_); (conv => arg 3; whnf))
        | (refine Spl.go (fun hq he => ?_) (fun hq he => ?_) <;> first | (exfalso; clear hq; omega) | ((try (first | (conv => arg 8; simp only [hq]) | (conv => arg 4; simp only [hq]))); clear hq))
        | ((with_reducible first | refine c_split (fun hq => ?_) (fun hq => ?_) | refine q_split (fun hq => ?_) (fun hq => ?_)) <;> (try (first | (conv => arg 8; simp only [hq]) | (conv => arg 4; simp only [hq]))))
        | (with_reducible refine fin_0 ?_ (by first | rfl | (conv => lhs; simp only [go_sem, e1])) ?_)
        | exact Sub.refl _
        | omega)
      refine fin_L [1000000, 1000001] ?_ ?_ rfl ?_
      repeat' (first | (conv in hold _ => simp (disch := omega) only [go_sem, e1, e2]) | exact True.intro | exact Sub.refl _ | omega)
      all_goals (try rw [e2])
theorem randomPlan_own {bs : List Nat} (hs : Src bs) {ws : List Int} (hw : wsOk ws) (p : Nat) (hp : p < 100000000) : ∃ (x : Pl) (q : Nat), Does Try.prog 82 [rdD bs p, wrD ws] [.ref 1000000 0, .own 1000001 1 ws.length] (rootD 1000002 1000003 x) [rdD bs q, wrD ws, esR x, csR x] ∧ p ≤ q ∧ q ≤ p + 21000 ∧ psz x ≤ 11000 := by
  obtain ⟨k, hk, k0, k1, _⟩ := pick_ok hs p (by omega) 4 (by omega)
  have hk1 := k1 (by omega)
  obtain ⟨m, rfl⟩ := Int.eq_ofNat_of_zero_le k0
  obtain ⟨x, q, j', u', ⟨hD, hO⟩, hq0, hq1, hz, _, _⟩ := plan_any hs hw (m + 1) (p + 1) (by omega) (by omega)
  have hm1 : ((m + 1 : Nat) : Int) = 1 + (m : Int) := by omega
  unfold DPlan at hD
  unfold OPlan at hO
  rw [hm1] at hD hO
  have hg : gnD ws 1 1 = .obj [.ref 1000001 0, .own 1000002 1 ws.length, I 1, I 1] := rfl
  rw [hg] at hD hO
  obtain ⟨kk, hkk, _⟩ := pick_ok hs q (by omega) 2 (by omega)
  by_cases hkk0 : kk = 0
  · subst hkk0
    obtain ⟨n, hn, hwx⟩ := wid_of hw x (by omega)
    obtain ⟨e, q2, hce, he0, he1, hez⟩ := randomCondition_ok hs n (by omega) (q + 1) (by omega)
    have hf := filterOf_own e x
    have hfz : psz (.mk 2 0 [e] [] [x]) = esz e + 0 + (1 + psz x) := by rw [psz_one, eszL_1]; rfl
    refine ⟨.mk 2 0 [e] [] [x], q2, ?_, by omega, by omega, by omega⟩
    refine does c_spec_randomPlan mixed (Nat.le_of_ble_eq_true rfl) 2 rfl ?_
    conv => arg 3; whnf
    repeat' (first
      | with_reducible refine acc_none ?_
      | (conv in hold _ => simp (disch := omega) only [go_sem])
      | refine Stp.go ?_
      | with_reducible first | refine it_pos rfl ?_ | refine it_neg (by decide) ?_ | refine st_nil rfl ?_ | refine s_op ?_ ?_ | exact True.intro
      | ((with_reducible first | refine dw_reg0 ?_ | refine dw_regB ?_); (conv => arg 3; whnf))
      | (refine Spl.go (fun hq he => ?_) (fun hq he => ?_) <;> first | (exfalso; clear hq; omega) | ((try (first | (conv => arg 8; simp only [hq]) | (conv => arg 4; simp only [hq]))); clear hq))
      | ((with_reducible first | refine c_split (fun hq => ?_) (fun hq => ?_) | refine q_split (fun hq => ?_) (fun hq => ?_)) <;> (try (first | (conv => arg 8; simp only [hq]) | (conv => arg 4; simp only [hq]))))
      | (with_reducible refine fin_0 ?_ (by first | rfl | (conv => lhs; simp only [go_sem])) ?_)
      | (with_reducible show evC _ _ _ _ _ _ _ _ _ _ _ _
         first
         | (refine c_doesR [1000000] (hk) (callOK_of rfl (Nat.le_of_ble_eq_true rfl) rfl ?_ ?_) ?_ ?_
            iterate 2 · repeat' (first | (conv in hold _ => simp (disch := omega) only [go_sem]) | exact True.intro | exact Sub.refl _ | omega)
            · ((conv => rhs; simp (disch := omega) only [go_sem]); try rfl))
         | (refine c_doesR [2000010, 1000000, 1000001] (hD) (callOK_of rfl (Nat.le_of_ble_eq_true rfl) rfl ?_ ?_) ?_ ?_
            iterate 2 · repeat' (first | (conv in hold _ => simp (disch := omega) only [go_sem]) | exact True.intro | exact Sub.refl _ | omega)
            · ((conv => rhs; simp (disch := omega) only [go_sem]); try rfl))
         | (refine c_doesR [1000000] (hkk) (callOK_of rfl (Nat.le_of_ble_eq_true rfl) rfl ?_ ?_) ?_ ?_
            iterate 2 · repeat' (first | (conv in hold _ => simp (disch := omega) only [go_sem]) | exact True.intro | exact Sub.refl _ | omega)
            · ((conv => rhs; simp (disch := omega) only [go_sem]); try rfl))
         | (refine c_doesR [1000001] (hwx) (callOK_of rfl (Nat.le_of_ble_eq_true rfl) rfl ?_ ?_) ?_ ?_
            iterate 2 · repeat' (first | (conv in hold _ => simp (disch := omega) only [go_sem]) | exact True.intro | exact Sub.refl _ | omega)
            · ((conv => rhs; simp (disch := omega) only [go_sem]); try rfl))
         | (refine c_doesR [1000000] (hce) (callOK_of rfl (Nat.le_of_ble_eq_true rfl) rfl ?_ ?_) ?_ ?_
            iterate 2 · repeat' (first | (conv in hold _ => simp (disch := omega) only [go_sem]) | exact True.intro | exact Sub.refl _ | omega)
            · ((conv => rhs; simp (disch := omega) only [go_sem]); try rfl))
         | (refine c_doesR [3000001, 3000002] (hf) (callOK_of rfl (Nat.le_of_ble_eq_true rfl) rfl ?_ ?_) ?_ ?_
            iterate 2 · repeat' (first | (conv in hold _ => simp (disch := omega) only [go_sem]) | exact True.intro | exact Sub.refl _ | omega)
            · ((conv => rhs; simp (disch := omega) only [go_sem]); try rfl)))
      | exact Sub.refl _
      | omega)
    refine fin_L [1000000, 1000001, 3000001, 3000002] ?_ ?_ rfl ?_
    repeat' (first | (conv in hold _ => simp (disch := omega) only [go_sem]) | exact True.intro | exact Sub.refl _ | omega)
  · refine ⟨x, q + 1, ?_, by omega, by omega, by omega⟩
    refine does c_spec_randomPlan mixed (Nat.le_of_ble_eq_true rfl) 2 rfl ?_
    conv => arg 3; whnf
    repeat' (first
      | with_reducible refine acc_none ?_
      | (conv in hold _ => simp (disch := omega) only [go_sem])
      | refine Stp.go ?_
      | with_reducible first | refine it_pos rfl ?_ | refine it_neg (by decide) ?_ | refine st_nil rfl ?_ | refine s_op ?_ ?_ | exact True.intro
      | ((with_reducible first | refine dw_reg0 ?_ | refine dw_regB ?_); (conv => arg 3; whnf))
      | (refine Spl.go (fun hq he => ?_) (fun hq he => ?_) <;> first | (exfalso; clear hq; omega) | ((try (first | (conv => arg 8; simp only [hq]) | (conv => arg 4; simp only [hq]))); clear hq))
      | ((with_reducible first | refine c_split (fun hq => ?_) (fun hq => ?_) | refine q_split (fun hq => ?_) (fun hq => ?_)) <;> (try (first | (conv => arg 8; simp only [hq]) | (conv => arg 4; simp only [hq]))))
      | (with_reducible refine fin_0 ?_ (by first | rfl | (conv => lhs; simp only [go_sem])) ?_)
      | (with_reducible show evC _ _ _ _ _ _ _ _ _ _ _ _
         first
         | (refine c_doesR [1000000] (hk) (callOK_of rfl (Nat.le_of_ble_eq_true rfl) rfl ?_ ?_) ?_ ?_
            iterate 2 · repeat' (first | (conv in hold _ => simp (disch := omega) only [go_sem]) | exact True.intro | exact Sub.refl _ | omega)
            · ((conv => rhs; simp (disch := omega) only [go_sem]); try rfl))
         | (refine c_doesR [2000010, 1000000, 1000001, 3000001, 3000002] (hO) (callOK_of rfl (Nat.le_of_ble_eq_true rfl) rfl ?_ ?_) ?_ ?_
            iterate 2 · repeat' (first | (conv in hold _ => simp (disch := omega) only [go_sem]) | exact True.intro | exact Sub.refl _ | omega)
            · ((conv => rhs; simp (disch := omega) only [go_sem]); try rfl))
         | (refine c_doesR [1000000] (hkk) (callOK_of rfl (Nat.le_of_ble_eq_true rfl) rfl ?_ ?_) ?_ ?_
            iterate 2 · repeat' (first | (conv in hold _ => simp (disch := omega) only [go_sem]) | exact True.intro | exact Sub.refl _ | omega)
            · ((conv => rhs; simp (disch := omega) only [go_sem]); try rfl)))
      | exact Sub.refl _
      | omega)
    refine fin_L [1000000, 1000001, 3000001, 3000002] ?_ ?_ rfl ?_
    repeat' (first | (conv in hold _ => simp (disch := omega) only [go_sem]) | exact True.intro | exact Sub.refl _ | omega)
end Go.Proofs.Ytbdpdmojepiepaa
/-
  Drawn plans that may be invalid, with widths. No condition.
-/
set_option maxHeartbeats 4000000
set_option maxRecDepth 100000
set_option linter.unusedVariables false
set_option linter.unusedSimpArgs false
namespace Go.Proofs.Ytbdpdmojepiepaa
open Go.RowKit

theorem es_pur (es : List E) : D.purL (es.map eD) = true := exprs_pur es
theorem take_allL {α : Type} (f : α → D) (l : List α) {n : Nat} (h : n = l.length) : (l.map f).take n = l.map f := List.take_of_length_le (by rw [List.length_map]; omega)
theorem anyPlan_ok {bs : List Nat} (hs : Src bs) {ws : List Int} (hw : wsOk ws) (p : Nat) (hp : p < 90000000) : ∃ (x : Pl) (q : Nat), Does Try.prog 55 [rdD bs p, wrD ws] [.ref 1000000 0, .own 1000001 1 ws.length] (pD x) [rdD bs q, wrD ws] ∧ p ≤ q ∧ q ≤ p + 23000 ∧ psz x ≤ 11100 := by
  obtain ⟨x, q, hx, hq0, hq1, hz⟩ := randomPlan_own hs hw p (by omega)
  obtain ⟨k, hk, k0, k1, _⟩ := pick_ok hs q (by omega) 18 (by omega)
  have t1 := take_allL eD x.es rfl
  have t2 := take_allL I x.cs rfl
  rw [psz_eq] at hz
  by_cases hk0 : k = 0
  · obtain ⟨v, hv, _⟩ := one_ok hs (q + 1) (by omega) [0, 9, 1, 4] (by decide) (by decide)
    refine ⟨.mk v x.t x.es x.cs x.ks, q + 2, ?_, by omega, by omega, by rw [psz_eq]; exact Nat.le_trans hz (by omega)⟩
    refine does c_spec_anyPlan mixed (Nat.le_of_ble_eq_true rfl) 2 rfl ?_
    conv => arg 3; whnf
    repeat' (first
      | with_reducible refine acc_none ?_
      | (conv in hold _ => simp (disch := omega) only [go_sem])
      | refine Stp.go ?_
      | with_reducible first | refine it_pos rfl ?_ | refine it_neg (by decide) ?_ | refine st_nil rfl ?_ | refine s_op ?_ ?_ | exact True.intro
      | ((with_reducible first | refine dw_reg0 ?_ | refine dw_regB ?_); (conv => arg 3; whnf))
      | (refine Spl.go (fun hq he => ?_) (fun hq he => ?_) <;> first | (exfalso; clear hq; omega) | ((try (first | (conv => arg 8; simp only [hq]) | (conv => arg 4; simp only [hq]))); clear hq))
      | ((with_reducible first | refine c_split (fun hq => ?_) (fun hq => ?_) | refine q_split (fun hq => ?_) (fun hq => ?_)) <;> (try (first | (conv => arg 8; simp only [hq]) | (conv => arg 4; simp only [hq]))))
      | (with_reducible show evC _ _ _ _ _ _ _ _ _ _ _ _
         first
         | (refine c_doesR [1000000, 1000001, 3000001, 3000002] (hx) (callOK_of rfl (Nat.le_of_ble_eq_true rfl) rfl ?_ ?_) ?_ ?_
            iterate 2 · repeat' (first | (conv in hold _ => simp (disch := omega) only [go_sem]) | exact True.intro | exact Sub.refl _ | omega)
            · ((conv => rhs; simp (disch := omega) only [go_sem]); try rfl))
         | (refine c_doesR [1000000] (hk) (callOK_of rfl (Nat.le_of_ble_eq_true rfl) rfl ?_ ?_) ?_ ?_
            iterate 2 · repeat' (first | (conv in hold _ => simp (disch := omega) only [go_sem]) | exact True.intro | exact Sub.refl _ | omega)
            · ((conv => rhs; simp (disch := omega) only [go_sem]); try rfl))
         | (refine c_doesR [1000000] (hv) (callOK_of rfl (Nat.le_of_ble_eq_true rfl) rfl ?_ ?_) ?_ ?_
            iterate 2 · repeat' (first | (conv in hold _ => simp (disch := omega) only [go_sem]) | exact True.intro | exact Sub.refl _ | omega)
            · ((conv => rhs; simp (disch := omega) only [go_sem]); try rfl)))
      | exact Sub.refl _
      | omega)
    refine fin_wk (wk_frzO 2000004 3000001 (by decide) (by decide) rfl (by decide) rfl ?_) ?_
    rotate_left
    (conv in hold _ => simp (disch := omega) only [go_sem, t1, Nat.le_refl])
    refine fin_wk (wk_frzO 2000004 3000002 (by decide) (by decide) rfl (by decide) rfl ?_) ?_
    rotate_left
    (conv in hold _ => simp (disch := omega) only [go_sem, t2, Nat.le_refl])
    all_goals first
      | exact es_pur _
      | exact ints_pur _
      | skip
    refine fin_L [1000000, 1000001] ?_ ?_ rfl ?_
    repeat' (first | (conv in hold _ => simp (disch := omega) only [go_sem]) | exact True.intro | exact Sub.refl _ | omega)
  by_cases hk1 : k = 1
  · obtain ⟨v, hv, _⟩ := one_ok hs (q + 1) (by omega) [-1, 4, 1] (by decide) (by decide)
    refine ⟨.mk x.k v x.es x.cs x.ks, q + 2, ?_, by omega, by omega, by rw [psz_eq]; exact Nat.le_trans hz (by omega)⟩
    refine does c_spec_anyPlan mixed (Nat.le_of_ble_eq_true rfl) 2 rfl ?_
    conv => arg 3; whnf
    repeat' (first
      | with_reducible refine acc_none ?_
      | (conv in hold _ => simp (disch := omega) only [go_sem])
      | refine Stp.go ?_
      | with_reducible first | refine it_pos rfl ?_ | refine it_neg (by decide) ?_ | refine st_nil rfl ?_ | refine s_op ?_ ?_ | exact True.intro
      | ((with_reducible first | refine dw_reg0 ?_ | refine dw_regB ?_); (conv => arg 3; whnf))
      | (refine Spl.go (fun hq he => ?_) (fun hq he => ?_) <;> first | (exfalso; clear hq; omega) | ((try (first | (conv => arg 8; simp only [hq]) | (conv => arg 4; simp only [hq]))); clear hq))
      | ((with_reducible first | refine c_split (fun hq => ?_) (fun hq => ?_) | refine q_split (fun hq => ?_) (fun hq => ?_)) <;> (try (first | (conv => arg 8; simp only [hq]) | (conv => arg 4; simp only [hq]))))
      | (with_reducible show evC _ _ _ _ _ _ _ _ _ _ _ _
         first
         | (refine c_doesR [1000000, 1000001, 3000001, 3000002] (hx) (callOK_of rfl (Nat.le_of_ble_eq_true rfl) rfl ?_ ?_) ?_ ?_
            iterate 2 · repeat' (first | (conv in hold _ => simp (disch := omega) only [go_sem]) | exact True.intro | exact Sub.refl _ | omega)
            · ((conv => rhs; simp (disch := omega) only [go_sem]); try rfl))
         | (refine c_doesR [1000000] (hk) (callOK_of rfl (Nat.le_of_ble_eq_true rfl) rfl ?_ ?_) ?_ ?_
            iterate 2 · repeat' (first | (conv in hold _ => simp (disch := omega) only [go_sem]) | exact True.intro | exact Sub.refl _ | omega)
            · ((conv => rhs; simp (disch := omega) only [go_sem]); try rfl))
         | (refine c_doesR [1000000] (hv) (callOK_of rfl (Nat.le_of_ble_eq_true rfl) rfl ?_ ?_) ?_ ?_
            iterate 2 · repeat' (first | (conv in hold _ => simp (disch := omega) only [go_sem]) | exact True.intro | exact Sub.refl _ | omega)
            · ((conv => rhs; simp (disch := omega) only [go_sem]); try rfl)))
      | exact Sub.refl _
      | omega)
    refine fin_wk (wk_frzO 2000004 3000001 (by decide) (by decide) rfl (by decide) rfl ?_) ?_
    rotate_left
    (conv in hold _ => simp (disch := omega) only [go_sem, t1, Nat.le_refl])
    refine fin_wk (wk_frzO 2000004 3000002 (by decide) (by decide) rfl (by decide) rfl ?_) ?_
    rotate_left
    (conv in hold _ => simp (disch := omega) only [go_sem, t2, Nat.le_refl])
    all_goals first
      | exact es_pur _
      | exact ints_pur _
      | skip
    refine fin_L [1000000, 1000001] ?_ ?_ rfl ?_
    repeat' (first | (conv in hold _ => simp (disch := omega) only [go_sem]) | exact True.intro | exact Sub.refl _ | omega)
  by_cases hk2 : k = 2
  · obtain ⟨v, hv, _⟩ := one_ok hs (q + 1) (by omega) [0, 9] (by decide) (by decide)
    have t4 : (x.cs.map I ++ [I v]) = (x.cs ++ [v]).map I := by rw [List.map_append]; rfl
    have t5 : ((x.cs ++ [v]).map I).take (x.cs.length + 1) = (x.cs ++ [v]).map I := take_allL I _ (by rw [List.length_append]; rfl)
    refine ⟨.mk x.k x.t x.es (x.cs ++ [v]) x.ks, q + 2, ?_, by omega, by omega, ?_⟩
    · refine does c_spec_anyPlan mixed (Nat.le_of_ble_eq_true rfl) 2 rfl ?_
      conv => arg 3; whnf
      repeat' (first
        | with_reducible refine acc_none ?_
        | (conv in hold _ => simp (disch := omega) only [go_sem, t2])
        | refine Stp.go ?_
        | with_reducible first | refine it_pos rfl ?_ | refine it_neg (by decide) ?_ | refine st_nil rfl ?_ | refine s_op ?_ ?_ | exact True.intro
        | ((with_reducible first | refine dw_reg0 ?_ | refine dw_regB ?_); (conv => arg 3; whnf))
        | (refine Spl.go (fun hq he => ?_) (fun hq he => ?_) <;> first | (exfalso; clear hq; omega) | ((try (first | (conv => arg 8; simp only [hq]) | (conv => arg 4; simp only [hq]))); clear hq))
        | ((with_reducible first | refine c_split (fun hq => ?_) (fun hq => ?_) | refine q_split (fun hq => ?_) (fun hq => ?_)) <;> (try (first | (conv => arg 8; simp only [hq]) | (conv => arg 4; simp only [hq]))))
        | (with_reducible show evC _ _ _ _ _ _ _ _ _ _ _ _
           first
           | (refine c_doesR [1000000, 1000001, 3000001, 3000002] (hx) (callOK_of rfl (Nat.le_of_ble_eq_true rfl) rfl ?_ ?_) ?_ ?_
              iterate 2 · repeat' (first | (conv in hold _ => simp (disch := omega) only [go_sem, t2]) | exact True.intro | exact Sub.refl _ | omega)
              · ((conv => rhs; simp (disch := omega) only [go_sem, t2]); try rfl))
           | (refine c_doesR [1000000] (hk) (callOK_of rfl (Nat.le_of_ble_eq_true rfl) rfl ?_ ?_) ?_ ?_
              iterate 2 · repeat' (first | (conv in hold _ => simp (disch := omega) only [go_sem, t2]) | exact True.intro | exact Sub.refl _ | omega)
              · ((conv => rhs; simp (disch := omega) only [go_sem, t2]); try rfl))
           | (refine c_doesR [1000000] (hv) (callOK_of rfl (Nat.le_of_ble_eq_true rfl) rfl ?_ ?_) ?_ ?_
              iterate 2 · repeat' (first | (conv in hold _ => simp (disch := omega) only [go_sem, t2]) | exact True.intro | exact Sub.refl _ | omega)
              · ((conv => rhs; simp (disch := omega) only [go_sem, t2]); try rfl)))
        | exact Sub.refl _
        | omega)
      refine fin_wk (wk_frzO 2000004 3000001 (by decide) (by decide) rfl (by decide) rfl ?_) ?_
      rotate_left
      (conv in hold _ => simp (disch := omega) only [go_sem, t1, Nat.le_refl])
      refine fin_wk (wk_frzO 2000004 2000031 (by decide) (by decide) rfl (by decide) rfl ?_) ?_
      rotate_left
      (conv in hold _ => simp (disch := omega) only [go_sem, t2, t4, t5, Nat.le_refl])
      all_goals first
        | exact es_pur _
        | exact ints_pur _
        | (show D.purL (x.cs.map I ++ [I v]) = true; rw [t4]; exact ints_pur _)
        | skip
      refine fin_L [1000000, 1000001] ?_ ?_ rfl ?_
      repeat' (first | (conv in hold _ => simp (disch := omega) only [go_sem]) | exact True.intro | exact Sub.refl _ | omega)
    · rw [psz_eq]
      show eszL x.es + (x.cs ++ [v]).length + pszL x.ks ≤ _
      rw [List.length_append, List.length_singleton]
      omega
  by_cases hk3 : k = 3
  · have hel := eszL_len x.es
    obtain ⟨e, q2, hae, he0, he1, hez⟩ := anyExpr_ok hs 2 (by omega) (q + 1) (by omega)
    have t4 : (x.es.map eD ++ [.agg [I e.k, I e.c, Bo e.v.b, I e.v.n, .sl 5 (e.ks.map eD)]]) = (x.es ++ [e]).map eD := by rw [← eD_eq, List.map_append]; rfl
    have t5 : ((x.es ++ [e]).map eD).take (x.es.length + 1) = (x.es ++ [e]).map eD := take_allL eD _ (by rw [List.length_append]; rfl)
    refine ⟨.mk x.k x.t (x.es ++ [e]) x.cs x.ks, q2, ?_, by omega, by omega, ?_⟩
    · refine does c_spec_anyPlan mixed (Nat.le_of_ble_eq_true rfl) 2 rfl ?_
      conv => arg 3; whnf
      repeat' (first
        | with_reducible refine acc_none ?_
        | (conv in hold _ => simp (disch := omega) only [go_sem, t1])
        | refine Stp.go ?_
        | with_reducible first | refine it_pos rfl ?_ | refine it_neg (by decide) ?_ | refine st_nil rfl ?_ | refine s_op ?_ ?_ | exact True.intro
        | ((with_reducible first | refine dw_reg0 ?_ | refine dw_regB ?_); (conv => arg 3; whnf))
        | (refine Spl.go (fun hq he => ?_) (fun hq he => ?_) <;> first | (exfalso; clear hq; omega) | ((try (first | (conv => arg 8; simp only [hq]) | (conv => arg 4; simp only [hq]))); clear hq))
        | ((with_reducible first | refine c_split (fun hq => ?_) (fun hq => ?_) | refine q_split (fun hq => ?_) (fun hq => ?_)) <;> (try (first | (conv => arg 8; simp only [hq]) | (conv => arg 4; simp only [hq]))))
        | (with_reducible show evC _ _ _ _ _ _ _ _ _ _ _ _
           first
           | (refine c_doesR [1000000, 1000001, 3000001, 3000002] (hx) (callOK_of rfl (Nat.le_of_ble_eq_true rfl) rfl ?_ ?_) ?_ ?_
              iterate 2 · repeat' (first | (conv in hold _ => simp (disch := omega) only [go_sem, t1]) | exact True.intro | exact Sub.refl _ | omega)
              · ((conv => rhs; simp (disch := omega) only [go_sem, t1]); try rfl))
           | (refine c_doesR [1000000] (hk) (callOK_of rfl (Nat.le_of_ble_eq_true rfl) rfl ?_ ?_) ?_ ?_
              iterate 2 · repeat' (first | (conv in hold _ => simp (disch := omega) only [go_sem, t1]) | exact True.intro | exact Sub.refl _ | omega)
              · ((conv => rhs; simp (disch := omega) only [go_sem, t1]); try rfl))
           | (refine c_doesR [1000000] (hae) (callOK_of rfl (Nat.le_of_ble_eq_true rfl) rfl ?_ ?_) ?_ ?_
              iterate 2 · repeat' (first | (conv in hold _ => simp (disch := omega) only [go_sem, t1]) | exact True.intro | exact Sub.refl _ | omega)
              · ((conv => rhs; simp (disch := omega) only [go_sem, t1]); try rfl)))
        | exact Sub.refl _
        | omega)
      refine fin_wk (wk_frzO 2000004 2000040 (by decide) (by decide) rfl (by decide) rfl ?_) ?_
      rotate_left
      (conv in hold _ => simp (disch := omega) only [go_sem, t1, t4, t5, Nat.le_refl])
      refine fin_wk (wk_frzO 2000004 3000002 (by decide) (by decide) rfl (by decide) rfl ?_) ?_
      rotate_left
      (conv in hold _ => simp (disch := omega) only [go_sem, t2, Nat.le_refl])
      all_goals first
        | exact es_pur _
        | exact ints_pur _
        | (rw [t4]; exact es_pur _)
        | skip
      refine fin_L [1000000, 1000001] ?_ ?_ rfl ?_
      repeat' (first | (conv in hold _ => simp (disch := omega) only [go_sem]) | exact True.intro | exact Sub.refl _ | omega)
    · rw [psz_eq]
      show eszL (x.es ++ [e]) + x.cs.length + pszL x.ks ≤ _
      rw [eszL_append, eszL_1]
      omega
  · refine ⟨x, q + 1, ?_, by omega, by omega, by rw [psz_eq]; omega⟩
    refine does c_spec_anyPlan mixed (Nat.le_of_ble_eq_true rfl) 2 rfl ?_
    conv => arg 3; whnf
    repeat' (first
      | with_reducible refine acc_none ?_
      | (conv in hold _ => simp (disch := omega) only [go_sem])
      | refine Stp.go ?_
      | with_reducible first | refine it_pos rfl ?_ | refine it_neg (by decide) ?_ | refine st_nil rfl ?_ | refine s_op ?_ ?_ | exact True.intro
      | ((with_reducible first | refine dw_reg0 ?_ | refine dw_regB ?_); (conv => arg 3; whnf))
      | (refine Spl.go (fun hq he => ?_) (fun hq he => ?_) <;> first | (exfalso; clear hq; omega) | ((try (first | (conv => arg 8; simp only [hq]) | (conv => arg 4; simp only [hq]))); clear hq))
      | ((with_reducible first | refine c_split (fun hq => ?_) (fun hq => ?_) | refine q_split (fun hq => ?_) (fun hq => ?_)) <;> (try (first | (conv => arg 8; simp only [hq]) | (conv => arg 4; simp only [hq]))))
      | (with_reducible show evC _ _ _ _ _ _ _ _ _ _ _ _
         first
         | (refine c_doesR [1000000, 1000001, 3000001, 3000002] (hx) (callOK_of rfl (Nat.le_of_ble_eq_true rfl) rfl ?_ ?_) ?_ ?_
            iterate 2 · repeat' (first | (conv in hold _ => simp (disch := omega) only [go_sem]) | exact True.intro | exact Sub.refl _ | omega)
            · ((conv => rhs; simp (disch := omega) only [go_sem]); try rfl))
         | (refine c_doesR [1000000] (hk) (callOK_of rfl (Nat.le_of_ble_eq_true rfl) rfl ?_ ?_) ?_ ?_
            iterate 2 · repeat' (first | (conv in hold _ => simp (disch := omega) only [go_sem]) | exact True.intro | exact Sub.refl _ | omega)
            · ((conv => rhs; simp (disch := omega) only [go_sem]); try rfl)))
      | exact Sub.refl _
      | omega)
    refine fin_wk (wk_frzO 2000004 3000001 (by decide) (by decide) rfl (by decide) rfl ?_) ?_
    rotate_left
    (conv in hold _ => simp (disch := omega) only [go_sem, t1, Nat.le_refl])
    refine fin_wk (wk_frzO 2000004 3000002 (by decide) (by decide) rfl (by decide) rfl ?_) ?_
    rotate_left
    (conv in hold _ => simp (disch := omega) only [go_sem, t2, Nat.le_refl])
    all_goals first
      | exact es_pur _
      | exact ints_pur _
      | skip
    refine fin_L [1000000, 1000001] ?_ ?_ rfl ?_
    repeat' (first | (conv in hold _ => simp (disch := omega) only [go_sem]) | exact True.intro | exact Sub.refl _ | omega)
theorem planAndWidths_ok {bs : List Nat} (hs : Src bs) (p : Nat) (hp : p < 80000000) : ∃ (x : Pl) (ws : List Int) (q : Nat), Does Try.prog 29 [rdD bs p] [.ref 1000000 0] (.tup [pD x, intsD ws]) [rdD bs q] ∧ (2 ≤ ws.length ∧ ws.length ≤ 3) ∧ (∀ (i : Nat) (w : Int), ws[i]? = some w → 0 ≤ w ∧ w ≤ 7) ∧ psz x ≤ 11100 ∧ p ≤ q ∧ q ≤ p + 24000 := by
  obtain ⟨ws, q, ⟨hw, hl, hr⟩, hq0, hq1⟩ := randomWidths_own hs p (by omega)
  have hwo : wsOk ws := ⟨by omega, fun i w h => by have := hr i w h; omega⟩
  obtain ⟨x, q2, hx, hx0, hx1, hz⟩ := anyPlan_ok hs hwo q (by omega)
  obtain ⟨k, hk, k0, k1, _⟩ := pick_ok hs q2 (by omega) 18 (by omega)
  by_cases hk0 : k = 0
  · obtain ⟨v, hv, hm⟩ := one_ok hs (q2 + 1) (by omega) [0, 7, 1] (by decide) (by decide)
    simp only [List.mem_cons, List.not_mem_nil, or_false] at hm
    have hpos : (ws.map I)[0]? = some (I (ws[0]'(by omega))) := by
      rw [List.getElem?_map, List.getElem?_eq_getElem (by omega)]
      rfl
    have hsi : (ws.map I).set 0 (I v) = (ws.set 0 v).map I := by rw [List.map_set]
    have t3 : ((ws.set 0 v).map I).take ws.length = (ws.set 0 v).map I := take_allL I _ (by rw [List.length_set])
    refine ⟨x, ws.set 0 v, q2 + 2, ?_, by rw [List.length_set]; exact hl, fun i w hi => ?_, hz, by omega, by omega⟩
    · refine does c_spec_planAndWidths mixed (Nat.le_of_ble_eq_true rfl) 1 rfl ?_
      conv => arg 3; whnf
      repeat' (first
        | with_reducible refine acc_none ?_
        | (conv in hold _ => simp (disch := omega) only [go_sem, hpos])
        | refine Stp.go ?_
        | with_reducible first | refine it_pos rfl ?_ | refine it_neg (by decide) ?_ | refine st_nil rfl ?_ | refine s_op ?_ ?_ | exact True.intro
        | ((with_reducible first | refine dw_reg0 ?_ | refine dw_regB ?_); (conv => arg 3; whnf))
        | (refine Spl.go (fun hq he => ?_) (fun hq he => ?_) <;> first | (exfalso; clear hq; omega) | ((try (first | (conv => arg 8; simp only [hq]) | (conv => arg 4; simp only [hq]))); clear hq))
        | ((with_reducible first | refine c_split (fun hq => ?_) (fun hq => ?_) | refine q_split (fun hq => ?_) (fun hq => ?_)) <;> (try (first | (conv => arg 8; simp only [hq]) | (conv => arg 4; simp only [hq]))))
        | (with_reducible show evC _ _ _ _ _ _ _ _ _ _ _ _
           first
           | (refine c_doesR [1000000, 3000001] (hw) (callOK_of rfl (Nat.le_of_ble_eq_true rfl) rfl ?_ ?_) ?_ ?_
              iterate 2 · repeat' (first | (conv in hold _ => simp (disch := omega) only [go_sem, hpos]) | exact True.intro | exact Sub.refl _ | omega)
              · ((conv => rhs; simp (disch := omega) only [go_sem, hpos]); try rfl))
           | (refine c_doesR [1000000, 3000001] (hx) (callOK_of rfl (Nat.le_of_ble_eq_true rfl) rfl ?_ ?_) ?_ ?_
              iterate 2 · repeat' (first | (conv in hold _ => simp (disch := omega) only [go_sem, hpos]) | exact True.intro | exact Sub.refl _ | omega)
              · ((conv => rhs; simp (disch := omega) only [go_sem, hpos]); try rfl))
           | (refine c_doesR [1000000] (hk) (callOK_of rfl (Nat.le_of_ble_eq_true rfl) rfl ?_ ?_) ?_ ?_
              iterate 2 · repeat' (first | (conv in hold _ => simp (disch := omega) only [go_sem, hpos]) | exact True.intro | exact Sub.refl _ | omega)
              · ((conv => rhs; simp (disch := omega) only [go_sem, hpos]); try rfl))
           | (refine c_doesR [1000000] (hv) (callOK_of rfl (Nat.le_of_ble_eq_true rfl) rfl ?_ ?_) ?_ ?_
              iterate 2 · repeat' (first | (conv in hold _ => simp (disch := omega) only [go_sem, hpos]) | exact True.intro | exact Sub.refl _ | omega)
              · ((conv => rhs; simp (disch := omega) only [go_sem, hpos]); try rfl)))
        | exact Sub.refl _
        | omega)
      refine fin_wk (wk_frz 3 3000001 (by decide) (by decide) rfl ?_) ?_
      rotate_left
      (conv in hold _ => simp (disch := omega) only [go_sem, hsi, t3, List.length_set, Nat.le_refl])
      · refine fin_L [1000000] ?_ ?_ rfl ?_
        repeat' (first | (conv in hold _ => simp (disch := omega) only [go_sem]) | exact True.intro | exact Sub.refl _ | omega)
      · show D.purL ((ws.map I).set 0 (I v)) = true
        rw [hsi]
        exact ints_pur _
    · rcases List.mem_or_eq_of_mem_set (List.mem_of_getElem? hi) with h | h
      · obtain ⟨j, hj, he⟩ := List.getElem_of_mem h
        have := hr j w (by rw [List.getElem?_eq_getElem hj, he])
        omega
      · omega
  · have t3 := take_allL I ws rfl
    refine ⟨x, ws, q2 + 1, ?_, hl, fun i w hi => by have := hr i w hi; omega, hz, by omega, by omega⟩
    refine does c_spec_planAndWidths mixed (Nat.le_of_ble_eq_true rfl) 1 rfl ?_
    conv => arg 3; whnf
    repeat' (first
      | with_reducible refine acc_none ?_
      | (conv in hold _ => simp (disch := omega) only [go_sem])
      | refine Stp.go ?_
      | with_reducible first | refine it_pos rfl ?_ | refine it_neg (by decide) ?_ | refine st_nil rfl ?_ | refine s_op ?_ ?_ | exact True.intro
      | ((with_reducible first | refine dw_reg0 ?_ | refine dw_regB ?_); (conv => arg 3; whnf))
      | (refine Spl.go (fun hq he => ?_) (fun hq he => ?_) <;> first | (exfalso; clear hq; omega) | ((try (first | (conv => arg 8; simp only [hq]) | (conv => arg 4; simp only [hq]))); clear hq))
      | ((with_reducible first | refine c_split (fun hq => ?_) (fun hq => ?_) | refine q_split (fun hq => ?_) (fun hq => ?_)) <;> (try (first | (conv => arg 8; simp only [hq]) | (conv => arg 4; simp only [hq]))))
      | (with_reducible show evC _ _ _ _ _ _ _ _ _ _ _ _
         first
         | (refine c_doesR [1000000, 3000001] (hw) (callOK_of rfl (Nat.le_of_ble_eq_true rfl) rfl ?_ ?_) ?_ ?_
            iterate 2 · repeat' (first | (conv in hold _ => simp (disch := omega) only [go_sem]) | exact True.intro | exact Sub.refl _ | omega)
            · ((conv => rhs; simp (disch := omega) only [go_sem]); try rfl))
         | (refine c_doesR [1000000, 3000001] (hx) (callOK_of rfl (Nat.le_of_ble_eq_true rfl) rfl ?_ ?_) ?_ ?_
            iterate 2 · repeat' (first | (conv in hold _ => simp (disch := omega) only [go_sem]) | exact True.intro | exact Sub.refl _ | omega)
            · ((conv => rhs; simp (disch := omega) only [go_sem]); try rfl))
         | (refine c_doesR [1000000] (hk) (callOK_of rfl (Nat.le_of_ble_eq_true rfl) rfl ?_ ?_) ?_ ?_
            iterate 2 · repeat' (first | (conv in hold _ => simp (disch := omega) only [go_sem]) | exact True.intro | exact Sub.refl _ | omega)
            · ((conv => rhs; simp (disch := omega) only [go_sem]); try rfl)))
      | exact Sub.refl _
      | omega)
    refine fin_wk (wk_frz 3 3000001 (by decide) (by decide) rfl ?_) ?_
    rotate_left
    (conv in hold _ => simp (disch := omega) only [go_sem, t3, Nat.le_refl])
    · refine fin_L [1000000] ?_ ?_ rfl ?_
      repeat' (first | (conv in hold _ => simp (disch := omega) only [go_sem]) | exact True.intro | exact Sub.refl _ | omega)
    · exact ints_pur _
end Go.Proofs.Ytbdpdmojepiepaa
/-
  Drawn arguments of RowBound. No condition.
-/
set_option maxHeartbeats 4000000
set_option maxRecDepth 100000
set_option linter.unusedVariables false
set_option linter.unusedSimpArgs false
namespace Go.Proofs.Ytbdpdmojepiepaa
open Go.RowKit

theorem DrawRowBound_ok (bs : List Nat) (hb : ∀ b, b ∈ bs → b < 256) : ∃ (x : Pl) (ws cnt : List Int), Does Try.prog 10 [] [bytesD bs] (.tup [pD x, intsD ws, intsD cnt]) [] ∧ psz x ≤ 11100 ∧ ws.length ≤ 3 ∧ (2 ≤ cnt.length ∧ cnt.length ≤ 3) ∧ ∀ (i : Nat) (n : Int), cnt[i]? = some n → -1 ≤ n ∧ n ≤ 401 := by
  have hs : Src (bs.take 2000) := ⟨fun b h => hb b (List.mem_of_mem_take h), by rw [List.length_take]; omega⟩
  have hr := newReader_ok bs
  generalize bs.take 2000 = rs at hs hr
  obtain ⟨x, ws, q, hx, hl, _, hz, hq0, hq1⟩ := planAndWidths_ok hs 0 (by omega)
  obtain ⟨cs, ps, hcl, h0, hd, hp0, hp1⟩ := draws (fun p (v : Int) q => q = p + 1 ∧ Does Try.prog 30 [rdD rs p] [.ref 1000000 0, .sl 1 [I 0, I 1, I 3, I 400]] (I v) [rdD rs (p + 1)] ∧ 0 ≤ v ∧ v ≤ 400) 900000000 1 (fun p hp => by
    obtain ⟨v, hv, hm⟩ := one_ok hs p (by omega) [0, 1, 3, 400] (by decide) (by decide)
    simp only [List.mem_cons, List.not_mem_nil, or_false] at hm
    exact ⟨v, p + 1, ⟨rfl, hv, by omega, by omega⟩, by omega, by omega⟩) ws.length q (by omega)
  obtain ⟨k, hk, _⟩ := pick_ok hs (ps ws.length) (by omega) 16 (by omega)
  obtain ⟨v, hv, hm⟩ := one_ok hs (ps ws.length + 1) (by omega) [-1, 401] (by decide) (by decide)
  simp only [List.mem_cons, List.not_mem_nil, or_false] at hm
  have hrg : ∀ (i : Nat) (n : Int), cs[i]? = some n → -1 ≤ n ∧ n ≤ 401 := fun i n hi => by have := (hd i n hi).2.2; omega
  have hpos : (cs.map I)[0]? = some (I (cs[0]'(by omega))) := by
    rw [List.getElem?_map, List.getElem?_eq_getElem (by omega)]
    rfl
  have hsi : (cs.map I).set 0 (I v) = (cs.set 0 v).map I := by rw [List.map_set]
  have t3 := take_allL I cs (n := ws.length) hcl.symm
  have t4 : ((cs.set 0 v).map I).take ws.length = (cs.set 0 v).map I := take_allL I _ (by rw [List.length_set]; exact hcl.symm)
  refine ⟨x, ws, if k = 0 then cs.set 0 v else cs, ?_, hz, hl.2, ?_, ?_⟩
  · refine does0 c_spec_DrawRowBound mixed (Nat.le_of_ble_eq_true rfl) ?_
    conv => arg 3; whnf
    repeat' (first
      | with_reducible refine acc_none ?_
      | (conv in hold _ => simp (disch := omega) only [go_sem])
      | refine Stp.go ?_
      | with_reducible first | refine it_pos rfl ?_ | refine it_neg (by decide) ?_ | refine st_nil rfl ?_ | refine s_op ?_ ?_ | exact True.intro
      | ((with_reducible first | refine dw_reg0 ?_ | refine dw_regB ?_); (conv => arg 3; whnf))
      | (refine Spl.go (fun hq he => ?_) (fun hq he => ?_) <;> first | (exfalso; clear hq; omega) | ((try (first | (conv => arg 8; simp only [hq]) | (conv => arg 4; simp only [hq]))); clear hq))
      | ((with_reducible first | refine c_split (fun hq => ?_) (fun hq => ?_) | refine q_split (fun hq => ?_) (fun hq => ?_)) <;> (try (first | (conv => arg 8; simp only [hq]) | (conv => arg 4; simp only [hq]))))
      | (with_reducible refine fin_0 ?_ (by first | rfl | (conv => lhs; simp only [go_sem])) ?_)
      | (with_reducible show evC _ _ _ _ _ _ _ _ _ _ _ _
         first
         | (refine c_doesR [3000001] (hr) (callOK_of rfl (Nat.le_of_ble_eq_true rfl) rfl ?_ ?_) ?_ ?_
            iterate 2 · repeat' (first | (conv in hold _ => simp (disch := omega) only [go_sem]) | exact True.intro | exact Sub.refl _ | omega)
            · ((conv => rhs; simp (disch := omega) only [go_sem]); try rfl))
         | (refine c_doesR [3000001] (hx) (callOK_of rfl (Nat.le_of_ble_eq_true rfl) rfl ?_ ?_) ?_ ?_
            iterate 2 · repeat' (first | (conv in hold _ => simp (disch := omega) only [go_sem]) | exact True.intro | exact Sub.refl _ | omega)
            · ((conv => rhs; simp (disch := omega) only [go_sem]); try rfl)))
      | exact Sub.refl _
      | omega)
    refine dw_for (c := 4) (l := fun i => [(2, .ref 1000000 0), (3, .nul), (4, .nul), (5, .ref 1000001 0), (6, .ref 1000002 0), (7, intsD ws), (8, .own 1000003 1 i), (9, I i), (1000000, .obj [I 0, I 0, .nul, .nul, .nul]), (1000001, rdD rs (ps i)), (1000002, .obj [I x.k, I x.t, .sl 5 (x.es.map eD), intsD x.cs, .sl 5 (x.ks.map pD)]), (1000003, .row 1 ((cs.take i).map I))]) ws.length (fun _ => True) 0 trivial ((wk_row 8 2000099 1 (by decide) (by decide) rfl rfl).trans (Wk.list [2000002, 3000001, 2000006, 2000099] rfl rfl ?_)) (fun i hi _ => ?_) (Nat.zero_le _)
    · rw [h0]
      repeat' (first | (conv in hold _ => simp (disch := omega) only [go_sem]) | exact True.intro | exact Sub.refl _ | omega)
      exact rfl
    · have hlt := take_len (vs := cs) (i := i) (by omega)
      have hmt := take_map I (vs := cs) (i := i) (by omega)
      by_cases hil : i < ws.length
      · obtain ⟨c, hc⟩ : ∃ c, cs[i]? = some c := ⟨cs[i], List.getElem?_eq_getElem (by omega)⟩
        obtain ⟨x1, x2, x3, x4⟩ := hd i c hc
        have hnx := take_next hc
        repeat' (first
          | with_reducible refine acc_none ?_
          | (conv in hold _ => simp (disch := omega) only [go_sem])
          | refine Stp.go ?_
          | with_reducible first | refine it_pos rfl ?_ | refine it_neg (by decide) ?_ | refine st_nil rfl ?_ | refine s_op ?_ ?_ | exact True.intro
          | ((with_reducible first | refine dw_reg0 ?_ | refine dw_regB ?_); (conv => arg 3; whnf))
          | (refine Spl.go (fun hq he => ?_) (fun hq he => ?_) <;> first | (exfalso; clear hq; omega) | ((try (first | (conv => arg 8; simp only [hq]) | (conv => arg 4; simp only [hq]))); clear hq))
          | ((with_reducible first | refine c_split (fun hq => ?_) (fun hq => ?_) | refine q_split (fun hq => ?_) (fun hq => ?_)) <;> (try (first | (conv => arg 8; simp only [hq]) | (conv => arg 4; simp only [hq]))))
          | (with_reducible refine fin_0 ?_ (by first | rfl | (conv => lhs; simp only [go_sem])) ?_)
          | (with_reducible show evC _ _ _ _ _ _ _ _ _ _ _ _
             first
             | (refine c_doesR [1000001] (x2) (callOK_of rfl (Nat.le_of_ble_eq_true rfl) rfl ?_ ?_) ?_ ?_
                iterate 2 · repeat' (first | (conv in hold _ => simp (disch := omega) only [go_sem]) | exact True.intro | exact Sub.refl _ | omega)
                · ((conv => rhs; simp (disch := omega) only [go_sem]); try rfl)))
          | exact Sub.refl _
          | omega)
        refine ⟨hil, trivial, Wk.list [1000000, 1000001, 1000002, 2000029] rfl rfl ?_⟩
        repeat' (first | (conv in hold _ => simp (disch := omega) only [go_sem, x1]) | exact True.intro | exact Sub.refl _ | omega)
        rw [hmt, hnx, List.map_append]
        rfl
      · obtain rfl : i = ws.length := by omega
        have e1 : cs.take ws.length = cs := List.take_of_length_le (by omega)
        by_cases hk0 : k = 0
        · rw [if_pos hk0]
          repeat' (first
            | with_reducible refine acc_none ?_
            | (conv in hold _ => simp (disch := omega) only [go_sem, e1, hpos])
            | refine Stp.go ?_
            | with_reducible first | refine it_pos rfl ?_ | refine it_neg (by decide) ?_ | refine st_nil rfl ?_ | refine s_op ?_ ?_ | exact True.intro
            | ((with_reducible first | refine dw_reg0 ?_ | refine dw_regB ?_); (conv => arg 3; whnf))
            | (refine Spl.go (fun hq he => ?_) (fun hq he => ?_) <;> first | (exfalso; clear hq; omega) | ((try (first | (conv => arg 8; simp only [hq]) | (conv => arg 4; simp only [hq]))); clear hq))
            | ((with_reducible first | refine c_split (fun hq => ?_) (fun hq => ?_) | refine q_split (fun hq => ?_) (fun hq => ?_)) <;> (try (first | (conv => arg 8; simp only [hq]) | (conv => arg 4; simp only [hq]))))
            | (with_reducible show evC _ _ _ _ _ _ _ _ _ _ _ _
               first
               | (refine c_doesR [1000001] (hk) (callOK_of rfl (Nat.le_of_ble_eq_true rfl) rfl ?_ ?_) ?_ ?_
                  iterate 2 · repeat' (first | (conv in hold _ => simp (disch := omega) only [go_sem, e1, hpos]) | exact True.intro | exact Sub.refl _ | omega)
                  · ((conv => rhs; simp (disch := omega) only [go_sem, e1, hpos]); try rfl))
               | (refine c_doesR [1000001] (hv) (callOK_of rfl (Nat.le_of_ble_eq_true rfl) rfl ?_ ?_) ?_ ?_
                  iterate 2 · repeat' (first | (conv in hold _ => simp (disch := omega) only [go_sem, e1, hpos]) | exact True.intro | exact Sub.refl _ | omega)
                  · ((conv => rhs; simp (disch := omega) only [go_sem, e1, hpos]); try rfl)))
            | exact Sub.refl _
            | omega)
          refine fin_wk (wk_frz 4 1000003 (by decide) (by decide) rfl ?_) ?_
          rotate_left
          (conv in hold _ => simp (disch := omega) only [go_sem, e1, hsi, t4, hcl, List.length_set, Nat.le_refl])
          · refine fin_L [] ?_ ?_ rfl ?_
            repeat' (first | (conv in hold _ => simp (disch := omega) only [go_sem]) | exact True.intro | exact Sub.refl _ | omega)
          · show D.purL ((cs.map I).set 0 (I v)) = true
            rw [hsi]
            exact ints_pur _
        · rw [if_neg hk0]
          repeat' (first
            | with_reducible refine acc_none ?_
            | (conv in hold _ => simp (disch := omega) only [go_sem, e1])
            | refine Stp.go ?_
            | with_reducible first | refine it_pos rfl ?_ | refine it_neg (by decide) ?_ | refine st_nil rfl ?_ | refine s_op ?_ ?_ | exact True.intro
            | ((with_reducible first | refine dw_reg0 ?_ | refine dw_regB ?_); (conv => arg 3; whnf))
            | (refine Spl.go (fun hq he => ?_) (fun hq he => ?_) <;> first | (exfalso; clear hq; omega) | ((try (first | (conv => arg 8; simp only [hq]) | (conv => arg 4; simp only [hq]))); clear hq))
            | ((with_reducible first | refine c_split (fun hq => ?_) (fun hq => ?_) | refine q_split (fun hq => ?_) (fun hq => ?_)) <;> (try (first | (conv => arg 8; simp only [hq]) | (conv => arg 4; simp only [hq]))))
            | (with_reducible show evC _ _ _ _ _ _ _ _ _ _ _ _
               first
               | (refine c_doesR [1000001] (hk) (callOK_of rfl (Nat.le_of_ble_eq_true rfl) rfl ?_ ?_) ?_ ?_
                  iterate 2 · repeat' (first | (conv in hold _ => simp (disch := omega) only [go_sem, e1]) | exact True.intro | exact Sub.refl _ | omega)
                  · ((conv => rhs; simp (disch := omega) only [go_sem, e1]); try rfl)))
            | exact Sub.refl _
            | omega)
          refine fin_wk (wk_frz 4 1000003 (by decide) (by decide) rfl ?_) ?_
          rotate_left
          (conv in hold _ => simp (disch := omega) only [go_sem, e1, t3, hcl, Nat.le_refl])
          · refine fin_L [] ?_ ?_ rfl ?_
            repeat' (first | (conv in hold _ => simp (disch := omega) only [go_sem]) | exact True.intro | exact Sub.refl _ | omega)
          · exact ints_pur _
  · split
    · rw [List.length_set]
      omega
    · omega
  · intro i n hi
    split at hi
    · rcases List.mem_or_eq_of_mem_set (List.mem_of_getElem? hi) with h | h
      · obtain ⟨j, hj, he⟩ := List.getElem_of_mem h
        have := hrg j n (by rw [List.getElem?_eq_getElem hj, he])
        omega
      · omega
    · exact hrg i n hi
end Go.Proofs.Ytbdpdmojepiepaa
/-
  What is known of a law's bytes as plain data; a law that answers true on plain data answers true. No condition.
-/
namespace Go.Proofs.Ytbdpdmojepiepaa
open Go.RowKit

/-- The bytes that came in. -/
theorem code_fz {a : Option Addr} {len cap : Nat} {zs : List Int} {w : World} (h : IsRow .u8 w a len cap zs) : ∃ cs : List Nat, (∀ b, b ∈ cs → b < 256) ∧ Fz w (allOf w) noNames (bytesD cs) (.slice a len cap) := by
  rcases h with ⟨rfl, rfl, rfl, rfl⟩ | ⟨x, rfl, hl, hm, hz, hc, hwz⟩
  · exact ⟨[], (fun b h => by cases h), .sl0 _ 1 none 0⟩
  · by_cases h0 : len = 0
    · subst h0
      exact ⟨[], (fun b h => by cases h), .sl0 _ 1 (some x) cap⟩
    · obtain ⟨b, off, sp⟩ := x
      have hsp : sp = none := by
        have := hc 0 (by omega)
        unfold World.cell? at this
        split at this
        · cases sp with
          | none => rfl
          | some s => simp [Addr.add] at this
        · cases this
      subst hsp
      have hc' : ∀ i, i < cap → w.cell? ⟨b, off + i, none⟩ = some (.int .u8 (zs.getD i 0)) := fun i hi => by have := hc i (by omega); rwa [Addr.add_lit] at this
      have hb : b < w.heap.size := by
        have := hc' 0 (by omega)
        unfold World.cell? at this
        split at this
        · rename_i h; exact (Array.getElem?_eq_some_iff.1 h).1
        · cases this
      have hrange : ∀ i, i < cap → 0 ≤ zs.getD i 0 ∧ zs.getD i 0 < 256 := fun i hi => by
        have hm : zs.getD i 0 ∈ zs := by rw [List.getD_eq_getElem?_getD, List.getElem?_eq_getElem (by omega)]; exact List.getElem_mem _
        have := hwz _ hm
        generalize zs.getD i 0 = z at this ⊢
        simp [Lit.wf, IntKind.min, IntKind.max, IntKind.bits, IntKind.signed] at this
        omega
      refine ⟨(List.range len).map fun i => (zs.getD i 0).toNat, fun n hn => ?_, ?_⟩
      · obtain ⟨i, hi, rfl⟩ := List.mem_map.1 hn
        have := hrange i (by have := List.mem_range.1 hi; omega)
        omega
      · have hlen : (((List.range len).map fun i => (zs.getD i 0).toNat).map byteD).length = len := by simp
        have := Fz.sl (w := w) (F := allOf w) noNames 1 (((List.range len).map fun i => (zs.getD i 0).toNat).map byteD) b off cap (fun k => .int .u8 (zs.getD k 0)) (by decide) (by rw [hlen]; exact hl) (fun e he => ?_) (fun k hk => ?_) (fun k d hd => ?_)
        · rw [hlen] at this
          exact this
        · obtain ⟨n, _, rfl⟩ := List.mem_map.1 he
          rfl
        · rw [hlen] at hk
          exact ⟨hc' k (by omega), hb, rfl⟩
        · have hf : ∀ l : List Nat, D.flat (l.map byteD) = l.map byteD := by
            intro l
            induction l with
            | nil => rfl
            | cons n l ih => rw [List.map_cons, D.flat, List.flatMap_cons, ← D.flat, ih]; rfl
          rw [hf, List.getElem?_map, List.getElem?_map] at hd
          have hk : k < len := by
            cases hr : (List.range len)[k]? with
            | none => rw [hr] at hd; cases hd
            | some j => have := (List.getElem?_eq_some_iff.1 hr).1; simpa using this
          rw [List.getElem?_range hk] at hd
          obtain rfl : byteD (zs.getD k 0).toNat = d := by simpa using hd
          have := hrange k (by omega)
          unfold byteD
          rw [Int.toNat_of_nonneg this.1]
          exact .v _ _
theorem walk_of {f : FuncId} (hdo : ∀ cs : List Nat, (∀ b, b ∈ cs → b < 256) → Does Try.prog f [] [bytesD cs] (Bo true) []) (a : Option Addr) (len cap : Nat) (zs : List Int) (w : World) (h : IsRow .u8 w a len cap zs) :
    Calls Try.prog f #[.slice a len cap] w fun e W' => e = .returned (.bool true) ∧ Below w.heap.size w W' := by
  obtain ⟨cs, hcs, hfz⟩ := code_fz h
  refine calls_of (hdo cs hcs) w [.slice a len cap] rfl (fun i d x hd hx => ?_)
  rcases i with _ | i
  · obtain rfl : bytesD cs = d := by simpa using hd
    obtain rfl : Value.slice a len cap = x := by simpa using hx
    exact hfz
  · simp at hd
theorem walk_of2 {f : FuncId} (hdo : ∀ cs : List Nat, (∀ b, b ∈ cs → b < 256) → ∀ cs' : List Nat, (∀ b, b ∈ cs' → b < 256) → Does Try.prog f [] [bytesD cs, bytesD cs'] (Bo true) []) (a : Option Addr) (len cap : Nat) (zs : List Int) (a' : Option Addr) (len' cap' : Nat) (zs' : List Int) (w : World) (h : IsRow .u8 w a len cap zs) (h' : IsRow .u8 w a' len' cap' zs') :
    Calls Try.prog f #[.slice a len cap, .slice a' len' cap'] w fun e W' => e = .returned (.bool true) ∧ Below w.heap.size w W' := by
  obtain ⟨cs, hcs, hfz⟩ := code_fz h
  obtain ⟨cs', hcs', hfz'⟩ := code_fz h'
  refine calls_of (hdo cs hcs cs' hcs') w [.slice a len cap, .slice a' len' cap'] rfl (fun i d x hd hx => ?_)
  rcases i with _ | _ | i
  · obtain rfl : bytesD cs = d := by simpa using hd
    obtain rfl : Value.slice a len cap = x := by simpa using hx
    exact hfz
  · obtain rfl : bytesD cs' = d := by simpa using hd
    obtain rfl : Value.slice a' len' cap' = x := by simpa using hx
    exact hfz'
  · simp at hd
end Go.Proofs.Ytbdpdmojepiepaa
/-
  The law that larger tables have larger bounds. No condition.
-/
set_option maxHeartbeats 4000000
set_option maxRecDepth 100000
set_option linter.unusedVariables false
set_option linter.unusedSimpArgs false
namespace Go.Proofs.Ytbdpdmojepiepaa
open Go.RowKit

theorem rbK_mono {cnt cnt' : List Int} (hcc : ∀ j, cnt.getD j 0 ≤ cnt'.getD j 0) (k t : Int) (c : Nat) {l l' : List Int} (hl : ∀ j, 0 ≤ l.getD j 0 ∧ l.getD j 0 ≤ l'.getD j 0) : rbK cnt k t c l ≤ rbK cnt' k t c l' := by
  have h0 := hl 0
  have h1 := hl 1
  have h2 := hcc t.toNat
  have h3 : l.getD 0 0 * l.getD 1 0 ≤ l'.getD 0 0 * l'.getD 1 0 := Int.mul_le_mul h0.2 h1.2 h1.1 (by omega)
  have h4 : l.getD 0 0 * max (l.getD 1 0) 1 ≤ l'.getD 0 0 * max (l'.getD 1 0) 1 := Int.mul_le_mul h0.2 (by omega) (by omega) (by omega)
  unfold rbK M
  generalize l.getD 0 0 * l.getD 1 0 = a at *
  generalize l'.getD 0 0 * l'.getD 1 0 = a' at *
  generalize l.getD 0 0 * max (l.getD 1 0) 1 = b at *
  generalize l'.getD 0 0 * max (l'.getD 1 0) 1 = b' at *
  generalize l.getD 0 0 = c at *
  generalize l'.getD 0 0 = c' at *
  generalize l.getD 1 0 = d at *
  generalize l'.getD 1 0 = d' at *
  generalize cnt.getD t.toNat 0 = e at *
  generalize cnt'.getD t.toNat 0 = e' at *
  repeat' split
  all_goals omega
theorem getD_kid (f : Pl → Int) (l : List Pl) (j : Nat) : (l.map f).getD j 0 = match l[j]? with | none => 0 | some x => f x := by
  rw [List.getD_eq_getElem?_getD, List.getElem?_map]
  cases l[j]? <;> rfl
theorem rb_mono {cnt cnt' : List Int} (hc : cntOk cnt) (hcc : ∀ j, cnt.getD j 0 ≤ cnt'.getD j 0) : ∀ p : Pl, rb cnt p ≤ rb cnt' p := by
  refine Pl.indA (fun p ih => ?_)
  rw [rb_eq, rb_eq cnt']
  refine rbK_mono hcc _ _ _ (fun j => ?_)
  rw [getD_kid, getD_kid]
  cases hj : p.ks[j]? with
  | none => exact ⟨Int.le_refl _, Int.le_refl _⟩
  | some x => exact ⟨(rb_range hc x).1, ih x (List.mem_of_getElem? hj)⟩
theorem does_FnRowBoundMonotone (bs : List Nat) (hb : ∀ b, b ∈ bs → b < 256) (ms : List Nat) (hms : ∀ b, b ∈ ms → b < 256) : Does Try.prog 3 [] [bytesD bs, bytesD ms] (Bo true) [] := by
  obtain ⟨x, ws, cnt, hd, hz, hwl, hcl, hcr⟩ := DrawRowBound_ok bs hb
  by_cases hl1 : bs.length ≤ 1048576
  · by_cases hl2 : ms.length ≤ 1048576
    · rcases RowBound_all x (by omega) ws (by omega) with hall | ⟨hws, hfine, hall⟩
      · obtain ⟨h1, h2⟩ := hall cnt
        refine does0 c_laws_FnRowBoundMonotone mixed (Nat.le_of_ble_eq_true rfl) ?_
        conv => arg 3; whnf
        repeat' (first
          | with_reducible refine acc_none ?_
          | (conv in hold _ => simp (disch := omega) only [go_sem, bytesD, List.length_map, beq_self_eq_true, bne_self_eq_false])
          | refine Stp.go ?_
          | with_reducible first | refine it_pos rfl ?_ | refine it_neg (by decide) ?_ | refine st_nil rfl ?_ | refine s_op ?_ ?_ | exact True.intro
          | ((with_reducible first | refine dw_reg0 ?_ | refine dw_regB ?_); (conv => arg 3; whnf))
          | (refine Spl.go (fun hq he => ?_) (fun hq he => ?_) <;> first | (exfalso; clear hq; omega) | ((try (first | (conv => arg 8; simp only [hq]) | (conv => arg 4; simp only [hq]))); clear hq))
          | ((with_reducible first | refine c_split (fun hq => ?_) (fun hq => ?_) | refine q_split (fun hq => ?_) (fun hq => ?_)) <;> (try (first | (conv => arg 8; simp only [hq]) | (conv => arg 4; simp only [hq]))))
          | (with_reducible refine fin_0 ?_ (by first | rfl | (conv => lhs; simp only [go_sem, bytesD, List.length_map, beq_self_eq_true, bne_self_eq_false])) ?_)
          | (with_reducible show evC _ _ _ _ _ _ _ _ _ _ _ _
             first
             | (refine c_doesE (hd) ?_ ?_ ?_
                · ((try (conv => rhs; simp (disch := omega) only [go_sem, bytesD, List.length_map, beq_self_eq_true, bne_self_eq_false])); try rfl)
                · first | rfl | (conv => lhs; simp only [go_sem, bytesD, List.length_map, beq_self_eq_true, bne_self_eq_false]))
             | (refine c_doesE (h2) ?_ ?_ ?_
                · ((try (conv => rhs; simp (disch := omega) only [go_sem, bytesD, List.length_map, beq_self_eq_true, bne_self_eq_false])); try rfl)
                · first | rfl | (conv => lhs; simp only [go_sem, bytesD, List.length_map, beq_self_eq_true, bne_self_eq_false]))
             | (refine c_doesE (h1) ?_ ?_ ?_
                · ((try (conv => rhs; simp (disch := omega) only [go_sem, bytesD, List.length_map, beq_self_eq_true, bne_self_eq_false])); try rfl)
                · first | rfl | (conv => lhs; simp only [go_sem, bytesD, List.length_map, beq_self_eq_true, bne_self_eq_false]))
             | (refine c_doesE (h1) ?_ ?_ ?_
                · ((try (conv => rhs; simp (disch := omega) only [go_sem, bytesD, List.length_map, beq_self_eq_true, bne_self_eq_false])); try rfl)
                · first | rfl | (conv => lhs; simp only [go_sem, bytesD, List.length_map, beq_self_eq_true, bne_self_eq_false])))
          | exact Sub.refl _
          | omega)
      · obtain ⟨n, h1, h2, hn⟩ := hall cnt (by omega)
        by_cases hn0 : n < 0
        · refine does0 c_laws_FnRowBoundMonotone mixed (Nat.le_of_ble_eq_true rfl) ?_
          conv => arg 3; whnf
          repeat' (first
            | with_reducible refine acc_none ?_
            | (conv in hold _ => simp (disch := omega) only [go_sem, bytesD, List.length_map, beq_self_eq_true, bne_self_eq_false])
            | refine Stp.go ?_
            | with_reducible first | refine it_pos rfl ?_ | refine it_neg (by decide) ?_ | refine st_nil rfl ?_ | refine s_op ?_ ?_ | exact True.intro
            | ((with_reducible first | refine dw_reg0 ?_ | refine dw_regB ?_); (conv => arg 3; whnf))
            | (refine Spl.go (fun hq he => ?_) (fun hq he => ?_) <;> first | (exfalso; clear hq; omega) | ((try (first | (conv => arg 8; simp only [hq]) | (conv => arg 4; simp only [hq]))); clear hq))
            | ((with_reducible first | refine c_split (fun hq => ?_) (fun hq => ?_) | refine q_split (fun hq => ?_) (fun hq => ?_)) <;> (try (first | (conv => arg 8; simp only [hq]) | (conv => arg 4; simp only [hq]))))
            | (with_reducible refine fin_0 ?_ (by first | rfl | (conv => lhs; simp only [go_sem, bytesD, List.length_map, beq_self_eq_true, bne_self_eq_false])) ?_)
            | (with_reducible show evC _ _ _ _ _ _ _ _ _ _ _ _
               first
               | (refine c_doesE (hd) ?_ ?_ ?_
                  · ((try (conv => rhs; simp (disch := omega) only [go_sem, bytesD, List.length_map, beq_self_eq_true, bne_self_eq_false])); try rfl)
                  · first | rfl | (conv => lhs; simp only [go_sem, bytesD, List.length_map, beq_self_eq_true, bne_self_eq_false]))
               | (refine c_doesE (h2) ?_ ?_ ?_
                  · ((try (conv => rhs; simp (disch := omega) only [go_sem, bytesD, List.length_map, beq_self_eq_true, bne_self_eq_false])); try rfl)
                  · first | rfl | (conv => lhs; simp only [go_sem, bytesD, List.length_map, beq_self_eq_true, bne_self_eq_false]))
               | (refine c_doesE (h1) ?_ ?_ ?_
                  · ((try (conv => rhs; simp (disch := omega) only [go_sem, bytesD, List.length_map, beq_self_eq_true, bne_self_eq_false])); try rfl)
                  · first | rfl | (conv => lhs; simp only [go_sem, bytesD, List.length_map, beq_self_eq_true, bne_self_eq_false]))
               | (refine c_doesE (h1) ?_ ?_ ?_
                  · ((try (conv => rhs; simp (disch := omega) only [go_sem, bytesD, List.length_map, beq_self_eq_true, bne_self_eq_false])); try rfl)
                  · first | rfl | (conv => lhs; simp only [go_sem, bytesD, List.length_map, beq_self_eq_true, bne_self_eq_false])))
            | exact Sub.refl _
            | omega)
        · obtain ⟨hlen, hco, hnr⟩ : cnt.length = ws.length ∧ cntOk cnt ∧ n = rb cnt x := by
            rcases hn with h | h
            · exact h
            · exact absurd h.1 (by omega)
          have hkm : (ms.length : Int).tmod (cnt.length : Int) = ((ms.length % cnt.length : Nat) : Int) := rfl
          have hkl : ms.length % cnt.length < cnt.length := Nat.mod_lt _ (by omega)
          have hk50 : (ms.length : Int).tmod 50 = ((ms.length % 50 : Nat) : Int) := rfl
          have h50 : ms.length % 50 < 50 := Nat.mod_lt _ (by omega)
          generalize ms.length % cnt.length = k at hkm hkl
          generalize ms.length % 50 = m at hk50 h50
          obtain ⟨y, hy⟩ : ∃ y, cnt[k]? = some y := ⟨_, List.getElem?_eq_getElem hkl⟩
          have hy4 := hco k y hy
          have hpos : (cnt.map I)[k]? = some (I y) := by rw [List.getElem?_map, hy]; rfl
          have hco' : cntOk (cnt.set k (min (y + 1 + m) 400)) := fun j z hj => by
            rcases List.mem_or_eq_of_mem_set (List.mem_of_getElem? hj) with h | h
            · obtain ⟨i, hi, he⟩ := List.getElem_of_mem h
              exact hco i z (by rw [List.getElem?_eq_getElem hi, he])
            · omega
          have hcc : ∀ j, cnt.getD j 0 ≤ (cnt.set k (min (y + 1 + m) 400)).getD j 0 := fun j => by
            rw [List.getD_eq_getElem?_getD, List.getD_eq_getElem?_getD, List.getElem?_set]
            by_cases hj : k = j
            · subst hj
              rw [if_pos rfl, if_pos hkl, hy]
              show y ≤ min (y + 1 + m) 400
              omega
            · rw [if_neg hj]
              exact Int.le_refl _
          have hsl : (cnt.set k (min (y + 1 + m) 400)).length = cnt.length := List.length_set ..
          have hsi : (cnt.map I).set k (I (min (y + 1 + m) 400)) = (cnt.set k (min (y + 1 + m) 400)).map I := by rw [List.map_set]
          obtain ⟨n', h3, h4, hn'⟩ := hall (cnt.set k (min (y + 1 + m) 400)) (by omega)
          have hge : n ≤ n' := by
            rcases hn' with h | h
            · rw [hnr, h.2.2]
              exact rb_mono hco hcc x
            · exact absurd ⟨by rw [hsl, hlen], hco'⟩ h.2
          generalize cnt.set k (min (y + 1 + m) 400) = cnt' at *
          have t1 := take_allL I cnt' (n := cnt.length) hsl.symm
          refine does0 c_laws_FnRowBoundMonotone mixed (Nat.le_of_ble_eq_true rfl) ?_
          conv => arg 3; whnf
          repeat' (first
            | with_reducible refine acc_none ?_
            | (conv in hold _ => simp (disch := omega) only [go_sem, bytesD, List.length_map, beq_self_eq_true, bne_self_eq_false])
            | refine Stp.go ?_
            | with_reducible first | refine it_pos rfl ?_ | refine it_neg (by decide) ?_ | refine st_nil rfl ?_ | refine s_op ?_ ?_ | exact True.intro
            | ((with_reducible first | refine dw_reg0 ?_ | refine dw_regB ?_); (conv => arg 3; whnf))
            | (refine Spl.go (fun hq he => ?_) (fun hq he => ?_) <;> first | (exfalso; clear hq; omega) | ((try (first | (conv => arg 8; simp only [hq]) | (conv => arg 4; simp only [hq]))); clear hq))
            | ((with_reducible first | refine c_split (fun hq => ?_) (fun hq => ?_) | refine q_split (fun hq => ?_) (fun hq => ?_)) <;> (try (first | (conv => arg 8; simp only [hq]) | (conv => arg 4; simp only [hq]))))
            | (with_reducible refine fin_0 ?_ (by first | rfl | (conv => lhs; simp only [go_sem, bytesD, List.length_map, beq_self_eq_true, bne_self_eq_false])) ?_)
            | (with_reducible show evC _ _ _ _ _ _ _ _ _ _ _ _
               first
               | (refine c_doesE (hd) ?_ ?_ ?_
                  · ((try (conv => rhs; simp (disch := omega) only [go_sem, bytesD, List.length_map, beq_self_eq_true, bne_self_eq_false])); try rfl)
                  · first | rfl | (conv => lhs; simp only [go_sem, bytesD, List.length_map, beq_self_eq_true, bne_self_eq_false]))
               | (refine c_doesE (h2) ?_ ?_ ?_
                  · ((try (conv => rhs; simp (disch := omega) only [go_sem, bytesD, List.length_map, beq_self_eq_true, bne_self_eq_false])); try rfl)
                  · first | rfl | (conv => lhs; simp only [go_sem, bytesD, List.length_map, beq_self_eq_true, bne_self_eq_false])))
            | exact Sub.refl _
            | omega)
          refine c_doesE (h1) ?_ ?_ ?_
          · ((try (conv => rhs; simp (disch := omega) only [go_sem, bytesD, List.length_map, beq_self_eq_true, bne_self_eq_false, hkm, hk50, hpos])); try rfl)
          · first | rfl | (conv => lhs; simp only [go_sem, bytesD, List.length_map, beq_self_eq_true, bne_self_eq_false, hkm, hk50, hpos])
          repeat' ((fail_if_success (with_reducible first | refine s_call ?_ | refine s_cal ?_ | refine s_inv ?_)); first
            | with_reducible refine acc_none ?_
            | (conv in hold _ => simp (disch := omega) only [go_sem, bytesD, List.length_map, beq_self_eq_true, bne_self_eq_false, hkm, hk50, hpos])
            | refine Stp.go ?_
            | with_reducible first | refine it_pos rfl ?_ | refine it_neg (by decide) ?_ | refine st_nil rfl ?_ | refine s_op ?_ ?_ | exact True.intro
            | ((with_reducible first | refine dw_reg0 ?_ | refine dw_regB ?_); (conv => arg 3; whnf))
            | (refine Spl.go (fun hq he => ?_) (fun hq he => ?_) <;> first | (exfalso; clear hq; omega) | ((try (first | (conv => arg 8; simp only [hq]) | (conv => arg 4; simp only [hq]))); clear hq))
            | ((with_reducible first | refine c_split (fun hq => ?_) (fun hq => ?_) | refine q_split (fun hq => ?_) (fun hq => ?_)) <;> (try (first | (conv => arg 8; simp only [hq]) | (conv => arg 4; simp only [hq]))))
            | (with_reducible refine fin_0 ?_ (by first | rfl | (conv => lhs; simp only [go_sem, bytesD, List.length_map, beq_self_eq_true, bne_self_eq_false, hkm, hk50, hpos])) ?_)
            | exact Sub.refl _
            | omega)
          refine s_pre (pre_frz (t := 68) (g := 2000047) (by decide) (by decide) rfl ?_) ?_
          rotate_left
          repeat' (first
            | with_reducible refine acc_none ?_
            | (conv in hold _ => simp (disch := omega) only [go_sem, bytesD, List.length_map, beq_self_eq_true, bne_self_eq_false, hsi, t1, hsl, List.length_map, Nat.le_refl])
            | refine Stp.go ?_
            | with_reducible first | refine it_pos rfl ?_ | refine it_neg (by decide) ?_ | refine st_nil rfl ?_ | refine s_op ?_ ?_ | exact True.intro
            | ((with_reducible first | refine dw_reg0 ?_ | refine dw_regB ?_); (conv => arg 3; whnf))
            | (refine Spl.go (fun hq he => ?_) (fun hq he => ?_) <;> first | (exfalso; clear hq; omega) | ((try (first | (conv => arg 8; simp only [hq]) | (conv => arg 4; simp only [hq]))); clear hq))
            | ((with_reducible first | refine c_split (fun hq => ?_) (fun hq => ?_) | refine q_split (fun hq => ?_) (fun hq => ?_)) <;> (try (first | (conv => arg 8; simp only [hq]) | (conv => arg 4; simp only [hq]))))
            | (with_reducible refine fin_0 ?_ (by first | rfl | (conv => lhs; simp only [go_sem, bytesD, List.length_map, beq_self_eq_true, bne_self_eq_false, hsi, t1, hsl, List.length_map, Nat.le_refl])) ?_)
            | exact Sub.refl _
            | omega)
          refine c_doesE (h4) ?_ ?_ ?_
          · ((try (conv => rhs; simp (disch := omega) only [go_sem, bytesD, List.length_map, beq_self_eq_true, bne_self_eq_false])); try rfl)
          · first | rfl | (conv => lhs; simp only [go_sem, bytesD, List.length_map, beq_self_eq_true, bne_self_eq_false])
          repeat' (first
            | with_reducible refine acc_none ?_
            | (conv in hold _ => simp (disch := omega) only [go_sem, bytesD, List.length_map, beq_self_eq_true, bne_self_eq_false])
            | refine Stp.go ?_
            | with_reducible first | refine it_pos rfl ?_ | refine it_neg (by decide) ?_ | refine st_nil rfl ?_ | refine s_op ?_ ?_ | exact True.intro
            | ((with_reducible first | refine dw_reg0 ?_ | refine dw_regB ?_); (conv => arg 3; whnf))
            | (refine Spl.go (fun hq he => ?_) (fun hq he => ?_) <;> first | (exfalso; clear hq; omega) | ((try (first | (conv => arg 8; simp only [hq]) | (conv => arg 4; simp only [hq]))); clear hq))
            | ((with_reducible first | refine c_split (fun hq => ?_) (fun hq => ?_) | refine q_split (fun hq => ?_) (fun hq => ?_)) <;> (try (first | (conv => arg 8; simp only [hq]) | (conv => arg 4; simp only [hq]))))
            | (with_reducible refine fin_0 ?_ (by first | rfl | (conv => lhs; simp only [go_sem, bytesD, List.length_map, beq_self_eq_true, bne_self_eq_false])) ?_)
            | exact Sub.refl _
            | omega)
          · exact Sub.of_eq (by rw [decide_eq_true hge])
          · show D.purL ((cnt.map I).set k (I (min (y + 1 + m) 400))) = true
            rw [hsi]
            exact ints_pur _
    · refine does0 c_laws_FnRowBoundMonotone mixed (Nat.le_of_ble_eq_true rfl) ?_
      conv => arg 3; whnf
      repeat' (first
        | with_reducible refine acc_none ?_
        | (conv in hold _ => simp (disch := omega) only [go_sem, bytesD, List.length_map, beq_self_eq_true, bne_self_eq_false])
        | refine Stp.go ?_
        | with_reducible first | refine it_pos rfl ?_ | refine it_neg (by decide) ?_ | refine st_nil rfl ?_ | refine s_op ?_ ?_ | exact True.intro
        | ((with_reducible first | refine dw_reg0 ?_ | refine dw_regB ?_); (conv => arg 3; whnf))
        | (refine Spl.go (fun hq he => ?_) (fun hq he => ?_) <;> first | (exfalso; clear hq; omega) | ((try (first | (conv => arg 8; simp only [hq]) | (conv => arg 4; simp only [hq]))); clear hq))
        | ((with_reducible first | refine c_split (fun hq => ?_) (fun hq => ?_) | refine q_split (fun hq => ?_) (fun hq => ?_)) <;> (try (first | (conv => arg 8; simp only [hq]) | (conv => arg 4; simp only [hq]))))
        | (with_reducible refine fin_0 ?_ (by first | rfl | (conv => lhs; simp only [go_sem, bytesD, List.length_map, beq_self_eq_true, bne_self_eq_false])) ?_)
        | exact Sub.refl _
        | omega)
  · refine does0 c_laws_FnRowBoundMonotone mixed (Nat.le_of_ble_eq_true rfl) ?_
    conv => arg 3; whnf
    repeat' (first
      | with_reducible refine acc_none ?_
      | (conv in hold _ => simp (disch := omega) only [go_sem, bytesD, List.length_map, beq_self_eq_true, bne_self_eq_false])
      | refine Stp.go ?_
      | with_reducible first | refine it_pos rfl ?_ | refine it_neg (by decide) ?_ | refine st_nil rfl ?_ | refine s_op ?_ ?_ | exact True.intro
      | ((with_reducible first | refine dw_reg0 ?_ | refine dw_regB ?_); (conv => arg 3; whnf))
      | (refine Spl.go (fun hq he => ?_) (fun hq he => ?_) <;> first | (exfalso; clear hq; omega) | ((try (first | (conv => arg 8; simp only [hq]) | (conv => arg 4; simp only [hq]))); clear hq))
      | ((with_reducible first | refine c_split (fun hq => ?_) (fun hq => ?_) | refine q_split (fun hq => ?_) (fun hq => ?_)) <;> (try (first | (conv => arg 8; simp only [hq]) | (conv => arg 4; simp only [hq]))))
      | (with_reducible refine fin_0 ?_ (by first | rfl | (conv => lhs; simp only [go_sem, bytesD, List.length_map, beq_self_eq_true, bne_self_eq_false])) ?_)
      | exact Sub.refl _
      | omega)
theorem walk_FnRowBoundMonotone (a : Option Addr) (len cap : Nat) (zs : List Int) (a' : Option Addr) (len' cap' : Nat) (zs' : List Int) (w : World) (h : IsRow .u8 w a len cap zs) (h' : IsRow .u8 w a' len' cap' zs') :
    Calls Try.prog 3 #[.slice a len cap, .slice a' len' cap'] w fun e W' => e = .returned (.bool true) ∧ Below w.heap.size w W' := walk_of2 does_FnRowBoundMonotone a len cap zs a' len' cap' zs' w h h'
end Go.Proofs.Ytbdpdmojepiepaa
namespace Go.Proofs.Ytbdpdmojepiepaa.fnRowBoundMonotone
open Go.ChangeShapes Go.WideShapes Go.ChangeAt Go.RowKit Go.Joins
set_option linter.unusedVariables false

set_option maxRecDepth 100000 in
theorem lifted (os : Os) (started : os.Started) (H : Type) (enc : TypeId × Value → H) :
    ReturnsInHanded {} Try.checked os 3 .any (Rows.fnRowBoundMonotoneSpec.pre6 enc Try.prog Try.f3 Rows.fnRowBoundMonotoneRow.domain false) (Rows.fnRowBoundMonotoneSpec.post enc Try.prog Try.f3 false true false false) := by
  refine returnsInHanded_of_change (C := Try.checked) own started (by kernel_rfl) Try.func3
    (ChangeSpec.witness6 (enc := enc) (C := Try.checked) false ⟨#[], #[.slice none 0 0, .slice none 0 0], []⟩ 8 (by kernel_rfl) (by kernel_rfl) (by kernel_rfl) (by kernel_rfl)) ?_
  intro W base args ds gs before hval0 hW hcnd _
  have hval : ∀ (j : Nat) t v, Try.f3.params[j]? = some t → args[j]? = some v → Value.okWide Try.prog W .any base t v := hval0
  have hW' := hW
  obtain ⟨p, q, hA0, hV, rfl, hfz, hnd⟩ := hW
  have hA : DataW.TrodAll enc Try.prog W 0 (fun _ => true) true Try.f3.params.toList args.toList ds p := hA0
  rw [Try.params3] at hA hval
  obtain ⟨v0, vs0, d0, ds0, p0, q0, hargs, rfl, rfl, h0, r0⟩ := trodAll_cons hA
  obtain ⟨v1, vs1, d1, ds1, p1, q1, rfl, rfl, rfl, h1, r1⟩ := trodAll_cons r0
  obtain ⟨rfl, rfl, rfl⟩ := trodAll_nil r1
  obtain rfl : args = #[v0, v1] := by cases args; simp_all
  obtain ⟨rfl, rfl⟩ := trodVars_none hV
  have k0 := h0
  have lt0 : ∀ x ∈ p0, x.block < W.heap.size := by obtain ⟨m, hm⟩ := k0; exact DataW.trod_lt m _ _ _ hm
  have k1 := h1
  have lt1 : ∀ x ∈ p1, x.block < W.heap.size := by obtain ⟨m, hm⟩ := k1; exact DataW.trod_lt m _ _ _ hm
  obtain ⟨a0, len0, cap0, z0, hv0, wr0⟩ := open_code (hval 0 22 v0 rfl rfl) h0
  subst hv0
  obtain ⟨a1, len1, cap1, z1, hv1, wr1⟩ := open_code (hval 1 22 v1 rfl rfl) h1
  subst hv1
  clear hA0 hval0
  refine (walk_FnRowBoundMonotone a0 len0 cap0 z0 a1 len1 cap1 z1 W wr0 wr1).mono fun e W' ⟨he, bel⟩ => ?_
  subst he
  exact ⟨_, rfl, _, _, _, [], _, [], hW', trodAll_mk1 (shut_bool Try.underlying4 _), (trodAll_cons_mk (Below.trod laidOut (by kernel_rfl) (of_decide_eq_true (by kernel_rfl)) k0 bel lt0) (trodAll_cons_mk (Below.trod laidOut (by kernel_rfl) (of_decide_eq_true (by kernel_rfl)) k1 bel lt1) trodAll_mk0)), rfl, bel.frame _, fun h => by cases h⟩

theorem closed : joinedFacts Try.prog 3 Try.f3 Rows.fnRowBoundMonotoneSpec Rows.fnRowBoundMonotoneRow = true := by
  unfold joinedFacts
  exact Facts.and2 (Facts.and2 (Facts.and2 (Facts.and2 (Facts.and2 (Facts.and2 (Facts.and2 (Facts.and2 (Facts.and2 (Facts.and2 (Facts.and2 (Facts.and2 (Facts.and2 (Facts.and2 (Facts.and2 (Facts.and2 (Facts.and2 (Facts.and2 (Facts.and2 (Facts.and2 (Facts.and2 (Facts.and2 (Facts.and2 (Facts.and2 (Facts.and2 (Facts.and2 (Facts.and2 (Facts.and2 (Facts.and2 (Facts.and2 (Facts.and2 ((by as_aux_lemma => kernel_rfl)) Facts.p2) Facts.p3) (by as_aux_lemma => kernel_rfl)) (by as_aux_lemma => kernel_rfl)) (by as_aux_lemma => kernel_rfl)) Facts.p7) (by as_aux_lemma => kernel_rfl)) Facts.p9) (by as_aux_lemma => kernel_rfl)) (by as_aux_lemma => kernel_rfl)) (by as_aux_lemma => kernel_rfl)) (by as_aux_lemma => kernel_rfl)) (by as_aux_lemma => kernel_rfl)) (by as_aux_lemma => kernel_rfl)) (by as_aux_lemma => kernel_rfl)) (by as_aux_lemma => kernel_rfl)) (by as_aux_lemma => kernel_rfl)) (by as_aux_lemma => kernel_rfl)) (by as_aux_lemma => kernel_rfl)) (by as_aux_lemma => kernel_rfl)) (by as_aux_lemma => kernel_rfl)) Facts.p22) (by as_aux_lemma => kernel_rfl)) Facts.p23b) Facts.p24) Facts.p24b) Facts.p24c) (by as_aux_lemma => kernel_rfl)) (by as_aux_lemma => kernel_rfl)) (by as_aux_lemma => kernel_rfl)) (by as_aux_lemma => kernel_rfl)

theorem over : Rows.fnRowBoundMonotoneRow.holds Try.pinned (OpenSpec.ofChange Rows.fnRowBoundMonotoneSpec) :=
  OpenClaim.holds_of_wide 3 Try.f3 rfl rfl rfl rfl rfl rfl rfl ⟨rfl, rfl, rfl, rfl, rfl⟩ rfl rfl rfl rfl rfl (by as_aux_lemma => kernel_rfl) Try.func3 closed
    (of_decide_eq_true (by as_aux_lemma => kernel_rfl)) (by unfold Func.isWrapper; rw [if_neg (of_decide_eq_false (by as_aux_lemma => kernel_rfl))]; exact ⟨rfl, rfl⟩)
    (fun os started H enc _ => lifted os started H enc)

theorem proved : Rows.FnRowBoundMonotoneSaid := over
end Go.Proofs.Ytbdpdmojepiepaa.fnRowBoundMonotone
