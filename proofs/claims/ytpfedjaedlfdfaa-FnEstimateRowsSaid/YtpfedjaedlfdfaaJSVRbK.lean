/-
  A plan with a width is one of its kind throughout. No condition.
-/
import Derived.Test.YtpfedjaedlfdfaaKSVFineE
import Derived.Test.YtpfedjaedlfdfaaKSVRbJ
set_option maxHeartbeats 4000000
set_option maxRecDepth 100000
set_option linter.unusedVariables false
set_option linter.unusedSimpArgs false
namespace Go.Proofs.Ytpfedjaedlfdfaa
open Go.RowKit
/-- Every part has the fields of its kind, and scans a table that is there. -/
inductive Fine (n : Nat) : Pl → Prop
  | mk {p : Pl} (hf : fields p) (hs : p.k = 1 → 0 ≤ p.t ∧ p.t ≤ (n : Int) - 1) (hk : ∀ x, x ∈ p.ks → Fine n x) : Fine n p
theorem Fine.fields {n : Nat} {p : Pl} (h : Fine n p) : fields p := by cases h with | mk h _ _ => exact h
theorem Fine.scan {n : Nat} {p : Pl} (h : Fine n p) : p.k = 1 → 0 ≤ p.t ∧ p.t ≤ (n : Int) - 1 := by cases h with | mk _ h _ => exact h
theorem Fine.kid {n : Nat} {p x : Pl} (h : Fine n p) (hx : x ∈ p.ks) : Fine n x := by cases h with | mk _ _ h => exact h x hx
theorem FineE.fine {ws : List Int} : ∀ p : Pl, FineE ws p → Fine ws.length p :=
  Pl.indA (fun p ih h => .mk h.fields h.scan (fun x hx => ih x hx (h.kid hx)))
end Go.Proofs.Ytpfedjaedlfdfaa
set_option maxHeartbeats 4000000
set_option maxRecDepth 100000
set_option linter.unusedVariables false
set_option linter.unusedSimpArgs false
namespace Go.Proofs.Ytpfedjaedlfdfaa
open Go.RowKit
/-- The bound of a part, out of those of its kids. -/
def rbK (cnt : List Int) (k t : Int) (c : Nat) (l : List Int) : Int :=
  if k = 1 then cnt.getD t.toNat 0 else if k = 4 then min (l.getD 0 0 * l.getD 1 0) M else if k = 5 then min (l.getD 0 0 * max (l.getD 1 0) 1) M
  else if k = 6 then min (l.getD 0 0 + l.getD 1 0) M else if k = 8 ∧ c = 0 then min (l.getD 0 0) 1 else l.getD 0 0
mutual
def rb (cnt : List Int) : Pl → Int
  | .mk k t _ cs ks => rbK cnt k t cs.length (rbL cnt ks)
def rbL (cnt : List Int) : List Pl → List Int
  | [] => []
  | p :: l => rb cnt p :: rbL cnt l
end
theorem rbL_map (cnt : List Int) : ∀ l : List Pl, rbL cnt l = l.map (rb cnt)
  | [] => rfl
  | p :: l => by rw [rbL, rbL_map cnt l]; rfl
theorem rb_eq (cnt : List Int) (p : Pl) : rb cnt p = rbK cnt p.k p.t p.cs.length (p.ks.map (rb cnt)) := by
  cases p with
  | mk k t es cs ks => rw [rb, rbL_map]; rfl
def cntOk (cnt : List Int) : Prop := ∀ (j : Nat) (x : Int), cnt[j]? = some x → 0 ≤ x ∧ x ≤ 400
noncomputable instance cntDec (cnt : List Int) : Decidable (cntOk cnt) := Classical.propDecidable _
theorem getD_in {l : List Int} {B : Int} (hB : 0 ≤ B) (h : ∀ (j : Nat) (x : Int), l[j]? = some x → 0 ≤ x ∧ x ≤ B) (j : Nat) : 0 ≤ l.getD j 0 ∧ l.getD j 0 ≤ B := by
  rw [List.getD_eq_getElem?_getD]
  cases hj : l[j]? with
  | none => exact ⟨Int.le_refl _, hB⟩
  | some x => exact h j x hj
theorem rbK_range {cnt : List Int} (hc : cntOk cnt) (k t : Int) (c : Nat) {l : List Int} (hl : ∀ (j : Nat) (x : Int), l[j]? = some x → 0 ≤ x ∧ x ≤ M) : 0 ≤ rbK cnt k t c l ∧ rbK cnt k t c l ≤ M := by
  have hM : (0 : Int) ≤ M := by unfold M; omega
  have h0 := getD_in hM hl 0
  have h1 := getD_in hM hl 1
  have h2 := getD_in (B := 400) (by omega) hc t.toNat
  have h3 := mul_small h0 h1
  have h4 := mul_small h0 (b := max (l.getD 1 0) 1) (by unfold M at *; omega)
  unfold rbK
  unfold M at *
  split
  · omega
  · split
    · omega
    · split
      · omega
      · split
        · omega
        · split <;> omega
theorem rb_range {cnt : List Int} (hc : cntOk cnt) : ∀ p : Pl, 0 ≤ rb cnt p ∧ rb cnt p ≤ M := by
  refine Pl.indA (fun p ih => ?_)
  rw [rb_eq]
  refine rbK_range hc _ _ _ (fun j x hj => ?_)
  rw [List.getElem?_map] at hj
  cases hk : p.ks[j]? with
  | none => rw [hk] at hj; cases hj
  | some y =>
    rw [hk] at hj
    cases hj
    exact ih y (List.mem_of_getElem? hk)
theorem rbK_mono {cnt cnt' : List Int} (hcc : ∀ j, cnt.getD j 0 ≤ cnt'.getD j 0) (k t : Int) (c : Nat) {l l' : List Int} (hl : ∀ j, 0 ≤ l.getD j 0 ∧ l.getD j 0 ≤ l'.getD j 0) : rbK cnt k t c l ≤ rbK cnt' k t c l' := by
  have h0 := hl 0
  have h1 := hl 1
  have h2 := hcc t.toNat
  have h3 : l.getD 0 0 * l.getD 1 0 ≤ l'.getD 0 0 * l'.getD 1 0 := Int.mul_le_mul h0.2 h1.2 h1.1 (by omega)
  have h4 : l.getD 0 0 * max (l.getD 1 0) 1 ≤ l'.getD 0 0 * max (l'.getD 1 0) 1 := Int.mul_le_mul h0.2 (by omega) (by omega) (by omega)
  unfold rbK M
  generalize l.getD 0 0 * l.getD 1 0 = a at *
  generalize l'.getD 0 0 * l'.getD 1 0 = a' at *
  generalize l.getD 0 0 * max (l.getD 1 0) 1 = b at *
  generalize l'.getD 0 0 * max (l'.getD 1 0) 1 = b' at *
  generalize l.getD 0 0 = c at *
  generalize l'.getD 0 0 = c' at *
  generalize l.getD 1 0 = d at *
  generalize l'.getD 1 0 = d' at *
  generalize cnt.getD t.toNat 0 = e at *
  generalize cnt'.getD t.toNat 0 = e' at *
  repeat' split
  all_goals omega
theorem getD_kid (f : Pl → Int) (l : List Pl) (j : Nat) : (l.map f).getD j 0 = match l[j]? with | none => 0 | some x => f x := by
  rw [List.getD_eq_getElem?_getD, List.getElem?_map]
  cases l[j]? <;> rfl
theorem rbK_1 (cnt : List Int) {k t : Int} (c : Nat) (l : List Int) (h : k = 1) : rbK cnt k t c l = cnt.getD t.toNat 0 := by
  unfold rbK
  rw [if_pos h]
theorem rbK_2 (cnt : List Int) {k t : Int} (c : Nat) (l : List Int) (h : k = 2 ∨ k = 3 ∨ k = 7) : rbK cnt k t c l = l.getD 0 0 := by
  unfold rbK
  rw [if_neg (by omega), if_neg (by omega), if_neg (by omega), if_neg (by omega), if_neg (by omega)]
theorem rbK_4 (cnt : List Int) {k t : Int} (c : Nat) (l : List Int) (h : k = 4) : rbK cnt k t c l = min (l.getD 0 0 * l.getD 1 0) M := by
  unfold rbK
  rw [if_neg (by omega), if_pos h]
theorem rbK_5 (cnt : List Int) {k t : Int} (c : Nat) (l : List Int) (h : k = 5) : rbK cnt k t c l = min (l.getD 0 0 * max (l.getD 1 0) 1) M := by
  unfold rbK
  rw [if_neg (by omega), if_neg (by omega), if_pos h]
theorem rbK_6 (cnt : List Int) {k t : Int} (c : Nat) (l : List Int) (h : k = 6) : rbK cnt k t c l = min (l.getD 0 0 + l.getD 1 0) M := by
  unfold rbK
  rw [if_neg (by omega), if_neg (by omega), if_neg (by omega), if_pos h]
theorem rbK_80 (cnt : List Int) {k t : Int} {c : Nat} (l : List Int) (h : k = 8) (hc : c = 0) : rbK cnt k t c l = min (l.getD 0 0) 1 := by
  unfold rbK
  rw [if_neg (by omega), if_neg (by omega), if_neg (by omega), if_neg (by omega), if_pos ⟨h, hc⟩]
theorem rbK_81 (cnt : List Int) {k t : Int} {c : Nat} (l : List Int) (h : k = 8) (hc : ¬ c = 0) : rbK cnt k t c l = l.getD 0 0 := by
  unfold rbK
  rw [if_neg (by omega), if_neg (by omega), if_neg (by omega), if_neg (by omega), if_neg (fun h => hc h.2)]
end Go.Proofs.Ytpfedjaedlfdfaa
