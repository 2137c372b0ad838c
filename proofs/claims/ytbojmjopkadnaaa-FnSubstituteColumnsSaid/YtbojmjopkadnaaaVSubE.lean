/-
  Columns replaced by expressions, plainly. No condition.
-/
import Derived.Test.YtbojmjopkadnaaaVEsz
set_option maxHeartbeats 4000000
set_option maxRecDepth 100000
set_option linter.unusedVariables false
set_option linter.unusedSimpArgs false
namespace Go.Proofs.Ytbojmjopkadnaaa
open Go.RowKit

def zE : E := .mk 0 0 ⟨false, 0⟩ []
mutual
def subE (bs : List E) : E → E
  | .mk k c v ks => if k = 1 then bs.getD c.toNat zE else .mk k c v (subL bs ks)
def subL (bs : List E) : List E → List E
  | [] => []
  | e :: l => subE bs e :: subL bs l
end
/-- A part whose kids are replaced already. -/
def visE (bs : List E) (e : E) : E := if e.k = 1 then bs.getD e.c.toNat zE else e
theorem subL_map (bs : List E) : ∀ l : List E, subL bs l = l.map (subE bs)
  | [] => rfl
  | e :: l => by rw [subL, subL_map bs l]; rfl
theorem subE_vis (bs : List E) (e : E) : subE bs e = visE bs (.mk e.k e.c e.v (subL bs e.ks)) := by cases e; rfl
theorem subE_col {bs : List E} {e b : E} (hk : e.k = 1) (hb : bs[e.c.toNat]? = some b) : subE bs e = b := by
  rw [subE_vis, visE, E.k_mk, if_pos hk, E.c_mk, List.getD_eq_getElem?_getD, hb]
  rfl
theorem subE_no {bs : List E} {e : E} (hk : ¬ e.k = 1) : subE bs e = .mk e.k e.c e.v (subL bs e.ks) := by
  rw [subE_vis, visE, E.k_mk, if_neg hk]
theorem esz_pos (e : E) : 1 ≤ esz e := by rw [esz_eq]; omega
theorem eszL_mul {M : Nat} {f : E → E} : ∀ l : List E, (∀ x, x ∈ l → esz (f x) ≤ esz x * M) → eszL (l.map f) ≤ eszL l * M
  | [], _ => Nat.zero_le _
  | e :: l, h => by
    have h1 := h e (List.mem_cons_self ..)
    have h2 := eszL_mul l (fun x hx => h x (List.mem_cons_of_mem _ hx))
    rw [List.map_cons, eszL, eszL, Nat.add_mul]
    omega
theorem esz_subE {bs : List E} {M : Nat} (hM : 1 ≤ M) (hb : ∀ b, b ∈ bs → esz b ≤ M) : ∀ e : E, esz (subE bs e) ≤ esz e * M := by
  refine E.ind (fun e ih => ?_)
  by_cases hk : e.k = 1
  · have h1 : esz (subE bs e) ≤ M := by
      rw [subE_vis, visE, E.k_mk, if_pos hk, E.c_mk, List.getD_eq_getElem?_getD]
      cases hc : bs[e.c.toNat]? with
      | none => exact hM
      | some b => exact hb b (List.mem_of_getElem? hc)
    have h2 := Nat.mul_le_mul_right M (esz_pos e)
    omega
  · rw [subE_no hk, esz_eq, E.ks_mk, esz_eq, subL_map, Nat.add_mul]
    have := eszL_mul e.ks ih
    omega
/-- The value of what was put in. -/
theorem ev_subE {bs : List E} (row : List V) : ∀ (e : E) (d : Nat), eOk e bs.length d → ev (subE bs e) row = ev e (bs.map fun b => ev b row) := by
  refine E.ind (fun e ih d h => ?_)
  have hl := ((eOk_iff e _ d).1 h).2.2.2
  rcases eOk_kids h with ⟨h1, _⟩ | ⟨h1, a, hks, hao⟩ | ⟨h1, a, b, hks, hao, hbo⟩
  · rcases h1 with h1 | h1
    · unfold leafOk at hl
      rw [if_pos h1] at hl
      obtain ⟨b, hb⟩ : ∃ b, bs[e.c.toNat]? = some b := ⟨_, List.getElem?_eq_getElem (show e.c.toNat < bs.length by omega)⟩
      rw [subE_col h1 hb, ev_col (v := ev b row) h1 (by rw [List.getElem?_map, hb]; rfl)]
    · rw [subE_no (by omega), ev_const (by rw [E.k_mk]; exact h1), ev_const h1, E.v_mk]
  · have hs := subE_no (bs := bs) (e := e) (by omega)
    have hk1 : subL bs e.ks = [subE bs a] := by rw [hks]; rfl
    have hi := ih a (by rw [hks]; exact List.mem_cons_self ..) (d - 1) hao
    rw [hs, hk1]
    rcases h1 with h1 | h1
    · rw [ev_not (e := .mk e.k e.c e.v [subE bs a]) h1 rfl, ev_not h1 hks, hi]
    · rw [ev_null (e := .mk e.k e.c e.v [subE bs a]) h1 rfl, ev_null h1 hks, hi]
  · have hs := subE_no (bs := bs) (e := e) (by omega)
    have hk1 : subL bs e.ks = [subE bs a, subE bs b] := by rw [hks]; rfl
    have hi := ih a (by rw [hks]; exact List.mem_cons_self ..) (d - 1) hao
    have hj := ih b (by rw [hks]; exact List.mem_cons_of_mem _ (List.mem_cons_self ..)) (d - 1) hbo
    rw [hs, hk1, ev_two (e := .mk e.k e.c e.v [subE bs a, subE bs b]) (by rw [E.k_mk]; omega) (by rw [E.k_mk]; omega) (by rw [E.k_mk]; omega) (by rw [E.k_mk]; omega) rfl, ev_two (by omega) (by omega) (by omega) (by omega) hks, hi, hj]
    rfl
/-- The columns themselves. -/
def ownC (n : Nat) : List E := (List.range n).map fun i : Nat => .mk 1 (i : Int) ⟨false, 0⟩ []
theorem ownC_len (n : Nat) : (ownC n).length = n := by unfold ownC; simp
theorem ownC_at {n i : Nat} (h : i < n) : (ownC n)[i]? = some (.mk 1 (i : Int) ⟨false, 0⟩ []) := by
  unfold ownC
  rw [List.getElem?_map, List.getElem?_range h]
  rfl
theorem ownC_ok {n : Nat} {b : E} (h : b ∈ ownC n) (d : Nat) : eOk b n d := by
  unfold ownC at h
  obtain ⟨i, hi, rfl⟩ := List.mem_map.1 h
  have := List.mem_range.1 hi
  refine (eOk_iff _ _ _).2 ⟨rfl, fun h => absurd h (by show ¬ 0 < ([] : List E).length; decide), fun x hx => (by cases hx), ?_⟩
  unfold leafOk
  rw [if_pos (by rfl)]
  show 0 ≤ (i : Int) ∧ (i : Int) ≤ n - 1 ∧ _ ∧ _
  exact ⟨by omega, by omega, rfl, rfl⟩
theorem sub_own {n : Nat} : ∀ (e : E) (d : Nat), eOk e n d → subE (ownC n) e = e := by
  refine E.ind (fun e ih d h => ?_)
  have h0 := (eOk_iff e _ d).1 h
  have hl := h0.2.2.2
  by_cases h1 : e.k = 1
  · unfold leafOk at hl
    rw [if_pos h1] at hl
    have hks : e.ks = [] := by
      have := h0.1
      rw [kidsN_leaf (.inl h1)] at this
      exact List.length_eq_zero_iff.1 (by omega)
    rw [subE_col h1 (ownC_at (show e.c.toNat < n by omega))]
    obtain ⟨k, c, v, ks⟩ := e
    obtain ⟨vb, vn⟩ := v
    simp only [E.k_mk, E.c_mk, E.v_mk, E.ks_mk] at *
    subst h1 hks
    obtain ⟨c0, c1, rfl, rfl⟩ := hl
    rw [Int.toNat_of_nonneg c0]
  · rw [subE_no h1, subL_map]
    have : e.ks.map (subE (ownC n)) = e.ks := by
      have h2 : ∀ x, x ∈ e.ks → subE (ownC n) x = x := fun x hx => ih x hx (d - 1) (h0.2.2.1 x hx)
      conv => rhs; rw [← List.map_id e.ks]
      exact List.map_congr_left h2
    rw [this]
    cases e; rfl
end Go.Proofs.Ytbojmjopkadnaaa
