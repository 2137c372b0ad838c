/-
  Constants taken out of an expression and put back. No condition.
-/
import Derived.Test.YtpmmagnphfcdnaaVExA
import Derived.Test.YtpmmagnphfcdnaaVSub
set_option maxHeartbeats 4000000
set_option maxRecDepth 100000
set_option linter.unusedVariables false
set_option linter.unusedSimpArgs false
namespace Go.Proofs.Ytpmmagnphfcdnaa
open Go.RowKit

theorem exL_all {w : Int} {p : E → List V → Prop} : ∀ (l : List E), (∀ x, x ∈ l → ∀ vs, p (exE w x vs).1 (exE w x vs).2) → (∀ x a us, p x a → p x (a ++ us)) → ∀ vs y, y ∈ (exL w l vs).1 → p y (exL w l vs).2
  | [], _, _, vs, y, hy => by cases hy
  | e :: l, h, hm, vs, y, hy => by
    rw [exL] at hy ⊢
    rcases List.mem_cons.1 hy with rfl | hy
    · obtain ⟨us, h1, _⟩ := exL_pre w l (exE w e vs).2
      show p _ (exL w l (exE w e vs).2).2
      rw [h1]
      exact hm _ _ _ (h e (List.mem_cons_self ..) vs)
    · exact exL_all l (fun x hx => h x (List.mem_cons_of_mem _ hx)) hm _ y hy
theorem exE_ok {w : Nat} (hw : 1 ≤ w) {N : Nat} : ∀ (e : E) (d : Nat), eOk e w d → ∀ vs, (exE w e vs).2.length ≤ N → eOk (exE w e vs).1 ((w : Int) + N) d := by
  refine E.ind (fun e ih d h vs hN => ?_)
  have h1 := (eOk_iff e w d).1 h
  by_cases hk : e.k = 2
  · rw [exE_c hk] at hN ⊢
    rw [List.length_append, List.length_singleton] at hN
    refine (eOk_iff _ _ _).2 ⟨by show ((0 : Nat) : Int) = kidsN 1; rfl, fun h => absurd h (by show ¬ 0 < ([] : List E).length; decide), fun x hx => (by cases hx), ?_⟩
    show leafOk 1 ((w : Int) + vs.length) ⟨false, 0⟩ ((w : Int) + N)
    unfold leafOk
    rw [if_pos rfl]
    exact ⟨by omega, by omega, rfl, rfl⟩
  · rw [exE_n hk] at hN ⊢
    have hl := exL_len w e.ks vs
    refine (eOk_iff _ _ _).2 ⟨?_, ?_, ?_, ?_⟩
    · show ((exL w e.ks vs).1.length : Int) = kidsN e.k
      rw [hl]; exact h1.1
    · show 0 < (exL w e.ks vs).1.length → d ≠ 0
      rw [hl]; exact h1.2.1
    · have := exL_all (w := w) (p := fun y a => a.length ≤ N → eOk y ((w : Int) + N) (d - 1)) e.ks (fun x hx us hus => ih x hx (d - 1) (h1.2.2.1 x hx) us hus) (fun x a us hp hle => hp (by rw [List.length_append] at hle; omega)) vs
      exact fun x hx => this x hx hN
    · have hlf := h1.2.2.2
      show leafOk e.k e.c e.v ((w : Int) + N)
      unfold leafOk at hlf ⊢
      by_cases h1k : e.k = 1
      · rw [if_pos h1k] at hlf ⊢
        exact ⟨hlf.1, by have := hlf.2.1; omega, hlf.2.2⟩
      · rw [if_neg h1k, if_neg hk] at hlf ⊢
        exact hlf
theorem exE_vals {w : Int} : ∀ (e : E) (d : Nat), eOk e w d → ∀ vs, (∀ v, v ∈ vs → v.ok) → ∀ v, v ∈ (exE w e vs).2 → v.ok := by
  refine E.ind (fun e ih d h vs hvs => ?_)
  have h1 := (eOk_iff e w d).1 h
  by_cases hk : e.k = 2
  · rw [exE_c hk]
    intro v hv
    rcases List.mem_append.1 hv with hv | hv
    · exact hvs v hv
    · rw [List.mem_singleton.1 hv]
      have hl := h1.2.2.2
      unfold leafOk at hl
      rw [if_neg (by omega), if_pos hk] at hl
      exact hl.2
  · rw [exE_n hk]
    have key : ∀ l : List E, (∀ x, x ∈ l → x ∈ e.ks) → ∀ us, (∀ v, v ∈ us → v.ok) → ∀ v, v ∈ (exL w l us).2 → v.ok := by
      intro l
      induction l with
      | nil => intro _ us hus v hv; exact hus v hv
      | cons a l il =>
        intro hm us hus
        rw [exL]
        exact il (fun x hx => hm x (List.mem_cons_of_mem _ hx)) _ (ih a (hm a (List.mem_cons_self ..)) (d - 1) (h1.2.2.1 a (hm a (List.mem_cons_self ..))) us hus)
    exact key e.ks (fun _ h => h) vs hvs
/-- What was taken out is put back. -/
theorem ex_bind {w : Int} : ∀ (e : E) (d : Nat), eOk e w d → ∀ (vs t : List V), rwE (bindTop w ((exE w e vs).2 ++ t)) (exE w e vs).1 = e := by
  refine E.ind (fun e ih d h vs t => ?_)
  have h1 := (eOk_iff e w d).1 h
  by_cases hk : e.k = 2
  · have hl := h1.2.2.2
    unfold leafOk at hl
    rw [if_neg (by omega), if_pos hk] at hl
    have hks : e.ks = [] := by
      have := h1.1
      rw [kidsN_leaf (.inr hk)] at this
      exact List.length_eq_zero_iff.1 (by omega)
    rw [exE_c hk, rwE_eq]
    show bindTop w (vs ++ [e.v] ++ t) (.mk 1 (w + vs.length) ⟨false, 0⟩ []) = e
    unfold bindTop
    rw [if_pos ⟨rfl, by show w ≤ w + (vs.length : Int); omega⟩]
    have hi : (w + (vs.length : Int) - w).toNat = vs.length := by omega
    show E.mk 2 0 ((vs ++ [e.v] ++ t).getD (w + (vs.length : Int) - w).toNat ⟨false, 0⟩) [] = e
    rw [hi, List.append_assoc, List.getD_eq_getElem?_getD, List.getElem?_append_right (Nat.le_refl _), Nat.sub_self]
    obtain ⟨k, c, v, ks⟩ := e
    simp only [E.k_mk, E.c_mk, E.v_mk, E.ks_mk] at *
    rw [hk, hl.1, hks]
    rfl
  · rw [exE_n hk, rwE_eq]
    have key : ∀ l : List E, (∀ x, x ∈ l → x ∈ e.ks) → ∀ us t, (exL w l us).1.map (rwE (bindTop w ((exL w l us).2 ++ t))) = l := by
      intro l
      induction l with
      | nil => intro _ us t; rfl
      | cons a l il =>
        intro hm us t
        rw [exL]
        obtain ⟨u2, h2, _⟩ := exL_pre w l (exE w a us).2
        show rwE (bindTop w ((exL w l (exE w a us).2).2 ++ t)) (exE w a us).1 :: List.map _ (exL w l (exE w a us).2).1 = _
        rw [il (fun x hx => hm x (List.mem_cons_of_mem _ hx)), h2, List.append_assoc, ih a (hm a (List.mem_cons_self ..)) (d - 1) (h1.2.2.1 a (hm a (List.mem_cons_self ..)))]
    rw [rwL_map]
    show bindTop w ((exL w e.ks vs).2 ++ t) (.mk e.k e.c e.v ((exL w e.ks vs).1.map (rwE (bindTop w ((exL w e.ks vs).2 ++ t))))) = e
    rw [key e.ks (fun _ h => h) vs t]
    unfold bindTop
    by_cases hk1 : e.k = 1
    · have hl := h1.2.2.2
      unfold leafOk at hl
      rw [if_pos hk1] at hl
      rw [if_neg (by rintro ⟨_, h2⟩; have h2 : w ≤ e.c := h2; omega)]
      cases e; rfl
    · rw [if_neg (fun h => hk1 h.1)]
      cases e; rfl
end Go.Proofs.Ytpmmagnphfcdnaa
