/-
  The small functions of folding. Search in a list of expressions. Constants with a truth, as both packages ask for them. Search in a list of expressions, for a value that captures a cell. The plain fold. No condition.
-/
import Derived.Test.YtpmmagnphfcdnaaDca
import Derived.Test.YtpmmagnphfcdnaaDcc
import Derived.Test.YtpmmagnphfcdnaaVEq
import Derived.Test.YtpmmagnphfcdnaaVCopy
import Derived.Test.YtpmmagnphfcdnaaVLib
import Derived.Test.YtpmmagnphfcdnaaVEvS
set_option maxHeartbeats 4000000
set_option maxRecDepth 100000
namespace Go.Proofs.Ytpmmagnphfcdnaa
section
open Go.RowKit

/-- A constant. -/
def isC (e : E) : Bool := e.k == 2
theorem constantExpr_ok (v : V) : Does Try.prog 72 [] [vD v] (eD (.mk 2 0 v [])) [] := by
  refine does0 c_impl_constantExpr mixed (Nat.le_of_ble_eq_true rfl) ?_
  conv => arg 3; whnf
  repeat' (first | with_reducible refine acc_none ?_ | (conv in hold _ => simp (disch := omega) only [go_sem]) | refine Stp.go ?_ | (with_reducible first | refine it_pos rfl ?_ | refine it_neg (by decide) ?_ | refine st_nil rfl ?_ | refine s_op ?_ ?_ | exact True.intro) | ((with_reducible first | refine dw_reg0 ?_ | refine dw_regB ?_); (conv => arg 3; whnf)) | (refine Spl.go (fun hq he => ?_) (fun hq he => ?_) <;> first | (exfalso; clear hq; omega) | ((try (first | (conv => arg 8; simp only [hq]) | (conv => arg 4; simp only [hq]))); clear hq)) | ((with_reducible first | refine c_split (fun hq => ?_) (fun hq => ?_) | refine q_split (fun hq => ?_) (fun hq => ?_)) <;> (try (first | (conv => arg 8; simp only [hq]) | (conv => arg 4; simp only [hq])))) | (with_reducible refine fin_0 ?_ (by first | rfl | (conv => lhs; simp only [go_sem])) ?_) | exact Sub.refl _ | omega)
  exact Sub.agg ⟨Sub.refl _, Sub.refl _, Sub.refl _, Sub.refl _, Sub.nul 5, trivial⟩
end
section
open Go.RowKit

/-- The place of the first that is p, or -1. -/
def place (p : E → Bool) (l : List E) : Int := if l.any p then (l.findIdx p : Int) else -1
theorem place_at {p : E → Bool} {l : List E} {i : Nat} {x : E} (hx : l[i]? = some x) (hp : p x = true) (h : ∀ (j : Nat) (u : E), j < i → l[j]? = some u → p u = false) : place p l = i := by
  have hlt := (List.getElem?_eq_some_iff.1 hx).1
  have hxe := (List.getElem?_eq_some_iff.1 hx).2
  have h1 : l.findIdx p = i := (List.findIdx_eq hlt).2 ⟨by rw [hxe]; exact hp, fun j hj => h j _ hj (List.getElem?_eq_getElem (by omega))⟩
  unfold place
  rw [if_pos (List.any_eq_true.2 ⟨x, List.mem_of_getElem? hx, hp⟩), h1]
theorem place_none {p : E → Bool} {l : List E} (h : ∀ u, u ∈ l → p u = false) : place p l = -1 := by
  unfold place
  rw [if_neg]
  intro ha
  obtain ⟨x, hx, hp⟩ := List.any_eq_true.1 ha
  rw [h x hx] at hp
  cases hp
theorem place_pos (p : E → Bool) (l : List E) : (0 ≤ place p l) ↔ l.any p = true := by
  unfold place
  by_cases h : l.any p = true
  · rw [if_pos h]; exact ⟨fun _ => h, fun _ => by omega⟩
  · rw [if_neg h]; exact ⟨fun h' => by omega, fun h' => absurd h' h⟩
end
section
open Go.RowKit

end
section
open Go.RowKit

end
section
open Go.RowKit

/-- The fold of an expression whose kids are folded. -/
noncomputable def foldTop (e : E) : E :=
  if e.ks.isEmpty then e else if e.ks.all isC then .mk 2 0 (ev e []) [] else
  if e.k = 8 ∧ e.ks.any (fun x => isC x && itr x.v == 0) then .mk 2 0 ⟨false, 0⟩ [] else
  if e.k = 9 ∧ e.ks.any (fun x => isC x && itr x.v == 2) then .mk 2 0 ⟨false, 1⟩ [] else e
mutual
noncomputable def foldE : E → E
  | .mk k c v ks => foldTop (.mk k c v (foldL ks))
noncomputable def foldL : List E → List E
  | [] => []
  | e :: l => foldE e :: foldL l
end
theorem foldE_eq (e : E) : foldE e = foldTop (.mk e.k e.c e.v (foldL e.ks)) := by cases e; rfl
theorem foldL_map : ∀ l : List E, foldL l = l.map foldE
  | [] => rfl
  | e :: l => by rw [foldL, foldL_map l, List.map_cons]
theorem itr_tr0 (v : V) : (itr v == 0) = (tr v == 0) := by
  unfold itr tr
  by_cases h : v.b = true
  · rw [if_pos h, if_pos h]; rfl
  · rw [if_neg h, if_neg h]
    by_cases h' : v.n = 0
    · rw [if_pos h', if_pos h']
    · rw [if_neg h', if_neg h']; rfl
theorem itr_tr2 (v : V) : (itr v == 2) = (tr v == 1) := by
  unfold itr tr
  by_cases h : v.b = true
  · rw [if_pos h, if_pos h]; rfl
  · rw [if_neg h, if_neg h]
    by_cases h' : v.n = 0
    · rw [if_pos h', if_pos h']; rfl
    · rw [if_neg h', if_neg h']; rfl
/-- An expression that is no column, of constants alone, is valid for the empty row. -/
theorem eOk_zero {e : E} {w : Int} {d : Nat} (h : eOk e w d) (hk : ¬ e.k = 1) (hc : ∀ x, x ∈ e.ks → isC x = true) : eOk e 0 d := by
  have h1 := (eOk_iff e w d).1 h
  refine (eOk_iff e 0 d).2 ⟨h1.1, h1.2.1, fun x hx => ?_, ?_⟩
  · have h2 := (eOk_iff x w (d - 1)).1 (h1.2.2.1 x hx)
    have hx2 : x.k = 2 := by simpa [isC] using hc x hx
    have h0 : x.ks = [] := List.length_eq_zero_iff.1 (by have := h2.1; rw [kidsN_leaf (Or.inr hx2)] at this; omega)
    refine (eOk_iff x 0 (d - 1)).2 ⟨h2.1, h2.2.1, fun y hy => by rw [h0] at hy; (cases hy), ?_⟩
    have h3 := h2.2.2.2
    unfold leafOk at *
    rw [if_neg (by omega)] at *
    exact h3
  · have h3 := h1.2.2.2
    unfold leafOk at *
    rw [if_neg hk] at *
    exact h3
end
end Go.Proofs.Ytpmmagnphfcdnaa
