/-
  What the laws of expressions share. No condition.
-/
import Derived.Test.YtibaamlhjpmjeaaVTerm
import Derived.Test.YtibaamlhjpmjeaaVEvS
import Derived.Test.YtibaamlhjpmjeaaVDrawE
import Derived.Test.YtibaamlhjpmjeaaVLaw
set_option maxHeartbeats 4000000
set_option maxRecDepth 100000
namespace Go.Proofs.Ytibaamlhjpmjeaa
open Go.RowKit

/-- Valid for a valid row. -/
def valid (e : E) (row : List V) : Prop := rowOk row ∧ eOk e row.length 8
theorem evalD_t {e : E} {row : List V} (h : valid e row) : evalD e row = .tup [vD (ev e row), Bo true] := if_pos h
theorem evalD_f {e : E} {row : List V} (h : ¬ valid e row) : evalD e row = .tup [vD ⟨false, 0⟩, Bo false] := if_neg h
theorem impl_t {e : E} {row : List V} (h : valid e row) : Does Try.prog 25 [] [eD e, rowD row] (.tup [vD (ev e row), Bo true]) [] := by
  have := EvalExpr_impl e row (by have := h.1.1; omega)
  rwa [evalD_t h] at this
theorem impl_f {e : E} {row : List V} (hl : row.length < 1048577) (h : ¬ valid e row) : Does Try.prog 25 [] [eD e, rowD row] (.tup [vD ⟨false, 0⟩, Bo false]) [] := by
  have := EvalExpr_impl e row hl
  rwa [evalD_f h] at this
theorem eOk_mono {w : Int} : ∀ (e : E) (d d' : Nat), d ≤ d' → eOk e w d → eOk e w d' := by
  refine E.ind (fun e ih d d' hd h => ?_)
  rw [eOk_iff] at h ⊢
  exact ⟨h.1, fun h0 => by have := h.2.1 h0; omega, fun x hx => ih x hx (d - 1) (d' - 1) (by omega) (h.2.2.1 x hx), h.2.2.2⟩
theorem valid_kid {e a : E} {row : List V} (h : valid e row) (ha : a ∈ e.ks) : valid a row := ⟨h.1, eOk_mono a 7 8 (by decide) (((eOk_iff e _ 8).1 h.2).2.2.1 a ha)⟩
theorem valid_two {e : E} {row : List V} (h : valid e row) (hk : 3 ≤ e.k ∧ e.k ≤ 9) : ∃ a b, e.ks = [a, b] ∧ ev e row = comb e.k (ev a row) (ev b row) ∧ valid a row ∧ valid b row := by
  rcases eOk_kids h.2 with ⟨h1, _⟩ | ⟨h1, _⟩ | ⟨_, a, b, hks, _, _⟩
  · omega
  · omega
  · exact ⟨a, b, hks, ev_two (by omega) (by omega) (by omega) (by omega) hks, valid_kid h (by rw [hks]; exact List.mem_cons_self ..), valid_kid h (by rw [hks]; exact List.mem_cons_of_mem _ (List.mem_cons_self ..))⟩
theorem valid_ok {e : E} {row : List V} (h : valid e row) : (ev e row).ok := ev_ok h.1.2 e 8 h.2
theorem leafOk_wide {k c w w' : Int} {v : V} (h : w ≤ w') (hl : leafOk k c v w) : leafOk k c v w' := by
  unfold leafOk at *
  by_cases hk : k = 1
  · rw [if_pos hk] at *
    exact ⟨hl.1, by omega, hl.2.2⟩
  · rw [if_neg hk] at *
    exact hl
theorem eOk_wide {w w' : Int} (h : w ≤ w') : ∀ (e : E) (d : Nat), eOk e w d → eOk e w' d := by
  refine E.ind (fun e ih d he => ?_)
  have h1 := (eOk_iff e w d).1 he
  exact (eOk_iff e w' d).2 ⟨h1.1, h1.2.1, fun x hx => ih x hx (d - 1) (h1.2.2.1 x hx), leafOk_wide h h1.2.2.2⟩
end Go.Proofs.Ytibaamlhjpmjeaa
