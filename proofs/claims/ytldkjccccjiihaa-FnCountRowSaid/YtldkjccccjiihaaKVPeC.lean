/-
  Joins of the model. No condition.
-/
import Derived.Test.YtldkjccccjiihaaJVUni
set_option maxHeartbeats 4000000
set_option maxRecDepth 100000
set_option linter.unusedVariables false
set_option linter.unusedSimpArgs false
namespace Go.Proofs.Ytldkjccccjiihaa
open Go.RowKit

/-- The rows that match one row. -/
def mtL (e : E) (r : List V) (rb : List (List V)) : List (List V) := (rb.map (fun b => r ++ b)).filter (holdsB e)
def fnd (l : List (List V)) : Bool := !l.isEmpty
def outL (o : Bool) (n : Nat) (e : E) (r : List V) (rb : List (List V)) : List (List V) := if (o && !fnd (mtL e r rb)) = true then [r ++ nulR n] else mtL e r rb
/-- The rows of a join. -/
def joiL (o : Bool) (n : Nat) (e : E) (ra rb : List (List V)) : List (List V) := ra.flatMap (fun r => outL o n e r rb)
theorem mtL_next {e : E} {r : List V} {rb : List (List V)} {k : Nat} {y : List V} (hy : rb[k]? = some y) : mtL e r (rb.take (k + 1)) = mtL e r (rb.take k) ++ (if holdsB e (r ++ y) = true then [r ++ y] else []) := by
  unfold mtL
  rw [List.map_take, List.map_take]
  exact fil_next (by rw [List.getElem?_map, hy]; rfl)
theorem mtL_len (e : E) (r : List V) (rb : List (List V)) : (mtL e r rb).length ≤ rb.length := by
  unfold mtL
  exact Nat.le_trans (List.length_filter_le _ _) (by rw [List.length_map]; exact Nat.le_refl _)
theorem fnd_app (l : List (List V)) (x : List V) : fnd (l ++ [x]) = true := by unfold fnd; cases l <;> rfl
theorem fnd_f {l : List (List V)} (h : fnd l = false) : l = [] := by cases l with | nil => rfl | cons a l => cases h
theorem outL_len (o : Bool) (n : Nat) (e : E) (r : List V) (rb : List (List V)) : (outL o n e r rb).length ≤ rb.length + 1 := by
  unfold outL
  have := mtL_len e r rb
  split
  · rw [List.length_singleton]; omega
  · omega
theorem joiL_len (o : Bool) (n : Nat) (e : E) (rb : List (List V)) : ∀ ra : List (List V), (joiL o n e ra rb).length ≤ ra.length * (rb.length + 1)
  | [] => Nat.zero_le _
  | a :: ra => by
    have h1 := outL_len o n e a rb
    have h2 := joiL_len o n e rb ra
    have h3 : joiL o n e (a :: ra) rb = outL o n e a rb ++ joiL o n e ra rb := List.flatMap_cons
    rw [h3, List.length_append, List.length_cons, Nat.add_mul]
    omega
theorem joiL_next {o : Bool} {n : Nat} {e : E} {ra rb : List (List V)} {i : Nat} {x : List V} (hx : ra[i]? = some x) :
    joiL o n e (ra.take (i + 1)) rb = (if (o && !fnd (mtL e x rb)) = true then (joiL o n e (ra.take i) rb ++ mtL e x rb) ++ [x ++ nulR n] else joiL o n e (ra.take i) rb ++ mtL e x rb) := by
  have h1 : joiL o n e (ra.take (i + 1)) rb = joiL o n e (ra.take i) rb ++ outL o n e x rb := by
    unfold joiL
    rw [take_next hx, List.flatMap_append, List.flatMap_cons, List.flatMap_nil, List.append_nil]
  rw [h1]
  unfold outL
  split
  · rename_i h
    rw [Bool.and_eq_true, Bool.not_eq_true'] at h
    rw [fnd_f h.2, List.append_nil]
  · rfl
theorem nulR_ok (n : Nat) : (nulR n).length = n ∧ ∀ v, v ∈ nulR n → v.ok := ⟨List.length_replicate, fun v hv => by
  rw [List.eq_of_mem_replicate hv]
  exact okV (by decide) (by decide) (fun _ => rfl)⟩
theorem rsw_joi {wa wb : Nat} {ra rb : List (List V)} (ha : RsW wa ra) (hb : RsW wb rb) (o : Bool) (e : E) : RsW (wa + wb) (joiL o wb e ra rb) := fun r hr => by
  obtain ⟨x, hx, hr⟩ := List.mem_flatMap.1 hr
  have hxr := ha x hx
  have happ : ∀ y : List V, (y.length = wb ∧ ∀ v, v ∈ y → v.ok) → (x ++ y).length = wa + wb ∧ ∀ v, v ∈ x ++ y → v.ok := fun y hy => ⟨by rw [List.length_append, hxr.1, hy.1], fun v hv => (List.mem_append.1 hv).elim (hxr.2 v) (hy.2 v)⟩
  unfold outL at hr
  split at hr
  · rw [List.mem_singleton.1 hr]
    exact happ _ (nulR_ok wb)
  · obtain ⟨y, hy, rfl⟩ := List.mem_map.1 (List.mem_filter.1 hr).1
    exact happ y (hb y hy)
end Go.Proofs.Ytldkjccccjiihaa
