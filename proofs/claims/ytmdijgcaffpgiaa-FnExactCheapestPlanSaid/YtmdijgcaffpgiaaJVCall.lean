/-
  Lists of numbers as plain data. No condition.
-/
import Derived.Test.YtmdijgcaffpgiaaVLib
set_option maxHeartbeats 4000000
set_option maxRecDepth 100000
set_option linter.unusedVariables false
set_option linter.unusedSimpArgs false
namespace Go.Proofs.Ytmdijgcaffpgiaa
open Go.RowKit

/-- A list of numbers as data. -/
def intsD (l : List Int) : D := .sl 1 (l.map I)
theorem ints_pur : ∀ l : List Int, D.purL (l.map I) = true
  | [] => rfl
  | p :: l => by rw [List.map_cons, D.purL, ints_pur l]; rfl
theorem ints_ren (L : List Nat) (l : List Int) : D.renL L (l.map I) = l.map I := ren_pure.renL_pure L _ (ints_pur l)
theorem ints_take (l : List Int) : (l.map I).take l.length = l.map I := List.take_of_length_le (by rw [List.length_map]; exact Nat.le_refl _)
attribute [go_sem] ints_pur ints_ren intsD
end Go.Proofs.Ytmdijgcaffpgiaa
set_option maxRecDepth 100000
namespace Go.Proofs.Ytmdijgcaffpgiaa
open Go.RowKit

/-- All cells that are there. -/
def allOf (w : World) : Cells := fun b _ => b < w.heap.size
theorem calls_of {P : Program} {f : FuncId} {ds : List D} (h : Does P f [] ds (Bo true) []) (w : World) (xs : List Value) (hl : xs.length = ds.length)
    (hx : ∀ (i : Nat) (d : D) (x : Value), ds[i]? = some d → xs[i]? = some x → Fz w (allOf w) noNames d x) : Calls P f xs.toArray w fun e W' => e = .returned (.bool true) ∧ Below w.heap.size w W' := by
  refine (h w (allOf w) noNames xs hl (Nat.le_refl _) (fun b o h => h) hx (fun i d h => by simp at h) (fun _ _ => rfl) (fun i j b hi => by simp at hi)).mono ?_
  rintro e w' ⟨x, F', m', rfl, c, _, _, _, hx, _⟩
  obtain rfl := hx.v_eq
  exact ⟨rfl, c.os, c.tape, c.output, c.size, fun k hk => c.block k hk (fun ⟨i, hi, _⟩ => by simp at hi)⟩
end Go.Proofs.Ytmdijgcaffpgiaa
