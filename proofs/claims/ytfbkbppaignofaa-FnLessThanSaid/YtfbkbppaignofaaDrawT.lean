/-
  What a drawing function leaves alone.
-/
import Derived.Test.YtfbkbppaignofaaDraw
import Derived.Deep.RegionWith
namespace Go.Proofs.Ytfbkbppaignofaa
open Go.RowKit

theorem IsRow.lt {k : IntKind} {w : World} {a : Option Addr} {len cap : Nat} {zs : List Int} (h : IsRow k w a len cap zs) : ∀ x, a = some x → 0 < len → x.block < w.heap.size := by
  intro x hx h0
  rcases h with ⟨_, rfl, _⟩ | ⟨y, hy, hl, hm, hz, hcell, _⟩
  · omega
  · rw [hy] at hx
    injection hx with hx
    subst hx
    have hc := hcell 0 (by omega)
    exact World.block_lt_of_cell? w y (by simpa [Addr.add] using hc)

theorem IsRow.below {k : IntKind} {w w' : World} {a : Option Addr} {len cap : Nat} {zs : List Int} (h : IsRow k w a len cap zs) (hb : Below w.heap.size w w') : IsRow k w' a len cap zs := by
  rcases h with h | ⟨y, hy, hl, hm, hz, hcell, hw⟩
  · exact .inl h
  · refine .inr ⟨y, hy, hl, hm, hz, fun i hi => ?_, hw⟩
    have h1 := hcell i hi
    exact (hb.cell (World.block_lt_of_cell? w _ h1)).trans h1

theorem below_of_grown {w x y : World} {rb : Nat} (h : Below w.heap.size w x) (hr : w.heap.size ≤ rb) (k : x.grownBy y (some rb)) : Below w.heap.size w y :=
  h.trans ⟨k.os, k.tape, k.output, k.size, fun i hi => k.block i (by have := h.size; omega) (by intro e; injection e with e; omega)⟩

end Go.Proofs.Ytfbkbppaignofaa
