/-
  Rows and tables that come in. No condition.
-/
import Derived.Test.YtkfmglbnicbooaaVGateV
import Derived.Test.YtkfmglbnicbooaaVTbD
set_option maxHeartbeats 4000000
set_option maxRecDepth 100000
namespace Go.Proofs.Ytkfmglbnicbooaa
open Go.ChangeShapes Go.WideShapes Go.ChangeAt Go.RowKit Go.Joins Go.Deep

def mostR (rs : List (List V)) : Prop := rs.length ≤ big ∧ ∀ r, r ∈ rs → r.length ≤ big

theorem cells_LVS : Try.prog.cellsOf 57 = 1 := by kernel_rfl
section
variable {H : Type} {enc : TypeId × Value → H} {W : World} {base b0 : Nat} {held : Bool} {r : Reach} {v : Value} {d : DataW H} {p : List MemPlace}
set_option maxRecDepth 100000 in
theorem trod_row {fuel : Nat} {cs : List Value} {x : DataW H × List MemPlace} (h : DataW.trod enc Try.prog W base (fun _ => true) held fuel 57 cs = some x) :
    ∃ l : List V, l.length ≤ big ∧ CellsOK W (allOf W) noNames [rowD l] cs := by
  obtain ⟨l, _, hlen, q⟩ := slice_fz Try.underlying57 cells_LV (by decide) vD (fun _ => True) h (fun n' _ cs' x' h' => by
    obtain ⟨m, hm⟩ := trod_Vx h'
    exact ⟨m, rfl, hm, trivial⟩)
  exact ⟨l, hlen, q⟩
set_option maxRecDepth 100000 in
theorem trod_rows {fuel : Nat} {cs : List Value} {x : DataW H × List MemPlace} (h : DataW.trod enc Try.prog W base (fun _ => true) held fuel 29 cs = some x) :
    ∃ l : List (List V), mostR l ∧ CellsOK W (allOf W) noNames [rowsD l] cs := by
  obtain ⟨l, hq, hlen, q⟩ := slice_fz Try.underlying29 cells_LVS (by decide) rowD (fun r => r.length ≤ big) h (fun n' _ cs' x' h' => by
    obtain ⟨m, hl, hm⟩ := trod_row h'
    exact ⟨m, rfl, hm, hl⟩)
  exact ⟨l, ⟨hlen, hq⟩, q⟩
/-- A row that came in. -/
def IsVs (w : World) (v : Value) (l : List V) : Prop := l.length ≤ big ∧ Fz w (allOf w) noNames (rowD l) v
set_option maxRecDepth 100000 in
theorem open_pVs (hv : Value.okWide Try.prog W r b0 57 v) (h : DataW.Trod enc Try.prog W base (fun _ => true) held 57 v d p) (_lt : ∀ x ∈ p, x.block < W.heap.size) :
    ∃ l : List V, IsVs W v l := by
  obtain ⟨a0, len0, cap0, rfl⟩ := okWide_slice Try.underlying57 hv
  obtain ⟨fuel, hf⟩ := h
  obtain ⟨l, hlen, q⟩ := trod_row hf
  exact ⟨l, hlen, CellsOK.fz1 q⟩
/-- A table that came in. -/
def IsTa (w : World) (v : Value) (t : Ta) : Prop := mostR t.rows ∧ Fz w (allOf w) noNames (taD t) v
end
end Go.Proofs.Ytkfmglbnicbooaa
