/-
  Lists of numbers that come in, as plain data. No condition.
-/
import Derived.Test.YtclkehekhdfnnaaVInt
import Derived.Test.YtclkehekhdfnnaaVGateC
set_option maxHeartbeats 4000000
set_option maxRecDepth 100000
namespace Go.Proofs.Ytclkehekhdfnnaa
open Go.ChangeShapes Go.WideShapes Go.ChangeAt Go.RowKit Go.Joins Go.Deep

section
variable {H : Type} {enc : TypeId × Value → H} {W : World} {base b0 : Nat} {held : Bool} {r : Reach} {v : Value} {d : DataW H} {p : List MemPlace}
set_option maxRecDepth 100000 in
theorem trod_ints {fuel : Nat} {cs : List Value} {x : DataW H × List MemPlace} (h : DataW.trod enc Try.prog W base (fun _ => true) held fuel 28 cs = some x) :
    ∃ l : List Int, l.length ≤ big ∧ CellsOK W (allOf W) noNames [intsD l] cs := by
  obtain ⟨l, _, hlen, q⟩ := slice_fz Try.underlying28 cells_int (by decide) I (fun _ => True) h (fun n' _ cs' x' h' => by
    obtain ⟨m, hm⟩ := int_fz Try.underlying3 h'
    exact ⟨m, rfl, hm, trivial⟩)
  exact ⟨l, hlen, q⟩
/-- Numbers that came in. -/
def IsInts (w : World) (v : Value) (l : List Int) : Prop := l.length ≤ big ∧ Fz w (allOf w) noNames (intsD l) v
set_option maxRecDepth 100000 in
theorem open_pints (hv : Value.okWide Try.prog W r b0 28 v) (h : DataW.Trod enc Try.prog W base (fun _ => true) held 28 v d p) (_lt : ∀ x ∈ p, x.block < W.heap.size) :
    ∃ l : List Int, IsInts W v l := by
  obtain ⟨a0, len0, cap0, rfl⟩ := okWide_slice Try.underlying28 hv
  obtain ⟨fuel, hf⟩ := h
  obtain ⟨l, hlen, q⟩ := trod_ints hf
  exact ⟨l, hlen, CellsOK.fz1 q⟩
end
end Go.Proofs.Ytclkehekhdfnnaa
