/-
  Statistics that come in, as plain data. No condition.
-/
import Derived.Test.YtmdijgcaffpgiaaVGateE
set_option maxHeartbeats 4000000
set_option maxRecDepth 100000
namespace Go.Proofs.Ytmdijgcaffpgiaa
open Go.ChangeShapes Go.WideShapes Go.ChangeAt Go.RowKit Go.Joins Go.Deep

/-- Statistics. -/
structure St where
  n : Int
  ds : List Int
  ns : List Int
def stD (s : St) : D := .agg [I s.n, intsD s.ds, intsD s.ns]
def St.most (s : St) : Prop := s.ds.length ≤ big ∧ s.ns.length ≤ big
theorem cells_LS : Try.prog.cellsOf 43 = 3 := by kernel_rfl
section
variable {H : Type} {enc : TypeId × Value → H} {W : World} {base b0 : Nat} {held : Bool} {r : Reach} {v : Value} {d : DataW H} {p : List MemPlace}
set_option maxRecDepth 100000 in
theorem trod_St {fuel : Nat} {cs : List Value} {x : DataW H × List MemPlace} (h : DataW.trod enc Try.prog W base (fun _ => true) held fuel 43 cs = some x) :
    ∃ s : St, CellsOK W (allOf W) noNames [I s.n, intsD s.ds, intsD s.ns] cs ∧ s.most := by
  obtain ⟨y0, y1, y2, n, rfl, hl, h0, h1, h2⟩ := trod_3 Try.underlying43 h
  rw [cells_LS] at hl
  match cs, hl with
  | [c0, c1, c2], _ =>
    have e1 : (Try.prog.cellsOf 23) = 1 := by kernel_rfl
    simp only [cells_int, e1, List.drop_zero, List.drop_succ_cons, List.take_succ_cons, List.take_zero] at h0 h1 h2
    obtain ⟨k, q0⟩ := int_fz Try.underlying3 h0
    obtain ⟨l1, m1, q1⟩ := trod_ints h1
    obtain ⟨l2, m2, q2⟩ := trod_ints h2
    exact ⟨⟨k, l1, l2⟩, q0.append (q1.append q2), m1, m2⟩
/-- Statistics that came in. -/
def IsSt (w : World) (v : Value) (s : St) : Prop := s.most ∧ Fz w (allOf w) noNames (stD s) v
set_option maxRecDepth 100000 in
theorem open_pSt (hv : Value.okWide Try.prog W r b0 43 v) (h : DataW.Trod enc Try.prog W base (fun _ => true) held 43 v d p) (_lt : ∀ x ∈ p, x.block < W.heap.size) :
    ∃ s : St, IsSt W v s := by
  obtain ⟨cs, rfl, _⟩ := okWide_struct Try.underlying43 hv
  obtain ⟨fuel, hf⟩ := h
  obtain ⟨s, ho, hm⟩ := trod_St hf
  exact ⟨s, hm, agg_fz ho⟩
end
end Go.Proofs.Ytmdijgcaffpgiaa
