/-
  Expressions that come in, as plain data. No condition.
-/
import Derived.Test.YtclkehekhdfnnaaVGateI
import Derived.Test.YtclkehekhdfnnaaVGateV
import Derived.Test.YtclkehekhdfnnaaVEsz
set_option maxHeartbeats 4000000
set_option maxRecDepth 100000
namespace Go.Proofs.Ytclkehekhdfnnaa
open Go.ChangeShapes Go.WideShapes Go.ChangeAt Go.RowKit Go.Joins Go.Deep

/-- All lists in an expression are such as there may be. -/
inductive Most : E → Prop
  | mk {k c : Int} {v : V} {ks : List E} (h : ks.length ≤ big) (hk : ∀ x, x ∈ ks → Most x) : Most (.mk k c v ks)
theorem Most.len {e : E} (h : Most e) : e.ks.length ≤ big := by cases h; assumption
theorem Most.kid {e x : E} (h : Most e) (hx : x ∈ e.ks) : Most x := by cases h with | mk _ hk => exact hk x hx

theorem cells_LE : Try.prog.cellsOf 26 = 5 := by kernel_rfl
section
variable {H : Type} {enc : TypeId × Value → H} {W : World} {base b0 : Nat} {held : Bool} {r : Reach} {v : Value} {d : DataW H} {p : List MemPlace}
set_option maxRecDepth 100000 in
theorem trod_Ex : ∀ (fuel : Nat) (cs : List Value) (x : DataW H × List MemPlace), DataW.trod enc Try.prog W base (fun _ => true) held fuel 26 cs = some x →
    ∃ e : E, CellsOK W (allOf W) noNames (eD e).cells cs ∧ Most e := by
  intro fuel
  induction fuel using Nat.strongRecOn with
  | ind fuel IH =>
    intro cs x h
    obtain ⟨y0, y1, y2, y3, n, rfl, hl, h0, h1, h2, h3⟩ := trod_4 Try.underlying26 h
    rw [cells_LE] at hl
    match cs, hl with
    | [c0, c1, c2, c3, c4], _ =>
      have e1 : (Try.prog.cellsOf 24) = 1 := by kernel_rfl
      simp only [cells_int, e1, cells_LV, List.drop_zero, List.drop_succ_cons, List.take_succ_cons, List.take_zero] at h0 h1 h2 h3
      obtain ⟨k, q0⟩ := int_fz Try.underlying3 h0
      obtain ⟨c, q1⟩ := int_fz Try.underlying3 h1
      obtain ⟨u, q2⟩ := trod_Vx h2
      obtain ⟨ks, hq, hlen, q3⟩ := slice_fz Try.underlying24 cells_LE (by decide) eD Most h3 (fun n' hn' cs' x' h' => by
        obtain ⟨e, ho, hm⟩ := IH n' (by omega) cs' x' h'
        exact ⟨e, by rw [eD_eq]; rfl, ho, hm⟩)
      exact ⟨.mk k c u ks, by rw [eD_eq]; exact q0.append (q1.append (q2.append q3)), .mk hlen hq⟩

/-- An expression that came in. -/
def IsE (w : World) (v : Value) (e : E) : Prop := Most e ∧ Fz w (allOf w) noNames (eD e) v
set_option maxRecDepth 100000 in
theorem open_pE (hv : Value.okWide Try.prog W r b0 26 v) (h : DataW.Trod enc Try.prog W base (fun _ => true) held 26 v d p) (_lt : ∀ x ∈ p, x.block < W.heap.size) :
    ∃ e : E, IsE W v e := by
  obtain ⟨cs, rfl, _⟩ := okWide_struct Try.underlying26 hv
  obtain ⟨fuel, hf⟩ := h
  obtain ⟨e, ho, hm⟩ := trod_Ex fuel _ _ hf
  refine ⟨e, hm, ?_⟩
  rw [eD_eq] at ho ⊢
  exact agg_fz ho

end
end Go.Proofs.Ytclkehekhdfnnaa
