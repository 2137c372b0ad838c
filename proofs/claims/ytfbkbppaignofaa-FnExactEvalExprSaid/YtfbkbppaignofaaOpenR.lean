/-
  A slice of values that came in, opened.
-/
import Derived.Test.YtfbkbppaignofaaLineC
import Derived.Test.YtfbkbppaignofaaOpen
import Derived.Deep.Slices
import Derived.ChangeSame
namespace Go.Proofs.Ytfbkbppaignofaa
open Go.ChangeShapes Go.WideShapes Go.ChangeAt Go.RowKit Go.Joins Go.Deep

section
variable {H : Type} {enc : TypeId × Value → H} {W : World} {base b0 : Nat} {held : Bool} {r : Reach} {v : Value} {d : DataW H} {p : List MemPlace}

set_option maxRecDepth 100000 in
/-- The two cells of a value that reads. -/
theorem trod_V {fuel : Nat} {cs : List Value} {x : DataW H × List MemPlace} {spare : Nat → Bool} (h : DataW.trod enc Try.prog W base spare held fuel 39 cs = some x) :
    ∃ u : M.V, cs = [.bool u.nul, .int .i64 u.n] := by
  obtain ⟨y0, y1, n, _, hl, h0, h1⟩ := trod_struct2 Try.underlying39 h
  rw [cellsLV] at hl
  match cs, hl with
  | [c0, c1], _ =>
    have e0 : (Try.prog.cellsOf 4) = 1 := by kernel_rfl
    have e1 : (Try.prog.cellsOf 3) = 1 := by kernel_rfl
    simp only [e0, e1, List.drop_zero, List.drop_succ_cons, List.take_succ_cons, List.take_zero] at h0 h1
    obtain ⟨b, q0, _⟩ := DataW.trod_bool Try.underlying4 h0
    obtain ⟨m, q1, _, _⟩ := DataW.trod_int Try.underlying3 h1
    simp only [List.cons.injEq, and_true] at q0 q1
    exact ⟨⟨b, m⟩, by rw [q0, q1]⟩

set_option maxRecDepth 100000 in
theorem open_Vs (hv : Value.okWide Try.prog W r b0 47 v) (h : DataW.Trod enc Try.prog W base (fun _ => true) held 47 v d p) (_lt : ∀ x ∈ p, x.block < W.heap.size) :
    ∃ x : LineX, IsLine W v x := by
  obtain ⟨a0, len0, cap0, rfl⟩ := okWide_slice Try.underlying47 hv
  obtain ⟨fuel, hf⟩ := h
  rcases open_slice Try.underlying47 hf with ⟨hcs, _⟩ | ⟨a, len, cap, m, n, D, Pl, hcs, hb, hl, hm, hmm, hx, hi⟩
  · simp [Value.cells] at hcs
    obtain ⟨rfl, rfl, rfl⟩ := hcs
    exact ⟨⟨none, 0, 0, fun _ => ⟨false, 0⟩⟩, rfl, fun h => absurd h (Nat.lt_irrefl 0), Nat.zero_le _⟩
  · simp [Value.cells] at hcs
    obtain ⟨rfl, rfl, rfl⟩ := hcs
    rw [if_pos rfl] at hmm
    subst hmm
    rw [cellsLV] at hi
    have hu : ∀ i, ∃ u : M.V, i < len0 → W.cell? (a.add (i * 2)) = some (.bool u.nul) ∧ W.cell? (a.add (i * 2 + 1)) = some (.int .i64 u.n) := by
      intro i
      by_cases hil : i < len0
      · obtain ⟨cs', hc, ht⟩ := hi i (by omega)
        obtain ⟨u, rfl⟩ := trod_V ht
        obtain ⟨_, _, hat⟩ := World.cells?_some hc
        refine ⟨u, fun _ => ⟨?_, ?_⟩⟩
        · have := hat 0 (by omega)
          simpa [Addr.add] using this
        · have := hat 1 (by omega)
          rw [Go.Deep.add_add] at this
          simpa using this
      · exact ⟨⟨false, 0⟩, fun h => absurd h hil⟩
    refine ⟨⟨some a, len0, _, fun i => Classical.choose (hu i)⟩, rfl, fun h0 => ?_, ?_⟩
    · obtain ⟨b, o, spot⟩ := a
      have h1 := (Classical.choose_spec (hu 0) h0).1
      have hspot : spot = none := by simpa [Addr.add] using World.cell?_spot h1
      subst hspot
      refine ⟨b, o, rfl, World.block_lt_of_cell? W ⟨b, o, none⟩ (by simpa [Addr.add] using h1), fun i hil => ?_⟩
      have h2 := Classical.choose_spec (hu i) hil
      by_cases hi0 : i = 0
      · subst hi0
        simpa [Addr.add] using h2
      · have hi2 : ¬ i * 2 = 0 := by omega
        simpa [Addr.add, hi2, Nat.add_assoc] using h2
    · unfold maxLen at hm
      show len0 ≤ _
      omega
end
end Go.Proofs.Ytfbkbppaignofaa
