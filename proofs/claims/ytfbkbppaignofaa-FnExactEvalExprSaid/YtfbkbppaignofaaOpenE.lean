/-
  An expression that came in, opened.
-/
import Derived.Test.YtfbkbppaignofaaOpenR
import Derived.Test.YtfbkbppaignofaaTree
namespace Go.Proofs.Ytfbkbppaignofaa
open Go.ChangeShapes Go.WideShapes Go.ChangeAt Go.RowKit Go.Joins Go.Deep

theorem cellsLE : Try.prog.cellsOf 42 = 5 := by kernel_rfl

/-- An expression that came in. -/
structure TreeX where
  t : ET
  A : Option Addr
  cp : Nat
def IsTree (w : World) (v : Value) (x : TreeX) : Prop := v = x.t.val x.A x.cp ∧ ET.On w x.t x.A ∧ x.t.Most 9223372036854775807

section
variable {H : Type} {enc : TypeId × Value → H} {W : World} {base b0 : Nat} {held : Bool} {r : Reach} {v : Value} {d : DataW H} {p : List MemPlace}

theorem trod_four {P : Program} {spare : Nat → Bool} {t : TypeId} {f0 f1 f2 f3 : Field} {fuel : Nat} {cs : List Value} {x : DataW H × List MemPlace} (ht : P.underlying t = some (.struct #[f0, f1, f2, f3])) (h : DataW.trod enc P W base spare held fuel t cs = some x) :
    ∃ y0 y1 y2 y3 n, fuel = n + 1 ∧ cs.length = P.cellsOf t ∧ DataW.trod enc P W base spare held n f0.type ((cs.drop f0.offset).take (P.cellsOf f0.type)) = some y0 ∧
      DataW.trod enc P W base spare held n f1.type ((cs.drop f1.offset).take (P.cellsOf f1.type)) = some y1 ∧ DataW.trod enc P W base spare held n f2.type ((cs.drop f2.offset).take (P.cellsOf f2.type)) = some y2 ∧
      DataW.trod enc P W base spare held n f3.type ((cs.drop f3.offset).take (P.cellsOf f3.type)) = some y3 := by
  obtain ⟨xs, n, hn, _, hl, hlen, hf⟩ := DataW.trod_struct ht h
  have hs : xs.length = 4 := by simpa using hlen
  match xs, hs with
  | [y0, y1, y2, y3], _ => exact ⟨y0, y1, y2, y3, n, hn, hl, by simpa using hf 0 f0 rfl, by simpa using hf 1 f1 rfl, by simpa using hf 2 f2 rfl, by simpa using hf 3 f3 rfl⟩

set_option maxRecDepth 100000 in
/-- The cells of an expression that reads. -/
theorem trod_E : ∀ (fuel : Nat) (cs : List Value) (x : DataW H × List MemPlace), DataW.trod enc Try.prog W base (fun _ => true) held fuel 42 cs = some x →
    ∃ (t : ET) (A : Option Addr) (cp : Nat), cs = [.int .i64 t.k, .int .i64 t.c, .bool t.b, .int .i64 t.n, .slice A t.m cp] ∧ ET.On W t A ∧ t.Most 9223372036854775807 := by
  intro fuel
  induction fuel using Nat.strongRecOn with
  | ind fuel IH =>
    intro cs x h
    obtain ⟨y0, y1, y2, y3, n, rfl, hl, h0, h1, h2, h3⟩ := trod_four Try.underlying42 h
    rw [cellsLE] at hl
    match cs, hl with
    | [c0, c1, c2, c3, c4], _ =>
      have e0 : (Try.prog.cellsOf 3) = 1 := by kernel_rfl
      have e1 : (Try.prog.cellsOf 40) = 1 := by kernel_rfl
      simp only [e0, e1, cellsLV, List.drop_zero, List.drop_succ_cons, List.take_succ_cons, List.take_zero] at h0 h1 h2 h3
      obtain ⟨k, q0, _, _⟩ := DataW.trod_int Try.underlying3 h0
      obtain ⟨c, q1, _, _⟩ := DataW.trod_int Try.underlying3 h1
      obtain ⟨u, q2⟩ := trod_V h2
      simp only [List.cons.injEq, and_true] at q0 q1 q2
      obtain ⟨q2, q3⟩ := q2
      subst q0 q1 q2 q3
      rcases DataW.trod_slice Try.underlying40 h3 with ⟨hcs, _⟩ | ⟨a, len, cap, elems, rest, n', rfl, hcs, _, _, hcap, hm, hlen2, hel, _, _⟩
      · simp only [List.cons.injEq, and_true] at hcs
        subst hcs
        exact ⟨ET.mk k c u.nul u.n 0 (fun _ => ET.no), none, 0, rfl, (fun h => absurd h (Nat.lt_irrefl 0) : ET.KidsAt W _ 0 _ none), ⟨Nat.zero_le _, fun i hi => absurd hi (by omega)⟩⟩
      · simp only [List.cons.injEq, and_true] at hcs
        subst hcs
        have hu : ∀ i, ∃ x : TreeX, i < len → W.cell? (a.add (i * 5)) = some (.int .i64 x.t.k) ∧ W.cell? (a.add (i * 5 + 1)) = some (.int .i64 x.t.c) ∧ W.cell? (a.add (i * 5 + 2)) = some (.bool x.t.b) ∧ W.cell? (a.add (i * 5 + 3)) = some (.int .i64 x.t.n) ∧
            W.cell? (a.add (i * 5 + 4)) = some (.slice x.A x.t.m x.cp) ∧ ET.On W x.t x.A ∧ x.t.Most 9223372036854775807 := by
          intro i
          by_cases hil : i < len
          · have h5 := hel i hil
            rw [cellsLE, List.getElem?_eq_getElem (by omega)] at h5
            obtain ⟨cs', hc, ht⟩ := Option.bind_eq_some_iff.1 h5
            obtain ⟨t, A, cp, rfl, hon, hmo⟩ := IH n' (by omega) cs' _ ht
            obtain ⟨_, _, hat⟩ := World.cells?_some hc
            refine ⟨⟨t, A, cp⟩, fun _ => ?_⟩
            have k0 := hat 0 (by omega)
            have k1 := hat 1 (by omega)
            have k2 := hat 2 (by omega)
            have k3 := hat 3 (by omega)
            have k4 := hat 4 (by omega)
            rw [Go.Deep.add_add] at k0 k1 k2 k3 k4
            exact ⟨by simpa using k0, by simpa using k1, by simpa using k2, by simpa using k3, by simpa using k4, hon, hmo⟩
          · exact ⟨⟨ET.no, none, 0⟩, fun h => absurd h hil⟩
        obtain ⟨X, hs⟩ : ∃ X : Nat → TreeX, ∀ i, i < len → W.cell? (a.add (i * 5)) = some (.int .i64 (X i).t.k) ∧ W.cell? (a.add (i * 5 + 1)) = some (.int .i64 (X i).t.c) ∧ W.cell? (a.add (i * 5 + 2)) = some (.bool (X i).t.b) ∧ W.cell? (a.add (i * 5 + 3)) = some (.int .i64 (X i).t.n) ∧
            W.cell? (a.add (i * 5 + 4)) = some (.slice (X i).A (X i).t.m (X i).cp) ∧ ET.On W (X i).t (X i).A ∧ (X i).t.Most 9223372036854775807 := ⟨fun i => Classical.choose (hu i), fun i => Classical.choose_spec (hu i)⟩
        clear hu
        refine ⟨ET.mk k c u.nul u.n len (fun i => (X i).t), some a, cap, rfl, ET.at_kids.2 (fun h0 => ?_), ?_⟩
        · have h1 := (hs 0 h0).1
          obtain ⟨b, o, spot⟩ := a
          have hspot : spot = none := by simpa [Addr.add] using World.cell?_spot h1
          subst hspot
          refine ⟨b, o, rfl, World.block_lt_of_cell? W ⟨b, o, none⟩ (by simpa [Addr.add] using h1), fun i hi => ?_⟩
          obtain ⟨k0, k1, k2, k3, k4, k5, _⟩ := hs i hi
          have ha : ∀ j, (⟨b, o, none⟩ : Addr).add j = ⟨b, o + j, none⟩ := fun j => by cases j <;> rfl
          simp only [ha] at k0 k1 k2 k3 k4
          exact ⟨(X i).A, (X i).cp, k0, by rw [Nat.add_assoc]; exact k1, by rw [Nat.add_assoc]; exact k2, by rw [Nat.add_assoc]; exact k3, by rw [Nat.add_assoc]; exact k4, k5⟩
        · refine ⟨?_, fun i hi => (hs i hi).2.2.2.2.2.2⟩
          unfold maxLen at hm
          omega
set_option maxRecDepth 100000 in
theorem open_E (hv : Value.okWide Try.prog W r b0 42 v) (h : DataW.Trod enc Try.prog W base (fun _ => true) held 42 v d p) (_lt : ∀ x ∈ p, x.block < W.heap.size) :
    ∃ x : TreeX, IsTree W v x := by
  obtain ⟨cs, rfl, _⟩ := okWide_struct Try.underlying42 hv
  obtain ⟨fuel, hf⟩ := h
  obtain ⟨t, A, cp, hcs, hon, hmo⟩ := trod_E fuel _ _ hf
  refine ⟨⟨t, A, cp⟩, ?_, hon, hmo⟩
  have hl : cs.toList = [.int .i64 t.k, .int .i64 t.c, .bool t.b, .int .i64 t.n, .slice A t.m cp] := by simpa [Value.cells] using hcs
  obtain ⟨l⟩ := cs
  simp only at hl
  subst hl
  rfl
end
end Go.Proofs.Ytfbkbppaignofaa
