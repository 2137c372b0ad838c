/-
  Expressions and lists of numbers that come in, as plain data. No condition.
-/
import Derived.Test.YthlobnfokjicbaaVGate
import Derived.Test.YthlobnfokjicbaaVEsz
set_option maxHeartbeats 4000000
set_option maxRecDepth 100000
namespace Go.Proofs.Ythlobnfokjicbaa
open Go.ChangeShapes Go.WideShapes Go.ChangeAt Go.RowKit Go.Joins Go.Deep

/-- All lists in an expression are such as there may be. -/
inductive Most : E → Prop
  | mk {k c : Int} {v : V} {ks : List E} (h : ks.length ≤ big) (hk : ∀ x, x ∈ ks → Most x) : Most (.mk k c v ks)
theorem Most.len {e : E} (h : Most e) : e.ks.length ≤ big := by cases h; assumption
theorem Most.kid {e x : E} (h : Most e) (hx : x ∈ e.ks) : Most x := by cases h with | mk _ hk => exact hk x hx

theorem cells_LV : Try.prog.cellsOf 23 = 2 := by kernel_rfl
theorem cells_LE : Try.prog.cellsOf 26 = 5 := by kernel_rfl
theorem cells_int : Try.prog.cellsOf 3 = 1 := by kernel_rfl
section
variable {H : Type} {enc : TypeId × Value → H} {W : World} {base b0 : Nat} {held : Bool} {r : Reach} {v : Value} {d : DataW H} {p : List MemPlace}

theorem trod_4 {P : Program} {spare : Nat → Bool} {t : TypeId} {f0 f1 f2 f3 : Field} {fuel : Nat} {cs : List Value} {x : DataW H × List MemPlace} (ht : P.underlying t = some (.struct #[f0, f1, f2, f3])) (h : DataW.trod enc P W base spare held fuel t cs = some x) :
    ∃ y0 y1 y2 y3 n, fuel = n + 1 ∧ cs.length = P.cellsOf t ∧ DataW.trod enc P W base spare held n f0.type ((cs.drop f0.offset).take (P.cellsOf f0.type)) = some y0 ∧
      DataW.trod enc P W base spare held n f1.type ((cs.drop f1.offset).take (P.cellsOf f1.type)) = some y1 ∧ DataW.trod enc P W base spare held n f2.type ((cs.drop f2.offset).take (P.cellsOf f2.type)) = some y2 ∧
      DataW.trod enc P W base spare held n f3.type ((cs.drop f3.offset).take (P.cellsOf f3.type)) = some y3 := by
  obtain ⟨xs, n, hn, _, hl, hlen, hf⟩ := DataW.trod_struct ht h
  have hs : xs.length = 4 := by simpa using hlen
  match xs, hs with
  | [y0, y1, y2, y3], _ => exact ⟨y0, y1, y2, y3, n, hn, hl, by simpa using hf 0 f0 rfl, by simpa using hf 1 f1 rfl, by simpa using hf 2 f2 rfl, by simpa using hf 3 f3 rfl⟩
theorem trod_3 {P : Program} {spare : Nat → Bool} {t : TypeId} {f0 f1 f2 : Field} {fuel : Nat} {cs : List Value} {x : DataW H × List MemPlace} (ht : P.underlying t = some (.struct #[f0, f1, f2])) (h : DataW.trod enc P W base spare held fuel t cs = some x) :
    ∃ y0 y1 y2 n, fuel = n + 1 ∧ cs.length = P.cellsOf t ∧ DataW.trod enc P W base spare held n f0.type ((cs.drop f0.offset).take (P.cellsOf f0.type)) = some y0 ∧
      DataW.trod enc P W base spare held n f1.type ((cs.drop f1.offset).take (P.cellsOf f1.type)) = some y1 ∧ DataW.trod enc P W base spare held n f2.type ((cs.drop f2.offset).take (P.cellsOf f2.type)) = some y2 := by
  obtain ⟨xs, n, hn, _, hl, hlen, hf⟩ := DataW.trod_struct ht h
  have hs : xs.length = 3 := by simpa using hlen
  match xs, hs with
  | [y0, y1, y2], _ => exact ⟨y0, y1, y2, n, hn, hl, by simpa using hf 0 f0 rfl, by simpa using hf 1 f1 rfl, by simpa using hf 2 f2 rfl⟩

theorem agg_fz {ds : List D} {cs : Array Value} (h : CellsOK W (allOf W) noNames ds cs.toList) : Fz W (allOf W) noNames (.agg ds) (.agg cs) := by
  have := Fz.agg noNames ds cs.toList h.len h.one h.fz
  simpa using this

set_option maxRecDepth 100000 in
theorem trod_Vx {fuel : Nat} {cs : List Value} {x : DataW H × List MemPlace} {spare : Nat → Bool} (h : DataW.trod enc Try.prog W base spare held fuel 23 cs = some x) :
    ∃ u : V, CellsOK W (allOf W) noNames [Bo u.b, I u.n] cs := by
  obtain ⟨y0, y1, n, _, hl, h0, h1⟩ := trod_struct2 Try.underlying23 h
  rw [cells_LV] at hl
  match cs, hl with
  | [c0, c1], _ =>
    have e0 : (Try.prog.cellsOf 4) = 1 := by kernel_rfl
    simp only [e0, cells_int, List.drop_zero, List.drop_succ_cons, List.take_succ_cons, List.take_zero] at h0 h1
    obtain ⟨b, q0, _⟩ := DataW.trod_bool Try.underlying4 h0
    obtain ⟨m, q1⟩ := int_fz Try.underlying3 h1
    simp only [List.cons.injEq, and_true] at q0
    subst q0
    have q : CellsOK W (allOf W) noNames [Bo b] [.bool b] := CellsOK.intro1 rfl (.v _ _)
    exact ⟨⟨b, m⟩, q.append q1⟩

set_option maxRecDepth 100000 in
theorem trod_Ex : ∀ (fuel : Nat) (cs : List Value) (x : DataW H × List MemPlace), DataW.trod enc Try.prog W base (fun _ => true) held fuel 26 cs = some x →
    ∃ e : E, CellsOK W (allOf W) noNames (eD e).cells cs ∧ Most e := by
  intro fuel
  induction fuel using Nat.strongRecOn with
  | ind fuel IH =>
    intro cs x h
    obtain ⟨y0, y1, y2, y3, n, rfl, hl, h0, h1, h2, h3⟩ := trod_4 Try.underlying26 h
    rw [cells_LE] at hl
    match cs, hl with
    | [c0, c1, c2, c3, c4], _ =>
      have e1 : (Try.prog.cellsOf 24) = 1 := by kernel_rfl
      simp only [cells_int, e1, cells_LV, List.drop_zero, List.drop_succ_cons, List.take_succ_cons, List.take_zero] at h0 h1 h2 h3
      obtain ⟨k, q0⟩ := int_fz Try.underlying3 h0
      obtain ⟨c, q1⟩ := int_fz Try.underlying3 h1
      obtain ⟨u, q2⟩ := trod_Vx h2
      obtain ⟨ks, hq, hlen, q3⟩ := slice_fz Try.underlying24 cells_LE (by decide) eD Most h3 (fun n' hn' cs' x' h' => by
        obtain ⟨e, ho, hm⟩ := IH n' (by omega) cs' x' h'
        exact ⟨e, by rw [eD_eq]; rfl, ho, hm⟩)
      exact ⟨.mk k c u ks, by rw [eD_eq]; exact q0.append (q1.append (q2.append q3)), .mk hlen hq⟩

/-- An expression that came in. -/
def IsE (w : World) (v : Value) (e : E) : Prop := Most e ∧ Fz w (allOf w) noNames (eD e) v
set_option maxRecDepth 100000 in
theorem open_pE (hv : Value.okWide Try.prog W r b0 26 v) (h : DataW.Trod enc Try.prog W base (fun _ => true) held 26 v d p) (_lt : ∀ x ∈ p, x.block < W.heap.size) :
    ∃ e : E, IsE W v e := by
  obtain ⟨cs, rfl, _⟩ := okWide_struct Try.underlying26 hv
  obtain ⟨fuel, hf⟩ := h
  obtain ⟨e, ho, hm⟩ := trod_Ex fuel _ _ hf
  refine ⟨e, hm, ?_⟩
  rw [eD_eq] at ho ⊢
  exact agg_fz ho

/-- A list of numbers as data. -/
def intsD (l : List Int) : D := .sl 1 (l.map I)
set_option maxRecDepth 100000 in
theorem trod_ints {fuel : Nat} {cs : List Value} {x : DataW H × List MemPlace} (h : DataW.trod enc Try.prog W base (fun _ => true) held fuel 43 cs = some x) :
    ∃ l : List Int, l.length ≤ big ∧ CellsOK W (allOf W) noNames [intsD l] cs := by
  obtain ⟨l, _, hlen, q⟩ := slice_fz Try.underlying43 cells_int (by decide) I (fun _ => True) h (fun n' _ cs' x' h' => by
    obtain ⟨m, hm⟩ := int_fz Try.underlying3 h'
    exact ⟨m, rfl, hm, trivial⟩)
  exact ⟨l, hlen, q⟩
/-- Numbers that came in. -/
def IsInts (w : World) (v : Value) (l : List Int) : Prop := l.length ≤ big ∧ Fz w (allOf w) noNames (intsD l) v
set_option maxRecDepth 100000 in
theorem open_pints (hv : Value.okWide Try.prog W r b0 43 v) (h : DataW.Trod enc Try.prog W base (fun _ => true) held 43 v d p) (_lt : ∀ x ∈ p, x.block < W.heap.size) :
    ∃ l : List Int, IsInts W v l := by
  obtain ⟨a0, len0, cap0, rfl⟩ := okWide_slice Try.underlying43 hv
  obtain ⟨fuel, hf⟩ := h
  obtain ⟨l, hlen, q⟩ := trod_ints hf
  exact ⟨l, hlen, CellsOK.fz1 q⟩
end
/-- The call of an exact law: its arguments one by one. -/
theorem calls_1 {f : FuncId} {d0 : D} {v0 : Value} {w : World} (h : Does Try.prog f [] [d0] (Bo true) []) (h0 : Fz w (allOf w) noNames d0 v0) : Calls Try.prog f #[v0] w fun e W' => e = .returned (.bool true) ∧ Below w.heap.size w W' := by
  refine calls_of h w [v0] rfl (fun i d x hd hx => ?_)
  rcases i with _ | i
  · obtain rfl : d0 = d := by simpa using hd
    obtain rfl : v0 = x := by simpa using hx
    exact h0
  · simp at hd
theorem calls_2 {f : FuncId} {d0 d1 : D} {v0 v1 : Value} {w : World} (h : Does Try.prog f [] [d0, d1] (Bo true) []) (h0 : Fz w (allOf w) noNames d0 v0) (h1 : Fz w (allOf w) noNames d1 v1) : Calls Try.prog f #[v0, v1] w fun e W' => e = .returned (.bool true) ∧ Below w.heap.size w W' := by
  refine calls_of h w [v0, v1] rfl (fun i d x hd hx => ?_)
  rcases i with _ | _ | i
  · obtain rfl : d0 = d := by simpa using hd
    obtain rfl : v0 = x := by simpa using hx
    exact h0
  · obtain rfl : d1 = d := by simpa using hd
    obtain rfl : v1 = x := by simpa using hx
    exact h1
  · simp at hd
theorem calls_3 {f : FuncId} {d0 d1 d2 : D} {v0 v1 v2 : Value} {w : World} (h : Does Try.prog f [] [d0, d1, d2] (Bo true) []) (h0 : Fz w (allOf w) noNames d0 v0) (h1 : Fz w (allOf w) noNames d1 v1) (h2 : Fz w (allOf w) noNames d2 v2) :
    Calls Try.prog f #[v0, v1, v2] w fun e W' => e = .returned (.bool true) ∧ Below w.heap.size w W' := by
  refine calls_of h w [v0, v1, v2] rfl (fun i d x hd hx => ?_)
  rcases i with _ | _ | _ | i
  · obtain rfl : d0 = d := by simpa using hd
    obtain rfl : v0 = x := by simpa using hx
    exact h0
  · obtain rfl : d1 = d := by simpa using hd
    obtain rfl : v1 = x := by simpa using hx
    exact h1
  · obtain rfl : d2 = d := by simpa using hd
    obtain rfl : v2 = x := by simpa using hx
    exact h2
  · simp at hd
end Go.Proofs.Ythlobnfokjicbaa
