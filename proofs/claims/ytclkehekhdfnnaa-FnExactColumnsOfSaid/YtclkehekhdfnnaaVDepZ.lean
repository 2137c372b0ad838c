/-
  What the exact laws do with dependencies that came in. No condition.
-/
import Derived.Test.YtclkehekhdfnnaaVDep
import Derived.Test.YtclkehekhdfnnaaVSzI
set_option maxHeartbeats 4000000
set_option maxRecDepth 100000
set_option linter.unusedVariables false
set_option linter.unusedSimpArgs false
namespace Go.Proofs.Ytclkehekhdfnnaa
open Go.ChangeShapes Go.WideShapes Go.ChangeAt Go.RowKit Go.Joins Go.Deep

section
variable {H : Type} {enc : TypeId × Value → H} {W : World} {base b0 : Nat} {held : Bool} {r : Reach} {v : Value} {d : DataW H} {p : List MemPlace}
theorem trod_2 {P : Program} {spare : Nat → Bool} {t : TypeId} {f0 f1 : Field} {fuel : Nat} {cs : List Value} {x : DataW H × List MemPlace} (ht : P.underlying t = some (.struct #[f0, f1])) (h : DataW.trod enc P W base spare held fuel t cs = some x) :
    ∃ y0 y1 n, fuel = n + 1 ∧ cs.length = P.cellsOf t ∧ DataW.trod enc P W base spare held n f0.type ((cs.drop f0.offset).take (P.cellsOf f0.type)) = some y0 ∧
      DataW.trod enc P W base spare held n f1.type ((cs.drop f1.offset).take (P.cellsOf f1.type)) = some y1 := by
  obtain ⟨xs, n, hn, _, hl, hlen, hf⟩ := DataW.trod_struct ht h
  have hs : xs.length = 2 := by simpa using hlen
  match xs, hs with
  | [y0, y1], _ => exact ⟨y0, y1, n, hn, hl, by simpa using hf 0 f0 rfl, by simpa using hf 1 f1 rfl⟩
/-- Dependencies that came in. -/
def IsDes (w : World) (v : Value) (l : List De) : Prop := l.length ≤ big ∧ Fz w (allOf w) noNames (desD l) v
/-- A dependency that came in. -/
def IsDe (w : World) (v : Value) (u : De) : Prop := Fz w (allOf w) noNames (deD u) v
end
theorem calls_4 {f : FuncId} {d0 d1 d2 d3 : D} {v0 v1 v2 v3 : Value} {w : World} (h : Does Try.prog f [] [d0, d1, d2, d3] (Bo true) []) (h0 : Fz w (allOf w) noNames d0 v0) (h1 : Fz w (allOf w) noNames d1 v1) (h2 : Fz w (allOf w) noNames d2 v2) (h3 : Fz w (allOf w) noNames d3 v3) :
    Calls Try.prog f #[v0, v1, v2, v3] w fun e W' => e = .returned (.bool true) ∧ Below w.heap.size w W' := by
  refine calls_of h w [v0, v1, v2, v3] rfl (fun i d x hd hx => ?_)
  rcases i with _ | _ | _ | _ | i
  · obtain rfl : d0 = d := by simpa using hd
    obtain rfl : v0 = x := by simpa using hx
    exact h0
  · obtain rfl : d1 = d := by simpa using hd
    obtain rfl : v1 = x := by simpa using hx
    exact h1
  · obtain rfl : d2 = d := by simpa using hd
    obtain rfl : v2 = x := by simpa using hx
    exact h2
  · obtain rfl : d3 = d := by simpa using hd
    obtain rfl : v3 = x := by simpa using hx
    exact h3
  · simp at hd
end Go.Proofs.Ytclkehekhdfnnaa
