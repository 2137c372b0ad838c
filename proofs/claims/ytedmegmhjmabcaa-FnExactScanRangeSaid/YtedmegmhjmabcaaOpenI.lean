/-
  A number that comes in.
-/
import Derived.Test.YtedmegmhjmabcaaOpenB
namespace Go.Proofs.Ytedmegmhjmabcaa
open Go.ChangeShapes Go.WideShapes Go.ChangeAt Go.RowKit Go.Joins
open Go.ChangeMaps (open_string shut_string)

section
variable {H : Type} {enc : TypeId × Value → H} {W : World} {base b0 : Nat} {spare : Nat → Bool} {held : Bool} {r : Reach} {v : Value} {d : DataW H} {p : List MemPlace}

set_option maxRecDepth 100000 in
theorem open_Int (hv : Value.okWide Try.prog W r b0 3 v) (h : DataW.Trod enc Try.prog W base spare held 3 v d p) : ∃ n, v = .int .i64 n ∧ (Lit.int .i64 n).wf = true := by
  obtain ⟨a, e1, _, _, wa⟩ := open_int Try.underlying3 hv h
  exact ⟨a, e1, wa⟩

end
end Go.Proofs.Ytedmegmhjmabcaa
