/-
  Expressions that come in, as plain data. No condition.
-/
import Derived.Test.YtbdpdmojepiepaaVGateI
import Derived.Test.YtbdpdmojepiepaaVGateV
import Derived.Test.YtbdpdmojepiepaaVEsz
set_option maxHeartbeats 4000000
set_option maxRecDepth 100000
namespace Go.Proofs.Ytbdpdmojepiepaa
open Go.ChangeShapes Go.WideShapes Go.ChangeAt Go.RowKit Go.Joins Go.Deep

/-- All lists in an expression are such as there may be. -/
inductive Most : E → Prop
  | mk {k c : Int} {v : V} {ks : List E} (h : ks.length ≤ big) (hk : ∀ x, x ∈ ks → Most x) : Most (.mk k c v ks)
theorem Most.len {e : E} (h : Most e) : e.ks.length ≤ big := by cases h; assumption
theorem Most.kid {e x : E} (h : Most e) (hx : x ∈ e.ks) : Most x := by cases h with | mk _ hk => exact hk x hx

section
variable {H : Type} {enc : TypeId × Value → H} {W : World} {base b0 : Nat} {held : Bool} {r : Reach} {v : Value} {d : DataW H} {p : List MemPlace}
/-- An expression that came in. -/
def IsE (w : World) (v : Value) (e : E) : Prop := Most e ∧ Fz w (allOf w) noNames (eD e) v
end
end Go.Proofs.Ytbdpdmojepiepaa
