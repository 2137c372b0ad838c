/-
  Statistics that come in, as plain data. No condition.
-/
import Derived.Test.YtbdpdmojepiepaaVGateE
set_option maxHeartbeats 4000000
set_option maxRecDepth 100000
namespace Go.Proofs.Ytbdpdmojepiepaa
open Go.ChangeShapes Go.WideShapes Go.ChangeAt Go.RowKit Go.Joins Go.Deep

/-- Statistics. -/
structure St where
  n : Int
  ds : List Int
  ns : List Int
def stD (s : St) : D := .agg [I s.n, intsD s.ds, intsD s.ns]
def St.most (s : St) : Prop := s.ds.length ≤ big ∧ s.ns.length ≤ big
section
variable {H : Type} {enc : TypeId × Value → H} {W : World} {base b0 : Nat} {held : Bool} {r : Reach} {v : Value} {d : DataW H} {p : List MemPlace}
/-- Statistics that came in. -/
def IsSt (w : World) (v : Value) (s : St) : Prop := s.most ∧ Fz w (allOf w) noNames (stD s) v
end
end Go.Proofs.Ytbdpdmojepiepaa
