/-
  The call of an exact law; structs that come in. No condition.
-/
import Derived.Test.YtedmegmhjmabcaaKSVGate
import Derived.Test.YtedmegmhjmabcaaKSDca
import Derived.Test.YtedmegmhjmabcaaJSVLib
import Derived.Test.YtedmegmhjmabcaaSVGo
set_option maxHeartbeats 4000000
set_option maxRecDepth 100000
namespace Go.Proofs.Ytedmegmhjmabcaa
open Go.ChangeShapes Go.WideShapes Go.ChangeAt Go.RowKit Go.Joins Go.Deep
theorem cells_int : Try.prog.cellsOf 3 = 1:=by kernel_rfl
section
variable {H : Type} {enc : TypeId × Value → H} {W : World} {base b0 : Nat} {held : Bool} {r : Reach} {v : Value} {d : DataW H} {p : List MemPlace}
theorem agg_fz {ds : List D} {cs : Array Value} (h : CellsOK W (allOf W) noNames ds cs.toList) : Fz W (allOf W) noNames (.agg ds) (.agg cs):=by
 have:=Fz.agg noNames ds cs.toList h.len h.one h.fz
 simpa using this
end
theorem calls_2 {f : FuncId} {d0 d1 : D} {v0 v1 : Value} {w : World} (h : Does Try.prog f [] [d0,d1] (Bo true) []) (h0 : Fz w (allOf w) noNames d0 v0) (h1 : Fz w (allOf w) noNames d1 v1) : Calls Try.prog f #[v0,v1] w fun e W'=>e = .returned (.bool true) ∧ Below w.heap.size w W':=by
 refine calls_of h w [v0,v1] rfl (fun i d x hd hx=>?_)
 rcases i with _ | _ | i
 ·obtain rfl : d0 = d:=by simpa using hd
  obtain rfl : v0 = x:=by simpa using hx
  exact h0
 ·obtain rfl : d1 = d:=by simpa using hd
  obtain rfl : v1 = x:=by simpa using hx
  exact h1
 ·simp at hd
end Go.Proofs.Ytedmegmhjmabcaa
set_option maxHeartbeats 4000000
set_option maxRecDepth 100000
namespace Go.Proofs.Ytedmegmhjmabcaa
open Go.RowKit
theorem toValue_ok (v : V) : Does Try.prog 125 [] [vD v] (vD v) []:=by
 exact Bg c_Z42 mixed (go0 trivial)
theorem eqValue_ok (v : V) : Does Try.prog 108 [] [vD v,vD v] (Bo true) []:=by
 exact Bg c_Z39 mixed (go0 trivial)
end Go.Proofs.Ytedmegmhjmabcaa
