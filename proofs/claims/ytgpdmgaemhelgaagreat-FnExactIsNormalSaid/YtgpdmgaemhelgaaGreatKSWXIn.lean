/-
  The exact law of IsNormal. No condition.
-/
import Derived.Test.YtgpdmgaemhelgaaGreatKSDcWXIn
import Derived.Test.YtgpdmgaemhelgaaGreatKSDca
import Derived.Test.YtgpdmgaemhelgaaGreatKSVNmI
import Derived.Test.YtgpdmgaemhelgaaGreatJSVOcc
import Derived.Test.YtgpdmgaemhelgaaGreatJSVSmS
import Derived.Test.YtgpdmgaemhelgaaGreatJSVSzI
import Derived.Test.YtgpdmgaemhelgaaGreatJSVGo
set_option maxHeartbeats 4000000
set_option maxRecDepth 100000
set_option linter.unusedVariables false
set_option linter.unusedSimpArgs false
namespace Go.Proofs.YtgpdmgaemhelgaaGreat
open Go.RowKit
theorem does_FnExactIsNormal (p : Pl) (hp : MostP p) (ws : List Int) (hl : ws.length ≤ big) : Does Tryz.prog 14 [] [pD p,intsD ws] (Bo true) []:=by
 unfold big at hl
 have hz:=szPlan_ok p hp 1048576 (by decide) (by decide)
 by_cases hw : ws.length ≤ 1048576
 ·by_cases hf : (psz p : Int) ≤ 1048576
  ·rw [szV_t hf] at hz
   have h1:=toPlan_ok p (by omega)
   have h3:=toIntS_ok ws hw
   have a1:=IsNormal_impl p (by omega) ws (by omega)
   have a2:=IsNormal_spec p (by omega) ws (by omega)
   have e1:=eqPlan_ok p (by omega)
   have e3:=eqIntS_ok ws hw
   generalize isN ws p = b at *
   refine Bg c_Z25 mixed (go1 trivial ?_)
   refine Uc trivial (hz) (go1 trivial ?_)
   refine Uc trivial (h1) (go1 trivial ?_)
   refine Uc trivial (h3) (go1 trivial ?_)
   refine Uc trivial (a2) (go1 trivial ?_)
   refine Uc trivial (h1) (go1 trivial ?_)
   refine Uc trivial (h3) (go1 trivial ?_)
   refine Uc trivial (a1) (go1 trivial ?_)
   refine Uc trivial (h1) (go1 trivial ?_)
   refine Uc trivial (e1) (go1 trivial ?_)
   refine Uc trivial (h3) (go1 trivial ?_)
   exact Uc trivial (e3) (go0 trivial)
  ·rw [szV_f hf] at hz
   refine Bg c_Z25 mixed (go1 trivial ?_)
   exact Uc trivial (hz) (go0 trivial)
 ·exact Bg c_Z25 mixed (go0 trivial)
theorem walk_FnExactIsNormal (v : Value) (p : Pl) (v' : Value) (ws : List Int) (w : World) (h : IsP w v p) (h' : IsInts w v' ws) :
  Calls Tryz.prog 14 #[v,v'] w fun e W'=>e = .returned (.bool true) ∧ Below w.heap.size w W':=calls_2 (does_FnExactIsNormal p h.1 ws h'.1) h.2 h'.2
end Go.Proofs.YtgpdmgaemhelgaaGreat
