/-
  The law that normalizing keeps the width. No condition.
-/
import Derived.Test.YtgpdmgaemhelgaaGreatKSDcWNrw
import Derived.Test.YtgpdmgaemhelgaaGreatKSDca
import Derived.Test.YtgpdmgaemhelgaaGreatJSVNmO
import Derived.Test.YtgpdmgaemhelgaaGreatJSVCk
import Derived.Test.YtgpdmgaemhelgaaGreatJSVLaw
import Derived.Test.YtgpdmgaemhelgaaGreatJSVStS
import Derived.Test.YtgpdmgaemhelgaaGreatJSVPlanE
import Derived.Test.YtgpdmgaemhelgaaGreatJSVYld
import Derived.Test.YtgpdmgaemhelgaaGreatJSVScn
set_option maxHeartbeats 4000000
set_option maxRecDepth 100000
set_option linter.unusedVariables false
set_option linter.unusedSimpArgs false
namespace Go.Proofs.YtgpdmgaemhelgaaGreat
open Go.RowKit
theorem does_FnNormalizeWidth (cs : List Nat) (hc : ∀ b,b ∈ cs → b < 256) : Does Tryz.prog 12 [] [bytesD cs] (Bo true) []:=by
 by_cases hlen : cs.length ≤ 1048576
 ·obtain ⟨p,ws,hdr,hz,hwl⟩:=DrawNormalize_ok cs hc
  have n1:=Normalize_impl p (by omega) ws (by omega)
  have n2:=Normalize_spec p (by omega) ws (by omega)
  have hqz:=nmO_sz (ws:=ws) (p:=p)
  have e1:=equalPlans_ok (nmO ws p).1 (by omega)
  obtain ⟨_,_,w1⟩:=PlanWidth_fn p (by omega) ws (by omega)
  by_cases hz0 : PV ws p = 0
  ·have e0 : nmO ws p = (zP,[]):=if_pos hz0
   rw [e0] at n1 n2 e1
   rw [hz0] at w1
   have e2:=equalSteps_same [] (by decide) (fun s hs=>by cases hs)
   simp only [List.map_nil] at n1 n2 e2
   refine Bg c_Z24 mixed (go1 @bytesD.eq_1 ?_)
   refine Uc @bytesD.eq_1 (hdr) (go1 @bytesD.eq_1 ?_)
   refine Uc @bytesD.eq_1 (n1) (go1 @bytesD.eq_1 ?_)
   refine Uc @bytesD.eq_1 (n2) (go1 @bytesD.eq_1 ?_)
   refine Uc @bytesD.eq_1 (e1) (go1 @bytesD.eq_1 ?_)
   refine Uc @bytesD.eq_1 (e2) (go1 @bytesD.eq_1 ?_)
   refine Uc @bytesD.eq_1 (w1) (go1 @bytesD.eq_1 ?_)
   refine Uc @bytesD.eq_1 (e1) (go1 @bytesD.eq_1 ?_)
   exact Uc @bytesD.eq_1 (e2) (go0 @bytesD.eq_1)
  ·obtain ⟨h1,h2,h3,h4,h5,h6⟩:=nmO_ok hz0
   have e2:=equalSteps_same (nmO ws p).2 (by omega) h6
   have hne : (PV ws p == 0) = false:=beq_eq_false_iff_ne.2 hz0
   obtain ⟨_,_,w2⟩:=PlanWidth_fn (nmO ws p).1 (by omega) ws (by omega)
   have t1:=TablesOf_impl (ws:=ws) (by omega) (p:=(nmO ws p).1) (by omega) (by rw [h2]; exact hz0)
   have t2:=TablesOf_impl (ws:=ws) (by omega) (p:=p) (by omega) hz0
   rw [tbs_same h4 ws.length] at t1
   rw [h2] at w2
   have htl : (tbs p ws.length).length ≤ ws.length:=by
    unfold tbs
    rw [List.length_map]
    exact Nat.le_trans (List.length_filter_le _ _) (by rw [List.length_range]; exact Nat.le_refl _)
   have e3:=eqIntsP_ok (tbs p ws.length) (by omega)
   generalize tbs p ws.length = tb at *
   generalize (nmO ws p).2.map stE = ds at *
   generalize (nmO ws p).1 = q at *
   generalize PV ws p = w at *
   refine Bg c_Z24 mixed (go1 @bytesD.eq_1 ?_)
   refine Uc @bytesD.eq_1 (hdr) (go1 @bytesD.eq_1 ?_)
   refine Uc @bytesD.eq_1 (n1) (go1 @bytesD.eq_1 ?_)
   refine Uc @bytesD.eq_1 (n2) (go1 @bytesD.eq_1 ?_)
   refine Uc @bytesD.eq_1 (e1) (go1 @bytesD.eq_1 ?_)
   refine Uc @bytesD.eq_1 (e2) (go1 @bytesD.eq_1 ?_)
   refine Uc (cj2 @bytesD.eq_1 @hne) (w1) (go1 (cj2 @bytesD.eq_1 @hne) ?_)
   refine Uc @bytesD.eq_1 (w2) (go1 @bytesD.eq_1 ?_)
   refine Uc @bytesD.eq_1 (w1) (go1 @bytesD.eq_1 ?_)
   refine Uc @bytesD.eq_1 (t1) (go1 @bytesD.eq_1 ?_)
   refine Uc @bytesD.eq_1 (t2) (go1 @bytesD.eq_1 ?_)
   exact Uc @bytesD.eq_1 (e3) (go0 @bytesD.eq_1)
 ·exact Bg c_Z24 mixed (go0 @bytesD.eq_1)
theorem walk_FnNormalizeWidth (a : Option Addr) (len cap : Nat) (zs : List Int) (w : World) (h : IsRow .u8 w a len cap zs) :
  Calls Tryz.prog 12 #[.slice a len cap] w fun e W'=>e = .returned (.bool true) ∧ Below w.heap.size w W':=walk_of does_FnNormalizeWidth a len cap zs w h
end Go.Proofs.YtgpdmgaemhelgaaGreat
