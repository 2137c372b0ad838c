/-
  The law that normalizing is certified. No condition.
-/
import Derived.Test.YtgpdmgaemhelgaaGreatKSDcWNrm
import Derived.Test.YtgpdmgaemhelgaaGreatKSDca
import Derived.Test.YtgpdmgaemhelgaaGreatJSVNmO
import Derived.Test.YtgpdmgaemhelgaaGreatJSVCk
import Derived.Test.YtgpdmgaemhelgaaGreatJSVLaw
import Derived.Test.YtgpdmgaemhelgaaGreatJSVYld
set_option maxHeartbeats 4000000
set_option maxRecDepth 100000
set_option linter.unusedVariables false
set_option linter.unusedSimpArgs false
namespace Go.Proofs.YtgpdmgaemhelgaaGreat
open Go.RowKit
theorem does_FnNormalize (cs : List Nat) (hc : ∀ b,b ∈ cs → b < 256) : Does Tryz.prog 10 [] [bytesD cs] (Bo true) []:=by
 by_cases hlen : cs.length ≤ 1048576
 ·obtain ⟨p,ws,hdr,hz,hwl⟩:=DrawNormalize_ok cs hc
  have n1:=Normalize_impl p (by omega) ws (by omega)
  have n2:=Normalize_spec p (by omega) ws (by omega)
  have hqz:=nmO_sz (ws:=ws) (p:=p)
  have e1:=equalPlans_ok (nmO ws p).1 (by omega)
  obtain ⟨_,_,w1⟩:=PlanWidth_fn p (by omega) ws (by omega)
  by_cases hz0 : PV ws p = 0
  ·have e0 : nmO ws p = (zP,[]):=if_pos hz0
   rw [e0] at n1 n2 e1
   rw [hz0] at w1
   have e2:=equalSteps_same [] (by decide) (fun s hs=>by cases hs)
   simp only [List.map_nil] at n1 n2 e2
   refine Bg c_Z72 mixed (go1 @bytesD.eq_1 ?_)
   refine Uc @bytesD.eq_1 (hdr) (go1 @bytesD.eq_1 ?_)
   refine Uc @bytesD.eq_1 (n1) (go1 @bytesD.eq_1 ?_)
   refine Uc @bytesD.eq_1 (n2) (go1 @bytesD.eq_1 ?_)
   refine Uc @bytesD.eq_1 (e1) (go1 @bytesD.eq_1 ?_)
   refine Uc @bytesD.eq_1 (e2) (go1 @bytesD.eq_1 ?_)
   refine Uc @bytesD.eq_1 (w1) (go1 @bytesD.eq_1 ?_)
   refine Uc @bytesD.eq_1 (e1) (go1 @bytesD.eq_1 ?_)
   exact Uc @bytesD.eq_1 (e2) (go0 @bytesD.eq_1)
  ·obtain ⟨h1,h2,h3,h4,h5,h6⟩:=nmO_ok hz0
   have e2:=equalSteps_same (nmO ws p).2 (by omega) h6
   have ck:=CheckRewrite_impl (ws:=ws) (by omega) (p:=p) (q:=(nmO ws p).1) (by omega) (by omega) (nmO ws p).2 h6 (by omega)
   rw [ckO_t h1] at ck
   have hn:=IsNormal_impl (nmO ws p).1 (by omega) ws (by omega)
   have hne : (PV ws p == 0) = false:=beq_eq_false_iff_ne.2 hz0
   have hdl : ((nmO ws p).2.map stE).length = (nmO ws p).2.length:=List.length_map ..
   by_cases h40 : (nmO ws p).2.length = 40
   ·rw [h40] at hdl
    generalize (nmO ws p).2.map stE = ds at *
    generalize (nmO ws p).1 = q at *
    generalize PV ws p = w at *
    refine Bg c_Z72 mixed (go1 @bytesD.eq_1 ?_)
    refine Uc @bytesD.eq_1 (hdr) (go1 @bytesD.eq_1 ?_)
    refine Uc @bytesD.eq_1 (n1) (go1 @bytesD.eq_1 ?_)
    refine Uc @bytesD.eq_1 (n2) (go1 @bytesD.eq_1 ?_)
    refine Uc @bytesD.eq_1 (e1) (go1 @bytesD.eq_1 ?_)
    refine Uc @bytesD.eq_1 (e2) (go1 @bytesD.eq_1 ?_)
    refine Uc (cj2 @bytesD.eq_1 @hne) (w1) (go1 (cj2 @bytesD.eq_1 @hne) ?_)
    exact Uc (cj2 @bytesD.eq_1 @hdl) (ck) (go0 (cj2 @bytesD.eq_1 @hdl))
   ·have hnt : isN ws (nmO ws p).1 = true:=h5.resolve_left h40
    rw [hnt] at hn
    have hb40 : (((nmO ws p).2.length : Int) == 40) = false:=beq_eq_false_iff_ne.2 (by omega)
    generalize (nmO ws p).2.map stE = ds at *
    generalize (nmO ws p).1 = q at *
    generalize PV ws p = w at *
    refine Bg c_Z72 mixed (go1 @bytesD.eq_1 ?_)
    refine Uc @bytesD.eq_1 (hdr) (go1 @bytesD.eq_1 ?_)
    refine Uc @bytesD.eq_1 (n1) (go1 @bytesD.eq_1 ?_)
    refine Uc @bytesD.eq_1 (n2) (go1 @bytesD.eq_1 ?_)
    refine Uc @bytesD.eq_1 (e1) (go1 @bytesD.eq_1 ?_)
    refine Uc @bytesD.eq_1 (e2) (go1 @bytesD.eq_1 ?_)
    refine Uc (cj2 @bytesD.eq_1 @hne) (w1) (go1 (cj2 @bytesD.eq_1 @hne) ?_)
    refine Uc (cj3 @bytesD.eq_1 @hdl @hb40) (ck) (go1 (cj3 @bytesD.eq_1 @hdl @hb40) ?_)
    exact Uc (cj3 @bytesD.eq_1 @hdl @hb40) (hn) (go0 (cj3 @bytesD.eq_1 @hdl @hb40))
 ·exact Bg c_Z72 mixed (go0 @bytesD.eq_1)
theorem walk_FnNormalize (a : Option Addr) (len cap : Nat) (zs : List Int) (w : World) (h : IsRow .u8 w a len cap zs) :
  Calls Tryz.prog 10 #[.slice a len cap] w fun e W'=>e = .returned (.bool true) ∧ Below w.heap.size w W':=walk_of does_FnNormalize a len cap zs w h
end Go.Proofs.YtgpdmgaemhelgaaGreat
