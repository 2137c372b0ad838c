/-
  The exact law of CheckRewrite. No condition.
-/
import Derived.Test.YtgpdmgaemhelgaaGreatKSDcWXCk
import Derived.Test.YtgpdmgaemhelgaaGreatKSDca
import Derived.Test.YtgpdmgaemhelgaaGreatJSVStQ
import Derived.Test.YtgpdmgaemhelgaaGreatJSVSmS
import Derived.Test.YtgpdmgaemhelgaaGreatJSVGo
set_option maxHeartbeats 4000000
set_option maxRecDepth 100000
set_option linter.unusedVariables false
set_option linter.unusedSimpArgs false
namespace Go.Proofs.YtgpdmgaemhelgaaGreat
open Go.RowKit
theorem does_FnExactCheckRewrite (p : Pl) (hp : MostP p) (q : Pl) (hq : MostP q) (ws : List Int) (hl : ws.length ≤ big) (S : List (Int × List Int)) (hS : mostSt S) : Does Tryz.prog 13 [] [pD p,pD q,intsD ws,.sl 2 (S.map stE)] (Bo true) []:=by
 unfold big at hl
 have hz:=szPlan_ok p hp 1048576 (by decide) (by decide)
 have hml : (S.map stE).length = S.length:=List.length_map ..
 by_cases hw : ws.length ≤ 1048576
 ·by_cases hf : (psz p : Int) ≤ 1048576
  ·rw [szV_t hf] at hz
   have hy:=szPlan_ok q hq (1048576 - psz p) (by omega) (by omega)
   by_cases hg : (psz q : Int) ≤ 1048576 - psz p
   ·rw [szV_t hg] at hy
    have hx:=szStepS_ok S hS (1048576 - psz p - psz q) (by omega) (by omega)
    by_cases hh : (ssz S : Int) ≤ 1048576 - psz p - psz q
    ·rw [szV_t hh] at hx
     have hsl:=ssz_len S
     have hS2 : ∀ s,s ∈ S → s.2.length < 2000000:=fun s hs=>by have:=ssz_mem hs; omega
     have h1:=toPlan_ok p (by omega)
     have h2:=toPlan_ok q (by omega)
     have h3:=toIntS_ok ws hw
     have h4:=toStepS_ok S (by omega)
     have a1:=CheckRewrite_impl (ws:=ws) (by omega) (p:=p) (by omega) (q:=q) (by omega) S hS2 (by omega)
     have a2:=CheckRewrite_spec (ws:=ws) (by omega) (p:=p) (by omega) (q:=q) (by omega) S hS2 (by omega)
     have e1:=eqPlan_ok p (by omega)
     have e2:=eqPlan_ok q (by omega)
     have e3:=eqIntS_ok ws hw
     have e4:=eqStepS_ok S (by omega)
     generalize ckO ws S p q = b at *
     generalize S.map stE = ds at *
     refine Bg c_Z13 mixed (go1 trivial ?_)
     refine Uc trivial (hz) (go1 trivial ?_)
     refine Uc trivial (hy) (go1 trivial ?_)
     refine Uc trivial (hx) (go1 trivial ?_)
     refine Uc trivial (h1) (go1 trivial ?_)
     refine Uc trivial (h2) (go1 trivial ?_)
     refine Uc trivial (h3) (go1 trivial ?_)
     refine Uc trivial (h4) (go1 trivial ?_)
     refine Uc trivial (a2) (go1 trivial ?_)
     refine Uc trivial (h1) (go1 trivial ?_)
     refine Uc trivial (h2) (go1 trivial ?_)
     refine Uc trivial (h3) (go1 trivial ?_)
     refine Uc trivial (h4) (go1 trivial ?_)
     refine Uc trivial (a1) (go1 trivial ?_)
     refine Uc trivial (h1) (go1 trivial ?_)
     refine Uc trivial (e1) (go1 trivial ?_)
     refine Uc trivial (h2) (go1 trivial ?_)
     refine Uc trivial (e2) (go1 trivial ?_)
     refine Uc trivial (h3) (go1 trivial ?_)
     refine Uc trivial (e3) (go1 trivial ?_)
     refine Uc trivial (h4) (go1 trivial ?_)
     exact Uc trivial (e4) (go0 trivial)
    ·rw [szV_f hh] at hx
     generalize S.map stE = ds at *
     refine Bg c_Z13 mixed (go1 trivial ?_)
     refine Uc trivial (hz) (go1 trivial ?_)
     refine Uc trivial (hy) (go1 trivial ?_)
     exact Uc trivial (hx) (go0 trivial)
   ·rw [szV_f hg] at hy
    generalize S.map stE = ds at *
    refine Bg c_Z13 mixed (go1 trivial ?_)
    refine Uc trivial (hz) (go1 trivial ?_)
    exact Uc trivial (hy) (go0 trivial)
  ·rw [szV_f hf] at hz
   generalize S.map stE = ds at *
   refine Bg c_Z13 mixed (go1 trivial ?_)
   exact Uc trivial (hz) (go0 trivial)
 ·generalize S.map stE = ds at *
  exact Bg c_Z13 mixed (go0 trivial)
theorem walk_FnExactCheckRewrite (v : Value) (p : Pl) (v' : Value) (q : Pl) (v'' : Value) (ws : List Int) (v3 : Value) (S : List (Int × List Int)) (w : World) (h : IsP w v p) (h' : IsP w v' q) (h'' : IsInts w v'' ws) (h3 : IsSteps w v3 S) :
  Calls Tryz.prog 13 #[v,v',v'',v3] w fun e W'=>e = .returned (.bool true) ∧ Below w.heap.size w W':=calls4 (does_FnExactCheckRewrite p h.1 q h'.1 ws h''.1 S h3.1) h.2 h'.2 h''.2 h3.2
end Go.Proofs.YtgpdmgaemhelgaaGreat
