/-
  The law that certificates are checked. No condition.
-/
import Derived.Test.YtgpdmgaemhelgaaGreatKSDcWCk
import Derived.Test.YtgpdmgaemhelgaaGreatKSDca
import Derived.Test.YtgpdmgaemhelgaaGreatKSVCk
import Derived.Test.YtgpdmgaemhelgaaGreatJSVLaw
import Derived.Test.YtgpdmgaemhelgaaGreatJSVCall
set_option maxHeartbeats 4000000
set_option maxRecDepth 100000
set_option linter.unusedVariables false
set_option linter.unusedSimpArgs false
namespace Go.Proofs.YtgpdmgaemhelgaaGreat
open Go.RowKit
theorem asO_nil {ws : List Int} {p : Pl} (h : PV ws p ≠ 0) : asO ws [] p = some p:=if_neg (fun g=>g.elim h (fun g=>by simp at g))
theorem does_FnCheckRewrite (cs : List Nat) (hc : ∀ b,b ∈ cs → b < 256) : Does Tryz.prog 9 [] [bytesD cs] (Bo true) []:=by
 by_cases hlen : cs.length ≤ 1048576
 ·obtain ⟨p,q,ws,S,hdr,hz,hzq,hwl,hSl,hS8⟩:=DrawCheckRewrite_ok cs hc
  have hS8' : ∀ s,s ∈ S → s.2.length < 2000000:=fun s hs=>by have:=hS8 s hs; omega
  have a1:=CheckRewrite_impl (ws:=ws) (by omega) (p:=p) (by omega) (q:=q) (by omega) S hS8' (by omega)
  have a2:=CheckRewrite_spec (ws:=ws) (by omega) (p:=p) (by omega) (q:=q) (by omega) S hS8' (by omega)
  obtain ⟨_,_,w1⟩:=PlanWidth_fn p (by omega) ws (by omega)
  by_cases hne : PV ws p = 0
  ·rw [hne] at w1
   generalize ckO ws S p q = b at *
   generalize S.map stE = ds at *
   refine Bg c_Z24 mixed (go1 @bytesD.eq_1 ?_)
   refine Uc @bytesD.eq_1 (hdr) (go1 @bytesD.eq_1 ?_)
   refine Uc @bytesD.eq_1 (a1) (go1 @bytesD.eq_1 ?_)
   refine Uc @bytesD.eq_1 (a2) (go1 @bytesD.eq_1 ?_)
   refine Uc @bytesD.eq_1 (w1) (go1 @bytesD.eq_1 ?_)
   exact Uc @bytesD.eq_1 (a2) (go0 @bytesD.eq_1)
  ·have hw0 : (PV ws p == 0) = false:=beq_eq_false_iff_ne.2 hne
   have b1:=ApplySteps_impl (ws:=ws) (by omega) (p:=p) (by omega) S hS8' (by omega)
   have b0:=CheckRewrite_impl (ws:=ws) (by omega) (p:=p) (by omega) (q:=p) (by omega) [] (fun s hs=>by cases hs) (by decide)
   rw [ckO_t (asO_nil hne)] at b0
   have b0:=b0.weak (es:=[pD p,pD p,intsD ws,.nul]) ⟨Sub.refl _,Sub.refl _,Sub.refl _,Sub.nul 2,trivial⟩ (Sub.refl _)
   cases ho : asO ws S p with
   | none=>
    rw [ho] at b1
    rw [ckO_n q ho] at a1 a2
    unfold paD at b1
    generalize PV ws p = w at *
    generalize S.map stE = ds at *
    refine Bg c_Z24 mixed (go1 @bytesD.eq_1 ?_)
    refine Uc @bytesD.eq_1 (hdr) (go1 @bytesD.eq_1 ?_)
    refine Uc @bytesD.eq_1 (a1) (go1 @bytesD.eq_1 ?_)
    refine Uc @bytesD.eq_1 (a2) (go1 @bytesD.eq_1 ?_)
    refine Uc (cj2 @bytesD.eq_1 @hw0) (w1) (go1 (cj2 @bytesD.eq_1 @hw0) ?_)
    refine Uc @bytesD.eq_1 (b1) (go1 @bytesD.eq_1 ?_)
    exact Uc @bytesD.eq_1 (b0) (go0 @bytesD.eq_1)
   | some x=>
    have hx:=asO_sz ho
    have b2:=CheckRewrite_impl (ws:=ws) (by omega) (p:=p) (by omega) (q:=x) (by omega) S hS8' (by omega)
    rw [ckO_t ho] at b2
    rw [ho] at b1
    unfold paD at b1
    by_cases hxq : x = q
    ·rw [ckO_t (by rw [ho,hxq])] at a1 a2
     subst hxq
     have e1:=equalPlans_ok x (by omega)
     generalize PV ws p = w at *
     generalize S.map stE = ds at *
     refine Bg c_Z24 mixed (go1 @bytesD.eq_1 ?_)
     refine Uc @bytesD.eq_1 (hdr) (go1 @bytesD.eq_1 ?_)
     refine Uc @bytesD.eq_1 (a1) (go1 @bytesD.eq_1 ?_)
     refine Uc @bytesD.eq_1 (a2) (go1 @bytesD.eq_1 ?_)
     refine Uc (cj2 @bytesD.eq_1 @hw0) (w1) (go1 (cj2 @bytesD.eq_1 @hw0) ?_)
     refine Uc @bytesD.eq_1 (b1) (go1 @bytesD.eq_1 ?_)
     refine Uc @bytesD.eq_1 (b0) (go1 @bytesD.eq_1 ?_)
     refine Uc @bytesD.eq_1 (e1) (go1 @bytesD.eq_1 ?_)
     exact Uc @bytesD.eq_1 (a1) (go0 @bytesD.eq_1)
    ·rw [ckO_f ho hxq] at a1 a2
     generalize PV ws p = w at *
     generalize S.map stE = ds at *
     refine Bg c_Z24 mixed (go1 @bytesD.eq_1 ?_)
     refine Uc @bytesD.eq_1 (hdr) (go1 @bytesD.eq_1 ?_)
     refine Uc @bytesD.eq_1 (a1) (go1 @bytesD.eq_1 ?_)
     refine Uc @bytesD.eq_1 (a2) (go1 @bytesD.eq_1 ?_)
     refine Uc (cj2 @bytesD.eq_1 @hw0) (w1) (go1 (cj2 @bytesD.eq_1 @hw0) ?_)
     refine Uc @bytesD.eq_1 (b1) (go1 @bytesD.eq_1 ?_)
     refine Uc @bytesD.eq_1 (b0) (go1 @bytesD.eq_1 ?_)
     exact Uc @bytesD.eq_1 (b2) (go0 @bytesD.eq_1)
 ·exact Bg c_Z24 mixed (go0 @bytesD.eq_1)
theorem walk_FnCheckRewrite (a : Option Addr) (len cap : Nat) (zs : List Int) (w : World) (h : IsRow .u8 w a len cap zs) :
  Calls Tryz.prog 9 #[.slice a len cap] w fun e W'=>e = .returned (.bool true) ∧ Below w.heap.size w W':=walk_of does_FnCheckRewrite a len cap zs w h
end Go.Proofs.YtgpdmgaemhelgaaGreat
