/-
  CheckRewrite of both packages; drawn certificates. No condition.
-/
import Derived.Test.YtgpdmgaemhelgaaGreatKSDca
import Derived.Test.YtgpdmgaemhelgaaGreatKSDcj
import Derived.Test.YtgpdmgaemhelgaaGreatJSVTruI
import Derived.Test.YtgpdmgaemhelgaaGreatJSVAsD
import Derived.Test.YtgpdmgaemhelgaaGreatJSVCall
set_option maxHeartbeats 4000000
set_option maxRecDepth 100000
set_option linter.unusedVariables false
set_option linter.unusedSimpArgs false
namespace Go.Proofs.YtgpdmgaemhelgaaGreat
open Go.RowKit
noncomputable instance ckDec (ws : List Int) (S : List (Int × List Int)) (p q : Pl) : Decidable (asO ws S p = some q):=Classical.propDecidable _
noncomputable def ckO (ws : List Int) (S : List (Int × List Int)) (p q : Pl) : Bool:=decide (asO ws S p = some q)
theorem asO_sz {ws : List Int} {S : List (Int × List Int)} {p x : Pl} (h : asO ws S p = some x) : psz x ≤ 457727:=by
 unfold asO at h
 split at h
 ·cases h
 ·rename_i hz
  obtain ⟨hw,hwf⟩:=PV_wf (show PV ws p ≠ 0 by omega)
  have:=wf_size (asP_wf hw S hwf h)
  rw [pw_8] at this
  exact this
theorem ckO_n {ws : List Int} {S : List (Int × List Int)} {p : Pl} (q : Pl) (h : asO ws S p = none) : ckO ws S p q = false:=decide_eq_false (fun g=>by rw [h] at g; cases g)
theorem ckO_t {ws : List Int} {S : List (Int × List Int)} {p q : Pl} (h : asO ws S p = some q) : ckO ws S p q = true:=decide_eq_true h
theorem ckO_f {ws : List Int} {S : List (Int × List Int)} {p x q : Pl} (h : asO ws S p = some x) (hne : ¬ x = q) : ckO ws S p q = false:=decide_eq_false (fun g=>by rw [h] at g; exact hne (Option.some.inj g))
section
variable {ws : List Int} (hl : ws.length ≤ 1048576) {p q : Pl} (hs : psz p ≤ 1048576) (hq : psz q ≤ 1048576) (S : List (Int × List Int)) (hS : ∀ s,s ∈ S → s.2.length < 2000000) (hn : S.length ≤ 1048576)
include hl hs hq hS hn
theorem CheckRewrite_impl : Does Tryz.prog 32 [] [pD p,pD q,intsD ws,.sl 2 (S.map stE)] (Bo (ckO ws S p q)) []:=by
 have h1:=certTo_ok hl hs S hS hn
 cases ho : asO ws S p with
 | none=>
  rw [ho] at h1
  rw [ckO_n q ho]
  unfold paD at h1
  generalize S.map stE = ds at *
  refine Bg c_Z34 mixed (go1 trivial ?_)
  exact Uc trivial (h1) (go0 trivial)
 | some x=>
  have hx:=asO_sz ho
  have hc:=samePlan_ok x (by omega) q hq
  rw [ho] at h1
  unfold paD at h1
  generalize S.map stE = ds at *
  by_cases hxq : x = q
  ·rw [ckO_t (by rw [ho,hxq])]
   have hc:=hc.1 hxq
   refine Bg c_Z34 mixed (go1 trivial ?_)
   refine Uc trivial (h1) (go1 trivial ?_)
   exact Uc trivial (hc) (go0 trivial)
  ·rw [ckO_f ho hxq]
   have hc:=hc.2 hxq
   refine Bg c_Z34 mixed (go1 trivial ?_)
   refine Uc trivial (h1) (go1 trivial ?_)
   exact Uc trivial (hc) (go0 trivial)
theorem CheckRewrite_spec : Does Tryz.prog 33 [] [pD p,pD q,intsD ws,.sl 2 (S.map stE)] (Bo (ckO ws S p q)) []:=by
 have h1:=ApplySteps_spec hl hs S hS hn
 cases ho : asO ws S p with
 | none=>
  rw [ho] at h1
  rw [ckO_n q ho]
  unfold paD at h1
  generalize S.map stE = ds at *
  refine Bg c_Z44 mixed (go1 trivial ?_)
  exact Uc trivial (h1) (go0 trivial)
 | some x=>
  have hx:=asO_sz ho
  have hc:=equalPlansS_ok x (by omega) q hq
  rw [ho] at h1
  unfold paD at h1
  generalize S.map stE = ds at *
  by_cases hxq : x = q
  ·rw [ckO_t (by rw [ho,hxq])]
   have hc:=hc.1 hxq
   refine Bg c_Z44 mixed (go1 trivial ?_)
   refine Uc trivial (h1) (go1 trivial ?_)
   exact Uc trivial (hc) (go0 trivial)
  ·rw [ckO_f ho hxq]
   have hc:=hc.2 hxq
   refine Bg c_Z44 mixed (go1 trivial ?_)
   refine Uc trivial (h1) (go1 trivial ?_)
   exact Uc trivial (hc) (go0 trivial)
end
theorem DrawCheckRewrite_ok (cs : List Nat) (hc : ∀ b,b ∈ cs → b < 256) : ∃ (p q : Pl) (ws : List Int) (S : List (Int × List Int)),Does Tryz.prog 31 [] [bytesD cs] (.tup [pD p,pD q,intsD ws,.sl 2 (S.map stE)]) [] ∧ psz p ≤ 11100 ∧ psz q ≤ 457727 ∧ (2 ≤ ws.length ∧ ws.length ≤ 3) ∧ S.length ≤ 3 ∧ (∀ s,s ∈ S → s.2.length ≤ 8):=by
 have hs : Src (cs.take 2000):=⟨fun b hb=>hc b (List.mem_of_mem_take hb),by rw [List.length_take]; omega⟩
 have hr:=newReader_ok cs
 obtain ⟨p,ws,S,q0,h1,hz,hwl,hS,hS8,hq0⟩:=someSteps_pos hs 0 (by decide)
 have h2:=ApplySteps_spec (ws:=ws) (by omega) (p:=p) (by omega) S (fun s hm=>by have:=hS8 s hm; omega) (by omega)
 have h3:=copyPlan_ok p (by omega)
 obtain ⟨k,hk,_,_,_⟩:=pick_ok hs q0 (by omega) 5 (by omega)
 cases ho : asO ws S p with
 | none=>
  rw [ho] at h2
  refine ⟨p,p,ws,S,?_,hz,by omega,hwl,hS,hS8⟩
  unfold paD at h2
  generalize S.map stE = ds at *
  refine Bg c_Z19 mixed (go1 trivial ?_)
  refine UcR [3000001] trivial (hr) (go1 trivial ?_)
  refine UcR [3000001] trivial (h1) (go1 trivial ?_)
  refine Uc trivial (h2) (go1 trivial ?_)
  exact Uc trivial (h3) (go0 trivial)
 | some x=>
  have hx:=asO_sz ho
  rw [ho] at h2
  unfold paD at h2
  by_cases hk0 : k = 0
  ·subst hk0
   refine ⟨p,p,ws,S,?_,hz,by omega,hwl,hS,hS8⟩
   generalize S.map stE = ds at *
   refine Bg c_Z19 mixed (go1 trivial ?_)
   refine UcR [3000001] trivial (hr) (go1 trivial ?_)
   refine UcR [3000001] trivial (h1) (go1 trivial ?_)
   refine Uc trivial (h2) (go1 trivial ?_)
   refine UcR [3000001] trivial (hk) (go1 trivial ?_)
   exact Uc trivial (h3) (go0 trivial)
  ·refine ⟨p,x,ws,S,?_,hz,hx,hwl,hS,hS8⟩
   generalize S.map stE = ds at *
   refine Bg c_Z19 mixed (go1 trivial ?_)
   refine UcR [3000001] trivial (hr) (go1 trivial ?_)
   refine UcR [3000001] trivial (h1) (go1 trivial ?_)
   refine Uc trivial (h2) (go1 trivial ?_)
   exact UcR [3000001] trivial (hk) (go0 trivial)
end Go.Proofs.YtgpdmgaemhelgaaGreat
